import PyProof.Rows.All
import Wide.All
import OpenK.AllK
import Wide.FinOn
import HandS.Base
import HandS.Call
import HandS.List
import HandS.Comp
import HandS.Ends
import KE.DataEq
import KE.LtSeq
import HandS.ForMost
import HandS.IsInst
import HandS.Wide
import HandS.TupAny
import HandS.Codes
import HandS.RevRange
import HandS.Walk
import HandS.More
import HandS.Sort
import PyProof.Rows.Range3
import HandS.Text
import PySem.Challenge.RW_rulestead_k07_blocks_and_heads
set_option Elab.async false
set_option linter.all false
set_option maxRecDepth 100000
set_option maxHeartbeats 8000000
/-! Tuples compared by < and >, where only the first pair that differs need be comparable. -/
namespace KA
open PySem PySem.SeqAt
open PySem.AutoSeq1 (wpAny_loadPart')
open PySem.MeetsSeq PySem.MeetsSeq2 PySem.MeetsSeq3

/-- u op v gives k, nothing changes -/
def Rc (op : CmpOp) (A : Around) (s : Shared) (u v : Value) (k : Bool) : Prop :=
  ∀ (prog : Program) (w : World) (E : Value → Shared → Prop) (Q : Value → Shared → Prop), Q (.bool k) s → wpAny (model prog w) A (richCompare op u v) Q E s
theorem lt_mixed (p q : Addr) (as bs : Array Value) (m m2 : Nat) (da db : Option Addr) (sa sb : Array (Option Value)) (e r : Nat → Bool) :
    Meets (Builtin.«tuple.__lt__» ⟨[.ref p, .ref q], []⟩)
      (fun A R s => s.heap.get? p = some { cls := .type "tuple", dict := da, data := .seq as m, slots := sa } ∧ s.heap.get? q = some { cls := .type "tuple", dict := db, data := .seq bs m2, slots := sb } ∧
        (∀ j (h1 : j < as.size) (h2 : j < bs.size), EqAt A.in1 s as[j] bs[j] (e j)) ∧
        (∀ j (h1 : j < as.size) (h2 : j < bs.size), (∀ i, i < j → e i = true) → e j = false → Rc .Lt A.in1 s as[j] bs[j] (r j)) ∧
        R (.ok (.ret (.bool (firstLt e r (decide (as.size < bs.size)) (List.range (min as.size bs.size)))))) s) :=
  .of_wp fun prog w A R s hyp => by
    obtain ⟨hp, gg, dr, tks, ox⟩ := s
    obtain ⟨gp, gq, heq, hrc, hR0⟩ := hyp
    have isT := AutoSeq1.sub_tuple_tuple
    have zl : (as.toList.zip bs.toList).length = min as.size bs.size := by simp
    wp_walk using wpAny_loadPart' gp, wpAny_loadPart' gq, wpAny_forIn_list _ (fun rem st s' => st.1 = none ∧ s' = ⟨hp, gg, dr, tks, ox⟩ ∧ ∃ i, (∀ x, x < i → e x = true) ∧ rem = (as.toList.zip bs.toList).drop i ∧
      R (.ok (.ret (.bool (firstLt e r (decide (as.size < bs.size)) ((List.range (min as.size bs.size)).drop i))))) ⟨hp, gg, dr, tks, ox⟩) _
    case turn =>
      rintro ⟨u, v⟩ rem st s' ⟨st1, rfl, i, same, hz, hR⟩
      have il : i < (as.toList.zip bs.toList).length := by
        rcases Nat.lt_or_ge i (as.toList.zip bs.toList).length with c | c
        · exact c
        · rw [List.drop_of_length_le c] at hz
          cases hz
      have im : i < min as.size bs.size := zl ▸ il
      have ia : i < as.size := Nat.lt_of_lt_of_le im (Nat.min_le_left _ _)
      have ib : i < bs.size := Nat.lt_of_lt_of_le im (Nat.min_le_right _ _)
      rw [List.drop_eq_getElem_cons il] at hz
      injection hz with huv hrem
      have eu : u = as[i] := by
        have t := congrArg Prod.fst huv
        simpa using t
      have ev : v = bs[i] := by
        have t := congrArg Prod.snd huv
        simpa using t
      subst eu ev
      have hcut : (List.range (min as.size bs.size)).drop i = i :: (List.range (min as.size bs.size)).drop (i + 1) := by
        simp [List.drop_eq_getElem_cons, im]
      rw [hcut] at hR
      refine wpAny_bind (heq i ia ib prog w _ _ ?_)
      cases ei : e i with
      | true =>
        rw [firstLt_yes ei] at hR
        wp_walk
        refine ⟨rfl, rfl, i + 1, fun x hx => ?_, hrem, hR⟩
        rcases Nat.lt_or_ge x i with c | c
        · exact same x c
        · rw [show x = i by omega]
          exact ei
      | false =>
        rw [firstLt_no ei] at hR
        have step := hrc i ia ib same ei prog w
        wp_walk using step
        exact ⟨_, rfl, by simpa using hR⟩
    case fin =>
      rintro ⟨c1, c2⟩ s' ⟨st1, rfl, i, same, hz, hR⟩
      simp only at st1
      subst st1
      have hge : min as.size bs.size ≤ i := by
        rcases Nat.lt_or_ge i (as.toList.zip bs.toList).length with c | c
        · rw [List.drop_eq_getElem_cons c] at hz
          cases hz
        · exact zl ▸ c
      rw [List.drop_of_length_le (by simpa using hge)] at hR
      wp_walk
      exact ⟨_, rfl, by simpa [Builtin.Tuple.tupleCompareSizes, firstLt] using hR⟩
    case h =>
      exact ⟨rfl, rfl, 0, fun x hx => absurd hx (Nat.not_lt_zero x), rfl, by simpa using hR0⟩
theorem gt_mixed (p q : Addr) (as bs : Array Value) (m m2 : Nat) (da db : Option Addr) (sa sb : Array (Option Value)) (e r : Nat → Bool) :
    Meets (Builtin.«tuple.__gt__» ⟨[.ref p, .ref q], []⟩)
      (fun A R s => s.heap.get? p = some { cls := .type "tuple", dict := da, data := .seq as m, slots := sa } ∧ s.heap.get? q = some { cls := .type "tuple", dict := db, data := .seq bs m2, slots := sb } ∧
        (∀ j (h1 : j < as.size) (h2 : j < bs.size), EqAt A.in1 s as[j] bs[j] (e j)) ∧
        (∀ j (h1 : j < as.size) (h2 : j < bs.size), (∀ i, i < j → e i = true) → e j = false → Rc .Gt A.in1 s as[j] bs[j] (r j)) ∧
        R (.ok (.ret (.bool (firstLt e r (decide (as.size > bs.size)) (List.range (min as.size bs.size)))))) s) :=
  .of_wp fun prog w A R s hyp => by
    obtain ⟨hp, gg, dr, tks, ox⟩ := s
    obtain ⟨gp, gq, heq, hrc, hR0⟩ := hyp
    have isT := AutoSeq1.sub_tuple_tuple
    have zl : (as.toList.zip bs.toList).length = min as.size bs.size := by simp
    wp_walk using wpAny_loadPart' gp, wpAny_loadPart' gq, wpAny_forIn_list _ (fun rem st s' => st.1 = none ∧ s' = ⟨hp, gg, dr, tks, ox⟩ ∧ ∃ i, (∀ x, x < i → e x = true) ∧ rem = (as.toList.zip bs.toList).drop i ∧
      R (.ok (.ret (.bool (firstLt e r (decide (as.size > bs.size)) ((List.range (min as.size bs.size)).drop i))))) ⟨hp, gg, dr, tks, ox⟩) _
    case turn =>
      rintro ⟨u, v⟩ rem st s' ⟨st1, rfl, i, same, hz, hR⟩
      have il : i < (as.toList.zip bs.toList).length := by
        rcases Nat.lt_or_ge i (as.toList.zip bs.toList).length with c | c
        · exact c
        · rw [List.drop_of_length_le c] at hz
          cases hz
      have im : i < min as.size bs.size := zl ▸ il
      have ia : i < as.size := Nat.lt_of_lt_of_le im (Nat.min_le_left _ _)
      have ib : i < bs.size := Nat.lt_of_lt_of_le im (Nat.min_le_right _ _)
      rw [List.drop_eq_getElem_cons il] at hz
      injection hz with huv hrem
      have eu : u = as[i] := by
        have t := congrArg Prod.fst huv
        simpa using t
      have ev : v = bs[i] := by
        have t := congrArg Prod.snd huv
        simpa using t
      subst eu ev
      have hcut : (List.range (min as.size bs.size)).drop i = i :: (List.range (min as.size bs.size)).drop (i + 1) := by
        simp [List.drop_eq_getElem_cons, im]
      rw [hcut] at hR
      refine wpAny_bind (heq i ia ib prog w _ _ ?_)
      cases ei : e i with
      | true =>
        rw [firstLt_yes ei] at hR
        wp_walk
        refine ⟨rfl, rfl, i + 1, fun x hx => ?_, hrem, hR⟩
        rcases Nat.lt_or_ge x i with c | c
        · exact same x c
        · rw [show x = i by omega]
          exact ei
      | false =>
        rw [firstLt_no ei] at hR
        have step := hrc i ia ib same ei prog w
        wp_walk using step
        exact ⟨_, rfl, by simpa using hR⟩
    case fin =>
      rintro ⟨c1, c2⟩ s' ⟨st1, rfl, i, same, hz, hR⟩
      simp only at st1
      subst st1
      have hge : min as.size bs.size ≤ i := by
        rcases Nat.lt_or_ge i (as.toList.zip bs.toList).length with c | c
        · rw [List.drop_eq_getElem_cons c] at hz
          cases hz
        · exact zl ▸ c
      rw [List.drop_of_length_le (by simpa using hge)] at hR
      wp_walk
      exact ⟨_, rfl, by simpa [Builtin.Tuple.tupleCompareSizes, firstLt] using hR⟩
    case h =>
      exact ⟨rfl, rfl, 0, fun x hx => absurd hx (Nat.not_lt_zero x), rfl, by simpa using hR0⟩
section
variable {A : Around} {s : Shared} {p q : Addr} {as bs : Array Value} {e r : Nat → Bool}
theorem rc_lt_tups (hp : s.heap.IsTuple p as) (hq : s.heap.IsTuple q bs) (hu : A.units < cLine) (he : ∀ j (h1 : j < as.size) (h2 : j < bs.size), EqAt A.in1 s as[j] bs[j] (e j))
    (hr : ∀ j (h1 : j < as.size) (h2 : j < bs.size), (∀ i, i < j → e i = true) → e j = false → Rc .Lt A.in1 s as[j] bs[j] (r j)) :
    Rc .Lt A s (.ref p) (.ref q) (firstLt e r (decide (as.size < bs.size)) (List.range (min as.size bs.size))) := fun prog w E Q k => by
  obtain ⟨⟨c1, d1, x1, z1⟩, o1, k1, n1, w1⟩ := id hp
  obtain ⟨⟨c2, d2, x2, z2⟩, o2, k2, n2, w2⟩ := id hq
  simp only at k1 w1 k2 w2
  subst k1 w1 k2 w2
  refine richCompare_meets_room (op := .Lt) ⟨_, o1, rfl⟩ ⟨_, o2, rfl⟩ F.slot_tuple_lt F.entry_tuple_lt (F.args_tuple_lt_2 _ _) (lt_mixed p q as bs n1 n2 d1 d2 z1 z2 e r) ?_ hu
  exact ⟨o1, o2, he, hr, ⟨(fun x => nomatch x), k⟩⟩
theorem rc_gt_tups (hp : s.heap.IsTuple p as) (hq : s.heap.IsTuple q bs) (hu : A.units < cLine) (he : ∀ j (h1 : j < as.size) (h2 : j < bs.size), EqAt A.in1 s as[j] bs[j] (e j))
    (hr : ∀ j (h1 : j < as.size) (h2 : j < bs.size), (∀ i, i < j → e i = true) → e j = false → Rc .Gt A.in1 s as[j] bs[j] (r j)) :
    Rc .Gt A s (.ref p) (.ref q) (firstLt e r (decide (as.size > bs.size)) (List.range (min as.size bs.size))) := fun prog w E Q k => by
  obtain ⟨⟨c1, d1, x1, z1⟩, o1, k1, n1, w1⟩ := id hp
  obtain ⟨⟨c2, d2, x2, z2⟩, o2, k2, n2, w2⟩ := id hq
  simp only at k1 w1 k2 w2
  subst k1 w1 k2 w2
  refine richCompare_meets_room (op := .Gt) ⟨_, o1, rfl⟩ ⟨_, o2, rfl⟩ F.slot_tuple_gt F.entry_tuple_gt (F.args_tuple_gt_2 _ _) (gt_mixed p q as bs n1 n2 d1 d2 z1 z2 e r) ?_ hu
  exact ⟨o1, o2, he, hr, ⟨(fun x => nomatch x), k⟩⟩
end
end KA

/-! < and > of data whose items may be of unlike kinds behind the first difference. -/
namespace KA
open PySem PySem.SeqAt
mutual
/-- x < y as Python says; none: not comparable -/
def dlt : PyData → PyData → Option Bool
  | .int a, .int b => some (decide (a < b))
  | .str a, .str b => some (decide (a.cps.toList < b.cps.toList))
  | .tuple xs, .tuple ys => dltAll xs ys
  | _, _ => none
def dltAll : List PyData → List PyData → Option Bool
  | [], [] => some false
  | [], _ :: _ => some true
  | _ :: _, [] => some false
  | x :: xs, y :: ys => if PyData.eqv x y = true then dltAll xs ys else dlt x y
end
mutual
def dgt : PyData → PyData → Option Bool
  | .int a, .int b => some (decide (a > b))
  | .str a, .str b => some (decide (b.cps.toList < a.cps.toList))
  | .tuple xs, .tuple ys => dgtAll xs ys
  | _, _ => none
def dgtAll : List PyData → List PyData → Option Bool
  | [], [] => some false
  | [], _ :: _ => some false
  | _ :: _, [] => some true
  | x :: xs, y :: ys => if PyData.eqv x y = true then dgtAll xs ys else dgt x y
end
/-- what the first unequal pair gives, by place -/
def rAt (f : PyData → PyData → Option Bool) (xs ys : List PyData) (j : Nat) : Bool :=
  match xs[j]?, ys[j]? with
  | some x, some y => (f x y).getD false
  | _, _ => false
theorem scan_succ (e r : Nat → Bool) (z : Bool) : ∀ l : List Nat, firstLt e r z (l.map (· + 1)) = firstLt (fun j => e (j + 1)) (fun j => r (j + 1)) z l
  | [] => rfl
  | j :: t => by
    rw [List.map_cons]
    show (if e (j + 1) = true then firstLt e r z (t.map (· + 1)) else r (j + 1)) = _
    rw [scan_succ e r z t]
    rfl
theorem scan_lt : ∀ (xs ys : List PyData) (k : Bool), dltAll xs ys = some k → firstLt (pairEq xs ys) (rAt dlt xs ys) (decide (xs.length < ys.length)) (List.range (min xs.length ys.length)) = k
  | [], [], k, h => by
    rw [dltAll] at h
    exact (Option.some.inj h)
  | [], y :: ys, k, h => by
    rw [dltAll] at h
    rw [← Option.some.inj h]
    simp [firstLt]
  | x :: xs, [], k, h => by
    rw [dltAll] at h
    rw [← Option.some.inj h]
    simp [firstLt]
  | x :: xs, y :: ys, k, h => by
    rw [dltAll] at h
    have em : min (x :: xs).length (y :: ys).length = min xs.length ys.length + 1 := by
      rw [List.length_cons, List.length_cons]
      omega
    rw [em, List.range_succ_eq_map]
    by_cases hxy : PyData.eqv x y = true
    · rw [if_pos hxy] at h
      rw [firstLt_yes (show pairEq (x :: xs) (y :: ys) 0 = true from hxy), scan_succ, ← scan_lt xs ys k h]
      simp only [List.length_cons, Nat.add_lt_add_iff_right]
      rfl
    · rw [if_neg hxy] at h
      have hf : PyData.eqv x y = false := by
        cases c : PyData.eqv x y
        · rfl
        · exact absurd c hxy
      rw [firstLt_no (show pairEq (x :: xs) (y :: ys) 0 = false from hf)]
      show (dlt x y).getD false = k
      rw [h]
      rfl
theorem scan_gt : ∀ (xs ys : List PyData) (k : Bool), dgtAll xs ys = some k → firstLt (pairEq xs ys) (rAt dgt xs ys) (decide (xs.length > ys.length)) (List.range (min xs.length ys.length)) = k
  | [], [], k, h => by
    rw [dgtAll] at h
    exact (Option.some.inj h)
  | [], y :: ys, k, h => by
    rw [dgtAll] at h
    rw [← Option.some.inj h]
    simp [firstLt]
  | x :: xs, [], k, h => by
    rw [dgtAll] at h
    rw [← Option.some.inj h]
    simp [firstLt]
  | x :: xs, y :: ys, k, h => by
    rw [dgtAll] at h
    have em : min (x :: xs).length (y :: ys).length = min xs.length ys.length + 1 := by
      rw [List.length_cons, List.length_cons]
      omega
    rw [em, List.range_succ_eq_map]
    by_cases hxy : PyData.eqv x y = true
    · rw [if_pos hxy] at h
      rw [firstLt_yes (show pairEq (x :: xs) (y :: ys) 0 = true from hxy), scan_succ, ← scan_gt xs ys k h]
      simp only [List.length_cons, gt_iff_lt, Nat.add_lt_add_iff_right]
      rfl
    · rw [if_neg hxy] at h
      have hf : PyData.eqv x y = false := by
        cases c : PyData.eqv x y
        · rfl
        · exact absurd c hxy
      rw [firstLt_no (show pairEq (x :: xs) (y :: ys) 0 = false from hf)]
      show (dgt x y).getD false = k
      rw [h]
      rfl
mutual
theorem rc_lt : ∀ (d e : PyData) (k : Bool) (A : Around) (s : Shared) (a b : Value) (as bs : List Addr), Reads s.heap a d as → Reads s.heap b e bs → d.plain = true → e.plain = true → dlt d e = some k →
    A.units + min d.depth e.depth < cLine → Rc .Lt A s a b k
  | .int x, e, k, A, s, a, b, as, bs, ra, rb, pd, pe, h, hu => by
    cases e with
    | int y =>
      cases ra
      cases rb
      intro prog w E Q hq
      rw [dlt] at h
      cases h
      exact P.lt_int hq
    | _ => exact absurd h (by simp [dlt])
  | .str x, e, k, A, s, a, b, as, bs, ra, rb, pd, pe, h, hu => by
    cases e with
    | str y =>
      cases ra
      cases rb
      intro prog w E Q hq
      rw [dlt] at h
      cases h
      exact P.lt_str hq
    | _ => exact absurd h (by simp [dlt])
  | .tuple xs, e, k, A, s, a, b, as, bs, ra, rb, pd, pe, h, hu => by
    cases e with
    | tuple ys =>
      rw [dlt] at h
      cases ra with
      | @tuple l o vs n _ as1 h1 h2 h3 h4 =>
        cases rb with
        | @tuple l2 o2 vs2 n2 _ bs1 k1 k2 k3 k4 =>
          have z1 : vs.size = xs.length := by simpa using ReadsAll.length _ _ _ h4
          have z2 : vs2.size = ys.length := by simpa using ReadsAll.length _ _ _ k4
          have px : PyData.plainAll xs = true := pd
          have py : PyData.plainAll ys = true := pe
          have q := rc_lt_tups (A := A) (s := s) (e := pairEq xs ys) (r := rAt dlt xs ys) ⟨_, h1, h2, _, h3⟩ ⟨_, k1, k2, _, k3⟩ (room_here hu) (fun j j1 j2 => by
            have t := eqAt_plainAll xs ys A.in1 s vs.toList vs2.toList _ _ h4 k4 px py (room_in hu) j (by simpa using j1) (by simpa using j2)
            simpa using t) (fun j j1 j2 hb hj => by
            have t := rc_ltAll xs ys k A.in1 s vs.toList vs2.toList _ _ h4 k4 px py h (room_in hu) j (by simpa using j1) (by simpa using j2) hb hj
            simpa using t)
          rw [z1, z2, scan_lt xs ys k h] at q
          exact q
    | _ => exact absurd h (by simp [dlt])
  | .none, e, k, _, _, _, _, _, _, _, _, _, _, h, _ => absurd h (by cases e <;> simp [dlt])
  | .bool _, e, k, _, _, _, _, _, _, _, _, _, _, h, _ => absurd h (by cases e <;> simp [dlt])
  | .list _, e, k, _, _, _, _, _, _, _, _, _, _, h, _ => absurd h (by cases e <;> simp [dlt])
  | .dict _, e, k, _, _, _, _, _, _, _, _, _, _, h, _ => absurd h (by cases e <;> simp [dlt])
theorem rc_ltAll : ∀ (xs ys : List PyData) (k : Bool) (A : Around) (s : Shared) (vs ws : List Value) (as bs : List Addr), ReadsAll s.heap vs xs as → ReadsAll s.heap ws ys bs → PyData.plainAll xs = true → PyData.plainAll ys = true →
    dltAll xs ys = some k → A.units + min (PyData.depthAll xs) (PyData.depthAll ys) < cLine → ∀ j (h1 : j < vs.length) (h2 : j < ws.length), (∀ i, i < j → pairEq xs ys i = true) → pairEq xs ys j = false →
    Rc .Lt A s vs[j] ws[j] (rAt dlt xs ys j)
  | [], _, _, _, _, _, _, _, _, ra, _, _, _, _, _, j, h1, _, _, _ => by
    cases ra
    exact absurd h1 (Nat.not_lt_zero _)
  | _ :: _, [], _, _, _, _, _, _, _, _, rb, _, _, _, _, j, _, h2, _, _ => by
    cases rb
    exact absurd h2 (Nat.not_lt_zero _)
  | x :: xs, y :: ys, k, A, s, _, _, _, _, ra, rb, pa, pb, h, hu, j, h1, h2, hb, hj => by
    have pa2 : x.plain = true ∧ PyData.plainAll xs = true := by simpa [PyData.plainAll] using pa
    have pb2 : y.plain = true ∧ PyData.plainAll ys = true := by simpa [PyData.plainAll] using pb
    rw [dltAll] at h
    cases ra with
    | cons r rs =>
      cases rb with
      | cons t ts =>
        cases j with
        | zero =>
          have hf : PyData.eqv x y = false := hj
          rw [if_neg (by rw [hf]; exact Bool.false_ne_true)] at h
          have q := rc_lt x y k A s _ _ _ _ r t pa2.1 pb2.1 h (room_head hu)
          have ek : rAt dlt (x :: xs) (y :: ys) 0 = k := by
            show (dlt x y).getD false = k
            rw [h]
            rfl
          rw [ek]
          exact q
        | succ j =>
          have ht : PyData.eqv x y = true := hb 0 (Nat.zero_lt_succ j)
          rw [if_pos ht] at h
          exact rc_ltAll xs ys k A s _ _ _ _ rs ts pa2.2 pb2.2 h (room_tail hu) j (Nat.lt_of_succ_lt_succ h1) (Nat.lt_of_succ_lt_succ h2) (fun i hi => hb (i + 1) (Nat.succ_lt_succ hi)) hj
end
mutual
theorem rc_gt : ∀ (d e : PyData) (k : Bool) (A : Around) (s : Shared) (a b : Value) (as bs : List Addr), Reads s.heap a d as → Reads s.heap b e bs → d.plain = true → e.plain = true → dgt d e = some k →
    A.units + min d.depth e.depth < cLine → Rc .Gt A s a b k
  | .int x, e, k, A, s, a, b, as, bs, ra, rb, pd, pe, h, hu => by
    cases e with
    | int y =>
      cases ra
      cases rb
      intro prog w E Q hq
      rw [dgt] at h
      cases h
      exact P.gt_int hq
    | _ => exact absurd h (by simp [dgt])
  | .str x, e, k, A, s, a, b, as, bs, ra, rb, pd, pe, h, hu => by
    cases e with
    | str y =>
      cases ra
      cases rb
      intro prog w E Q hq
      rw [dgt] at h
      cases h
      exact P.gt_str hq
    | _ => exact absurd h (by simp [dgt])
  | .tuple xs, e, k, A, s, a, b, as, bs, ra, rb, pd, pe, h, hu => by
    cases e with
    | tuple ys =>
      rw [dgt] at h
      cases ra with
      | @tuple l o vs n _ as1 h1 h2 h3 h4 =>
        cases rb with
        | @tuple l2 o2 vs2 n2 _ bs1 k1 k2 k3 k4 =>
          have z1 : vs.size = xs.length := by simpa using ReadsAll.length _ _ _ h4
          have z2 : vs2.size = ys.length := by simpa using ReadsAll.length _ _ _ k4
          have px : PyData.plainAll xs = true := pd
          have py : PyData.plainAll ys = true := pe
          have q := rc_gt_tups (A := A) (s := s) (e := pairEq xs ys) (r := rAt dgt xs ys) ⟨_, h1, h2, _, h3⟩ ⟨_, k1, k2, _, k3⟩ (room_here hu) (fun j j1 j2 => by
            have t := eqAt_plainAll xs ys A.in1 s vs.toList vs2.toList _ _ h4 k4 px py (room_in hu) j (by simpa using j1) (by simpa using j2)
            simpa using t) (fun j j1 j2 hb hj => by
            have t := rc_gtAll xs ys k A.in1 s vs.toList vs2.toList _ _ h4 k4 px py h (room_in hu) j (by simpa using j1) (by simpa using j2) hb hj
            simpa using t)
          rw [z1, z2, scan_gt xs ys k h] at q
          exact q
    | _ => exact absurd h (by simp [dgt])
  | .none, e, k, _, _, _, _, _, _, _, _, _, _, h, _ => absurd h (by cases e <;> simp [dgt])
  | .bool _, e, k, _, _, _, _, _, _, _, _, _, _, h, _ => absurd h (by cases e <;> simp [dgt])
  | .list _, e, k, _, _, _, _, _, _, _, _, _, _, h, _ => absurd h (by cases e <;> simp [dgt])
  | .dict _, e, k, _, _, _, _, _, _, _, _, _, _, h, _ => absurd h (by cases e <;> simp [dgt])
theorem rc_gtAll : ∀ (xs ys : List PyData) (k : Bool) (A : Around) (s : Shared) (vs ws : List Value) (as bs : List Addr), ReadsAll s.heap vs xs as → ReadsAll s.heap ws ys bs → PyData.plainAll xs = true → PyData.plainAll ys = true →
    dgtAll xs ys = some k → A.units + min (PyData.depthAll xs) (PyData.depthAll ys) < cLine → ∀ j (h1 : j < vs.length) (h2 : j < ws.length), (∀ i, i < j → pairEq xs ys i = true) → pairEq xs ys j = false →
    Rc .Gt A s vs[j] ws[j] (rAt dgt xs ys j)
  | [], _, _, _, _, _, _, _, _, ra, _, _, _, _, _, j, h1, _, _, _ => by
    cases ra
    exact absurd h1 (Nat.not_lt_zero _)
  | _ :: _, [], _, _, _, _, _, _, _, _, rb, _, _, _, _, j, _, h2, _, _ => by
    cases rb
    exact absurd h2 (Nat.not_lt_zero _)
  | x :: xs, y :: ys, k, A, s, _, _, _, _, ra, rb, pa, pb, h, hu, j, h1, h2, hb, hj => by
    have pa2 : x.plain = true ∧ PyData.plainAll xs = true := by simpa [PyData.plainAll] using pa
    have pb2 : y.plain = true ∧ PyData.plainAll ys = true := by simpa [PyData.plainAll] using pb
    rw [dgtAll] at h
    cases ra with
    | cons r rs =>
      cases rb with
      | cons t ts =>
        cases j with
        | zero =>
          have hf : PyData.eqv x y = false := hj
          rw [if_neg (by rw [hf]; exact Bool.false_ne_true)] at h
          have q := rc_gt x y k A s _ _ _ _ r t pa2.1 pb2.1 h (room_head hu)
          have ek : rAt dgt (x :: xs) (y :: ys) 0 = k := by
            show (dgt x y).getD false = k
            rw [h]
            rfl
          rw [ek]
          exact q
        | succ j =>
          have ht : PyData.eqv x y = true := hb 0 (Nat.zero_lt_succ j)
          rw [if_pos ht] at h
          exact rc_gtAll xs ys k A s _ _ _ _ rs ts pa2.2 pb2.2 h (room_tail hu) j (Nat.lt_of_succ_lt_succ h1) (Nat.lt_of_succ_lt_succ h2) (fun i hi => hb (i + 1) (Nat.succ_lt_succ hi)) hj
end
end KA

/-! Rules over the layer: data of tuples read by values, their comparisons, items of lists. -/
namespace KA
open PySem PySem.Spec PyProof.Rows L2
mutual
/-- a value that reads as data over the tuples that stand at H -/
inductive Tp (H : Hp) : V → PyData → Prop
  | non : Tp H .non .none
  | bl (b : Bool) : Tp H (.bl b) (.bool b)
  | int (i : Int) : Tp H (.int i) (.int i)
  | str (x : Str) : Tp H (.str x) (.str x)
  | tup {a : Addr} {xs : List V} {ds : List PyData} : H a = some (.tup xs) → Tps H xs ds → Tp H (.ref a) (.tuple ds)
inductive Tps (H : Hp) : List V → List PyData → Prop
  | nil : Tps H [] []
  | cons {v : V} {vs : List V} {d : PyData} {ds : List PyData} : Tp H v d → Tps H vs ds → Tps H (v :: vs) (d :: ds)
end
/-- the tuples stay -/
def Tk (H H' : Hp) : Prop := ∀ a xs, H a = some (.tup xs) → H' a = some (.tup xs)
theorem Tk.refl (H : Hp) : Tk H H := fun _ _ h => h
theorem Tk.trans {H H1 H2 : Hp} (a : Tk H H1) (b : Tk H1 H2) : Tk H H2 := fun x o h => b x o (a x o h)
theorem Tk.of {H H' : Hp} (s : Same H H') : Tk H H' := fun a _ h => s a _ h
theorem Tk.new {H : Hp} {p : Addr} {o : HO} (h : H p = none) : Tk H (upd H p o) := fun a xs e => by
  rw [upd_ne (ne_of_none e h)]
  exact e
theorem Tk.lst {H : Hp} {p : Addr} {ys : List V} {o : HO} (h : H p = some (.lst ys)) : Tk H (upd H p o) := fun a xs e => by
  rw [upd_ne (ne_of e h (fun z => by cases z))]
  exact e
mutual
theorem Tp.mono {H H' : Hp} (k : Tk H H') : ∀ {d : PyData} {v : V}, Tp H v d → Tp H' v d
  | .none, _, h => by cases h; exact .non
  | .bool _, _, h => by cases h; exact .bl _
  | .int _, _, h => by cases h; exact .int _
  | .str _, _, h => by cases h; exact .str _
  | .tuple _, _, h => by
    cases h with
    | tup e r => exact .tup (k _ _ e) (Tps.mono k r)
  | .list _, _, h => nomatch h
  | .dict _, _, h => nomatch h
theorem Tps.mono {H H' : Hp} (k : Tk H H') : ∀ {ds : List PyData} {vs : List V}, Tps H vs ds → Tps H' vs ds
  | [], _, h => by cases h; exact .nil
  | _ :: _, _, h => by
    cases h with
    | cons a r => exact .cons (Tp.mono k a) (Tps.mono k r)
end
mutual
theorem Tp.dp {K : PySem.W.Frag} {H : Hp} : ∀ {d : PyData} {v : V}, Tp H v d → Dp K H v d
  | .none, _, h => by cases h; exact .non
  | .bool _, _, h => by cases h; exact .bl _
  | .int _, _, h => by cases h; exact .int _
  | .str _, _, h => by cases h; exact .str _
  | .tuple _, _, h => by
    cases h with
    | tup e r => exact .tup (SqT.of e) (Tps.dp r)
  | .list _, _, h => nomatch h
  | .dict _, _, h => nomatch h
theorem Tps.dp {K : PySem.W.Frag} {H : Hp} : ∀ {ds : List PyData} {vs : List V}, Tps H vs ds → DpAll K H vs ds
  | [], _, h => by cases h; exact .nil
  | _ :: _, _, h => by
    cases h with
    | cons a r => exact .cons (Tp.dp a) (Tps.dp r)
end
mutual
theorem Tp.plain {H : Hp} : ∀ {d : PyData} {v : V}, Tp H v d → d.plain = true
  | .none, _, _ => rfl
  | .bool _, _, _ => rfl
  | .int _, _, _ => rfl
  | .str _, _, _ => rfl
  | .tuple _, _, h => by
    cases h with
    | tup e r => exact Tps.plain r
  | .list _, _, h => nomatch h
  | .dict _, _, h => nomatch h
theorem Tps.plain {H : Hp} : ∀ {ds : List PyData} {vs : List V}, Tps H vs ds → PyData.plainAll ds = true
  | [], _, _ => rfl
  | _ :: _, _, h => by
    cases h with
    | cons a r =>
      rw [PyData.plainAll, Tp.plain a, Tps.plain r]
      rfl
end
theorem Tps.length {H : Hp} : ∀ {ds : List PyData} {vs : List V}, Tps H vs ds → vs.length = ds.length
  | [], _, h => by cases h; rfl
  | _ :: _, _, h => by
    cases h with
    | cons a r => rw [List.length_cons, List.length_cons, Tps.length r]
theorem Tps.get {H : Hp} : ∀ {ds : List PyData} {vs : List V} {i : Nat} {v : V}, Tps H vs ds → vs[i]? = some v → ∃ d, ds[i]? = some d ∧ Tp H v d
  | [], _, _, _, h, e => by
    cases h
    simp at e
  | d :: _, _, 0, _, h, e => by
    cases h with
    | cons a r =>
      cases e
      exact ⟨d, rfl, a⟩
  | _ :: _, _, i + 1, _, h, e => by
    cases h with
    | cons a r => exact Tps.get (i := i) r e
theorem Tps.at_ {H : Hp} : ∀ {ds : List PyData} {vs : List V} {i : Nat} {d : PyData}, Tps H vs ds → ds[i]? = some d → ∃ v, vs[i]? = some v ∧ Tp H v d
  | [], _, _, _, h, e => by
    simp at e
  | d :: _, _, 0, _, h, e => by
    cases h with
    | cons a r =>
      cases e
      exact ⟨_, rfl, a⟩
  | _ :: _, _, i + 1, _, h, e => by
    cases h with
    | cons a r => exact Tps.at_ (i := i) r e
theorem Tps.append {H : Hp} : ∀ {ds es : List PyData} {vs ws : List V}, Tps H vs ds → Tps H ws es → Tps H (vs ++ ws) (ds ++ es)
  | [], _, _, _, h, h2 => by cases h; exact h2
  | _ :: _, _, _, _, h, h2 => by
    cases h with
    | cons a r => exact .cons a (Tps.append r h2)

section
variable {X : Cx}
/-- the room that a comparison of data wants -/
def small (d : PyData) : Prop := d.depth ≤ 64
theorem room_d {X : Cx} {d e : PyData} (hu : X.A.units + 64 < cLine) (sd : small d) : X.A.units + min d.depth e.depth < cLine :=
  Nat.lt_of_le_of_lt (Nat.add_le_add_left (Nat.le_trans (Nat.min_le_left _ _) sd) _) hu
def rEqP : R2 := fun x y H Q => ∃ d e, Tp H x d ∧ Tp H y e ∧ small d ∧ Q (.bl (PyData.eqv d e)) H
def rNeP : R2 := fun x y H Q => ∃ d e, Tp H x d ∧ Tp H y e ∧ small d ∧ Q (.bl (!PyData.eqv d e)) H
def rLtP : R2 := fun x y H Q => ∃ d e k, Tp H x d ∧ Tp H y e ∧ small d ∧ dlt d e = some k ∧ Q (.bl k) H
def rGtP : R2 := fun x y H Q => ∃ d e k, Tp H x d ∧ Tp H y e ∧ small d ∧ dgt d e = some k ∧ Q (.bl k) H
theorem op_eqP (hu : X.A.units + 64 < cLine) : OpR X (compareOp .Eq) rEqP := by
  intro pins s σ H x y v u Q I rx ry h
  obtain ⟨d, e, hd, he, sd, q⟩ := h
  obtain ⟨as, r1⟩ := Dp.reads I d x v hd.dp rx
  obtain ⟨bs, r2⟩ := Dp.reads I e y u he.dp ry
  exact SeqAt.eq_plain r1 r2 hd.plain he.plain (room_d hu sd) ⟨.bl _, H, I, rfl, q⟩
theorem op_neP (hu : X.A.units + 64 < cLine) : OpR X (compareOp .NotEq) rNeP := by
  intro pins s σ H x y v u Q I rx ry h
  obtain ⟨d, e, hd, he, sd, q⟩ := h
  obtain ⟨as, r1⟩ := Dp.reads I d x v hd.dp rx
  obtain ⟨bs, r2⟩ := Dp.reads I e y u he.dp ry
  exact SeqAt.ne_plain r1 r2 hd.plain he.plain (room_d hu sd) ⟨.bl _, H, I, rfl, q⟩
theorem op_ltP (hu : X.A.units + 64 < cLine) : OpR X (compareOp .Lt) rLtP := by
  intro pins s σ H x y v u Q I rx ry h
  obtain ⟨d, e, k, hd, he, sd, hk, q⟩ := h
  obtain ⟨as, r1⟩ := Dp.reads I d x v hd.dp rx
  obtain ⟨bs, r2⟩ := Dp.reads I e y u he.dp ry
  exact rc_lt d e k _ _ _ _ _ _ r1 r2 hd.plain he.plain hk (room_d hu sd) _ _ _ _ ⟨.bl _, H, I, rfl, q⟩
theorem op_gtP (hu : X.A.units + 64 < cLine) : OpR X (compareOp .Gt) rGtP := by
  intro pins s σ H x y v u Q I rx ry h
  obtain ⟨d, e, k, hd, he, sd, hk, q⟩ := h
  obtain ⟨as, r1⟩ := Dp.reads I d x v hd.dp rx
  obtain ⟨bs, r2⟩ := Dp.reads I e y u he.dp ry
  exact rc_gt d e k _ _ _ _ _ _ r1 r2 hd.plain he.plain hk (room_d hu sd) _ _ _ _ ⟨.bl _, H, I, rfl, q⟩
/-- xs[i] of a list, the place not below 0, as an operator's left side asks it -/
def rGetN : V → V → Hp → VK → Prop := fun x y H Q => ∃ p xs, ∃ i : Nat, ∃ v, x = .ref p ∧ y = .int i ∧ H p = some (.lst xs) ∧ xs[i]? = some v ∧ Q v H
theorem get_list : PGet X rGetN := by
  intro pins s σ H o i ov iv Q I ro ri h
  obtain ⟨p, xs, n, v, rfl, rfl, hp, hv, q⟩ := h
  cases ro
  obtain ⟨t, rfl⟩ := ri
  obtain ⟨its, r, pl, hz⟩ := I.list (SqL.of hp)
  obtain ⟨w, ew, rw'⟩ := r.get hv
  have hl := r.length
  have hn := line63
  have hi : n < xs.length := by
    rcases Nat.lt_or_ge n xs.length with c | c
    · exact c
    · rw [List.getElem?_eq_none c] at hv
      cases hv
  exact wpAny_getItem_list pl.isList (by omega) (by omega) (by simpa using ew) ⟨v, H, I, rw', q⟩
end
/-- what a value is, for isinstance -/
theorem Tp.tyx {K : PySem.W.Frag} {H : Hp} {v : V} {d : PyData} (h : Tp H v d) : ∃ n, TyX K H v (.type n) ∧
    n = (match d with | .none => "NoneType" | .bool _ => "bool" | .int _ => "int" | .str _ => "str" | .tuple _ => "tuple" | .list _ => "list" | .dict _ => "dict") := by
  cases h with
  | non => exact ⟨_, .base .non, rfl⟩
  | bl b => exact ⟨_, .base (.bl b), rfl⟩
  | int i => exact ⟨_, .base (.int i), rfl⟩
  | str x => exact ⟨_, .base (.str x), rfl⟩
  | tup e r => exact ⟨_, .base (.tup e), rfl⟩
end KA

/-! Ranges with a step as values; data of lists and tuples. -/
namespace KA
open PySem PySem.Spec PyProof.Rows L2
/-- a range object a, a + c, .. below b, at p -/
def rng3 (p : Addr) (a b c : Int) : HO := .ext fun h => ∃ t u v, IsRange h p a b c t u v
section
variable {X : Cx}
theorem cr_range3 : CallR X (.type "range") (fun vs H Q => ∃ i j c, vs = [V.int i, V.int j, V.int c] ∧ c ≠ 0 ∧ c.natAbs < 1073741824 ∧ ∀ p, H p = none → Q (.ref p) (upd H p (rng3 p i j c))) := by
  intro pins s σ H vs us Q I r h
  obtain ⟨i, j, c, rfl, c0, c1, q⟩ := h
  cases r with
  | cons r1 rr =>
    cases rr with
    | cons r2 rr =>
      cases rr with
      | cons r3 rr =>
        cases rr
        obtain ⟨t, rfl⟩ := r1
        obtain ⟨u, rfl⟩ := r2
        obtain ⟨v, rfl⟩ := r3
        refine call_range_3 c0 ?_ (.inl (PyProof.noPylong_small c1))
        refine ⟨.ref s.heap.objs.size, upd H s.heap.objs.size (rng3 s.heap.objs.size i j c), I.laid (t' := s.toks) (fun b o e => Heap.get?_push_of_some _ e) (Nat.le_refl _) ?_, rfl, q _ (I.hok.fresh (Nat.le_refl _))⟩
        refine ⟨⟨t, u, v, IsRange.new ..⟩, ⟨_, Heap.get?_push_size _ rfl⟩, fun h1 h2 ⟨t1, u1, v1, e⟩ k => ⟨t1, u1, v1, k _ e⟩⟩
theorem call_len_rng3 : CallR X (.builtin "len") (fun xs H Q => ∃ p i j c n, xs = [.ref p] ∧ H p = some (rng3 p i j c) ∧ RgC i j c n ∧ n < 2 ^ 62 ∧ Q (.int (n : Nat)) H) := by
  intro pins s σ H xs us Q I r h
  obtain ⟨p, i, j, c, n, rfl, hp, ⟨_, _, _, c3⟩, hn, q⟩ := h
  obtain ⟨u, rfl, rx⟩ := vals1 r
  cases rx
  obtain ⟨⟨t, u, v, e⟩, _⟩ := I.hok p _ hp
  exact call_len_range e c3 (by omega) ⟨.int (n : Nat), H, I.tok _, ⟨_, rfl⟩, q⟩
def iRngV (te : TE) : TI := fun σ H R => te σ H fun x H1 => ∃ p i j c n, x = .ref p ∧ H1 p = some (rng3 p i j c) ∧ RgC i j c n ∧ R (Itc i c n) H1
theorem pi_rng3 {tg e : Expr} {te : TE} (he : PE X e te) : PI X tg e (iRngV te) := by
  refine ⟨fun pins s σ H R I h => ?_⟩
  refine thn (he.run pins s σ H _ I h) fun v s1 ⟨x, H1, I1, r1, q1⟩ => ?_
  obtain ⟨p, i, j, c, n, e, hp, ⟨c0, c1, c2, c3⟩, q⟩ := q1
  subst e
  cases r1
  obtain ⟨⟨t, u, v, ho⟩, _⟩ := I1.hok p _ hp
  refine wpAny_pyIter_range ho c2 ?_
  refine pi_one (tk := s1.toks) I1 _ (turn_rangeC _ i c n) ?_ q
  have e1 : i + ((0 : Nat) : Int) * c = i := by simp
  have e2 : (n : Int) - ((0 : Nat) : Int) = Builtin.Range.rangeSize i j c := by rw [c3]; simp
  show IsRangeIter _ _ (i + ((0 : Nat) : Int) * c) ((n : Int) - ((0 : Nat) : Int)) c
  rw [e1, e2]
  exact Heap.get?_push_size _ rfl
end
theorem fits_l {i : Int} (h1 : -(2 ^ 62) ≤ i) (h2 : i < 2 ^ 62) : Builtin.Range.rangeFitsLong i = true := by
  unfold Builtin.Range.rangeFitsLong
  rw [Bool.and_eq_true]
  exact ⟨decide_eq_true (by omega), decide_eq_true (by omega)⟩
/-- range(0, m, 54): its turns -/
theorem rg_up {m : Nat} (hm : m < 1000000) : RgC 0 m 54 ((m + 53) / 54) := by
  have e : Builtin.Range.rangeSize 0 (m : Int) 54 = (((m + 53) / 54 : Nat) : Int) := by
    unfold Builtin.Range.rangeSize
    rw [if_pos (by decide)]
    split
    · omega
    · omega
  refine ⟨by decide, by decide, ?_, e⟩
  unfold Builtin.Range.small
  rw [e, fits_l (by omega) (by omega), fits_l (by omega) (by omega), fits_l (by omega) (by omega), fits_l (by omega) (by omega), if_pos (by decide), fits_l (by omega) (by omega), Bool.or_true]
  rfl
end KA

/-! Data over lists and tuples that stand at H; lists of ints; lists of such. -/
namespace KA
open PySem PySem.Spec PyProof.Rows L2
mutual
inductive Dl (H : Hp) : V → PyData → Prop
  | non : Dl H .non .none
  | bl (b : Bool) : Dl H (.bl b) (.bool b)
  | int (i : Int) : Dl H (.int i) (.int i)
  | str (x : Str) : Dl H (.str x) (.str x)
  | tup {a : Addr} {xs : List V} {ds : List PyData} : H a = some (.tup xs) → Dls H xs ds → Dl H (.ref a) (.tuple ds)
  | lst {a : Addr} {xs : List V} {ds : List PyData} : H a = some (.lst xs) → Dls H xs ds → Dl H (.ref a) (.list ds)
inductive Dls (H : Hp) : List V → List PyData → Prop
  | nil : Dls H [] []
  | cons {v : V} {vs : List V} {d : PyData} {ds : List PyData} : Dl H v d → Dls H vs ds → Dls H (v :: vs) (d :: ds)
end
mutual
theorem Dl.mono {H H' : Hp} (k : Same H H') : ∀ {d : PyData} {v : V}, Dl H v d → Dl H' v d
  | .none, _, h => by cases h; exact .non
  | .bool _, _, h => by cases h; exact .bl _
  | .int _, _, h => by cases h; exact .int _
  | .str _, _, h => by cases h; exact .str _
  | .tuple _, _, h => by
    cases h with
    | tup e r => exact .tup (k _ _ e) (Dls.mono k r)
  | .list _, _, h => by
    cases h with
    | lst e r => exact .lst (k _ _ e) (Dls.mono k r)
  | .dict _, _, h => nomatch h
theorem Dls.mono {H H' : Hp} (k : Same H H') : ∀ {ds : List PyData} {vs : List V}, Dls H vs ds → Dls H' vs ds
  | [], _, h => by cases h; exact .nil
  | _ :: _, _, h => by
    cases h with
    | cons a r => exact .cons (Dl.mono k a) (Dls.mono k r)
end
mutual
theorem Dl.dp {K : PySem.W.Frag} {H : Hp} : ∀ {d : PyData} {v : V}, Dl H v d → Dp K H v d
  | .none, _, h => by cases h; exact .non
  | .bool _, _, h => by cases h; exact .bl _
  | .int _, _, h => by cases h; exact .int _
  | .str _, _, h => by cases h; exact .str _
  | .tuple _, _, h => by
    cases h with
    | tup e r => exact .tup (SqT.of e) (Dls.dp r)
  | .list _, _, h => by
    cases h with
    | lst e r => exact .lst (SqL.of e) (Dls.dp r)
  | .dict _, _, h => nomatch h
theorem Dls.dp {K : PySem.W.Frag} {H : Hp} : ∀ {ds : List PyData} {vs : List V}, Dls H vs ds → DpAll K H vs ds
  | [], _, h => by cases h; exact .nil
  | _ :: _, _, h => by
    cases h with
    | cons a r => exact .cons (Dl.dp a) (Dls.dp r)
end
mutual
theorem Dl.plain {H : Hp} : ∀ {d : PyData} {v : V}, Dl H v d → d.plain = true
  | .none, _, _ => rfl
  | .bool _, _, _ => rfl
  | .int _, _, _ => rfl
  | .str _, _, _ => rfl
  | .tuple _, _, h => by
    cases h with
    | tup e r => exact Dls.plain r
  | .list _, _, h => by
    cases h with
    | lst e r => exact Dls.plain r
  | .dict _, _, h => nomatch h
theorem Dls.plain {H : Hp} : ∀ {ds : List PyData} {vs : List V}, Dls H vs ds → PyData.plainAll ds = true
  | [], _, _ => rfl
  | _ :: _, _, h => by
    cases h with
    | cons a r =>
      rw [PyData.plainAll, Dl.plain a, Dls.plain r]
      rfl
end
mutual
theorem Tp.dl {H : Hp} : ∀ {d : PyData} {v : V}, Tp H v d → Dl H v d
  | .none, _, h => by cases h; exact .non
  | .bool _, _, h => by cases h; exact .bl _
  | .int _, _, h => by cases h; exact .int _
  | .str _, _, h => by cases h; exact .str _
  | .tuple _, _, h => by
    cases h with
    | tup e r => exact .tup e (Tps.dl r)
  | .list _, _, h => nomatch h
  | .dict _, _, h => nomatch h
theorem Tps.dl {H : Hp} : ∀ {ds : List PyData} {vs : List V}, Tps H vs ds → Dls H vs ds
  | [], _, h => by cases h; exact .nil
  | _ :: _, _, h => by
    cases h with
    | cons a r => exact .cons (Tp.dl a) (Tps.dl r)
end
theorem Dls.length {H : Hp} : ∀ {ds : List PyData} {vs : List V}, Dls H vs ds → vs.length = ds.length
  | [], _, h => by cases h; rfl
  | _ :: _, _, h => by
    cases h with
    | cons a r => rw [List.length_cons, List.length_cons, Dls.length r]
theorem Dls.at_ {H : Hp} : ∀ {ds : List PyData} {vs : List V} {i : Nat} {d : PyData}, Dls H vs ds → ds[i]? = some d → ∃ v, vs[i]? = some v ∧ Dl H v d
  | [], _, _, _, h, e => by
    simp at e
  | d :: _, _, 0, _, h, e => by
    cases h with
    | cons a r =>
      cases e
      exact ⟨_, rfl, a⟩
  | _ :: _, _, i + 1, _, h, e => by
    cases h with
    | cons a r => exact Dls.at_ (i := i) r e
mutual
/-- no dict in it, nothing too long -/
def okD : PyData → Prop
  | .none => True
  | .bool _ => True
  | .int _ => True
  | .str _ => True
  | .tuple ds => ds.length ≤ 1000000 ∧ okDs ds
  | .list ds => ds.length ≤ 1000000 ∧ okDs ds
  | _ => False
def okDs : List PyData → Prop
  | [] => True
  | d :: r => okD d ∧ okDs r
end
theorem okDs_mem : ∀ {ds : List PyData} {d : PyData}, okDs ds → d ∈ ds → okD d
  | x :: r, d, h, m => by
    rw [okDs] at h
    rcases List.mem_cons.mp m with e | e
    · rw [e]
      exact h.1
    · exact okDs_mem h.2 e
theorem okDs_of : ∀ {ds : List PyData}, (∀ d ∈ ds, okD d) → okDs ds
  | [], _ => by rw [okDs]; trivial
  | x :: r, h => by
    rw [okDs]
    exact ⟨h x List.mem_cons_self, okDs_of fun d m => h d (List.mem_cons_of_mem _ m)⟩
theorem depth_at2 : ∀ {ds : List PyData} {i : Nat} {d : PyData}, ds[i]? = some d → d.depth ≤ PyData.depthAll ds
  | [], i, d, h => by simp at h
  | x :: r, 0, d, h => by
    cases h
    rw [PyData.depthAll]
    exact Nat.le_max_left _ _
  | x :: r, i + 1, d, h => by
    rw [PyData.depthAll]
    exact Nat.le_trans (depth_at2 (i := i) h) (Nat.le_max_right _ _)
theorem depthAll_of {n : Nat} : ∀ {ds : List PyData}, (∀ d ∈ ds, d.depth ≤ n) → PyData.depthAll ds ≤ n
  | [], _ => Nat.zero_le _
  | x :: r, h => by
    rw [PyData.depthAll]
    exact Nat.max_le.mpr ⟨h x List.mem_cons_self, depthAll_of fun d m => h d (List.mem_cons_of_mem _ m)⟩
/-- == and != of data -/
def rEqD (neg : Bool) : R2 := fun x y H Q => ∃ d e, Dl H x d ∧ Dl H y e ∧ small e ∧ Q (.bl (if neg then !PyData.eqv d e else PyData.eqv d e)) H
theorem op_eqQ {X : Cx} (hu : X.A.units + 64 < cLine) : OpR X (compareOp .Eq) (rEqD false) := by
  intro pins s σ H x y v u Q I rx ry h
  obtain ⟨d, e, hd, he, se, q⟩ := h
  obtain ⟨as, r1⟩ := Dp.reads I d x v hd.dp rx
  obtain ⟨bs, r2⟩ := Dp.reads I e y u he.dp ry
  refine SeqAt.eq_plain r1 r2 hd.plain he.plain ?_ ⟨.bl _, H, I, rfl, q⟩
  have h1 : e.depth ≤ 64 := se
  have h2 : min d.depth e.depth ≤ e.depth := Nat.min_le_right _ _
  omega
theorem op_neQ {X : Cx} (hu : X.A.units + 64 < cLine) : OpR X (compareOp .NotEq) (rEqD true) := by
  intro pins s σ H x y v u Q I rx ry h
  obtain ⟨d, e, hd, he, se, q⟩ := h
  obtain ⟨as, r1⟩ := Dp.reads I d x v hd.dp rx
  obtain ⟨bs, r2⟩ := Dp.reads I e y u he.dp ry
  refine SeqAt.ne_plain r1 r2 hd.plain he.plain ?_ ⟨.bl _, H, I, rfl, q⟩
  have h1 : e.depth ≤ 64 := se
  have h2 : min d.depth e.depth ≤ e.depth := Nat.min_le_right _ _
  omega
/-! ### lists of ints -/
abbrev intsD (ns : List Int) : List PyData := ns.map PyData.int
theorem dls_ints {H : Hp} : ∀ ns : List Int, Dls H (ns.map V.int) (intsD ns)
  | [] => .nil
  | n :: r => .cons (.int n) (dls_ints r)
/-- the value is a list of these ints -/
def IL (H : Hp) (v : V) (ns : List Int) : Prop := ∃ p, v = .ref p ∧ H p = some (.lst (ns.map V.int))
theorem IL.dl {H : Hp} {v : V} {ns : List Int} (h : IL H v ns) : Dl H v (.list (intsD ns)) := by
  obtain ⟨p, rfl, e⟩ := h
  exact .lst e (dls_ints ns)
theorem IL.mono {H H' : Hp} {v : V} {ns : List Int} (h : IL H v ns) (k : Same H H') : IL H' v ns := by
  obtain ⟨p, e, e2⟩ := h
  exact ⟨p, e, k _ _ e2⟩
/-- lists of ints, one for each -/
inductive Ils (H : Hp) : List V → List (List Int) → Prop
  | nil : Ils H [] []
  | cons {v : V} {vs : List V} {d : List Int} {ds : List (List Int)} : IL H v d → Ils H vs ds → Ils H (v :: vs) (d :: ds)
theorem Ils.length {H : Hp} {vs : List V} {ds : List (List Int)} (h : Ils H vs ds) : vs.length = ds.length := by
  induction h with
  | nil => rfl
  | cons a r ih => rw [List.length_cons, List.length_cons, ih]
theorem Ils.mono {H H' : Hp} {vs : List V} {ds : List (List Int)} (h : Ils H vs ds) (k : Same H H') : Ils H' vs ds := by
  induction h with
  | nil => exact .nil
  | cons a r ih => exact .cons (a.mono k) ih
theorem Ils.app {H : Hp} {vs ws : List V} {ds es : List (List Int)} (h : Ils H vs ds) (h2 : Ils H ws es) : Ils H (vs ++ ws) (ds ++ es) := by
  induction h with
  | nil => exact h2
  | cons a r ih => exact .cons a ih
theorem Ils.one {H : Hp} {v : V} {d : List Int} (h : IL H v d) : Ils H [v] [d] := .cons h .nil
theorem Ils.take {H : Hp} {vs : List V} {ds : List (List Int)} (h : Ils H vs ds) : ∀ n, Ils H (vs.take n) (ds.take n) := by
  induction h with
  | nil => intro n; rw [List.take_nil, List.take_nil]; exact .nil
  | cons a r ih =>
    intro n
    cases n with
    | zero => exact .nil
    | succ n => exact .cons a (ih n)
theorem Ils.drop {H : Hp} {vs : List V} {ds : List (List Int)} (h : Ils H vs ds) : ∀ n, Ils H (vs.drop n) (ds.drop n) := by
  induction h with
  | nil => intro n; rw [List.drop_nil, List.drop_nil]; exact .nil
  | cons a r ih =>
    intro n
    cases n with
    | zero => exact .cons a r
    | succ n => exact ih n
theorem Ils.at_ {H : Hp} {vs : List V} {ds : List (List Int)} (h : Ils H vs ds) : ∀ {i : Nat} {d : List Int}, ds[i]? = some d → ∃ v, vs[i]? = some v ∧ IL H v d := by
  induction h with
  | nil => intro i d e; simp at e
  | cons a r ih =>
    intro i d e
    cases i with
    | zero => cases e; exact ⟨_, rfl, a⟩
    | succ i => exact ih (i := i) e
theorem Ils.get {H : Hp} {vs : List V} {ds : List (List Int)} (h : Ils H vs ds) : ∀ {i : Nat} {v : V}, vs[i]? = some v → ∃ d, ds[i]? = some d ∧ IL H v d := by
  induction h with
  | nil => intro i d e; simp at e
  | cons a r ih =>
    intro i d e
    cases i with
    | zero => cases e; exact ⟨_, rfl, a⟩
    | succ i => exact ih (i := i) e
theorem Ils.dls {H : Hp} {vs : List V} {ds : List (List Int)} (h : Ils H vs ds) : Dls H vs (ds.map fun ns => PyData.list (intsD ns)) := by
  induction h with
  | nil => exact .nil
  | cons a r ih => exact .cons a.dl ih
/-- the value is a list of lists of ints -/
def LL (H : Hp) (v : V) (nss : List (List Int)) : Prop := ∃ p xs, v = .ref p ∧ H p = some (.lst xs) ∧ Ils H xs nss
theorem LL.mono {H H' : Hp} {v : V} {nss : List (List Int)} (h : LL H v nss) (k : Same H H') : LL H' v nss := by
  obtain ⟨p, xs, e, e2, e3⟩ := h
  exact ⟨p, xs, e, k _ _ e2, e3.mono k⟩
theorem LL.dl {H : Hp} {v : V} {nss : List (List Int)} (h : LL H v nss) : Dl H v (.list (nss.map fun ns => PyData.list (intsD ns))) := by
  obtain ⟨p, xs, rfl, e, r⟩ := h
  exact .lst e r.dls
theorem okD_ints {ns : List Int} (h : ns.length ≤ 1000000) : okD (.list (intsD ns)) := by
  rw [okD]
  refine ⟨by rw [List.length_map]; exact h, okDs_of fun d m => ?_⟩
  obtain ⟨n, _, rfl⟩ := List.mem_map.mp m
  rw [okD]
  trivial
theorem depth_ints (ns : List Int) : (PyData.list (intsD ns)).depth ≤ 1 := by
  show PyData.depthAll (intsD ns) + 1 ≤ 1
  have : PyData.depthAll (intsD ns) ≤ 0 := depthAll_of fun d m => by
    obtain ⟨n, _, rfl⟩ := List.mem_map.mp m
    exact Nat.le_refl _
  omega
theorem okD_lls {nss : List (List Int)} (h : nss.length ≤ 1000000) (h2 : ∀ ns ∈ nss, ns.length ≤ 1000000) : okD (.list (nss.map fun ns => PyData.list (intsD ns))) := by
  rw [okD]
  refine ⟨by rw [List.length_map]; exact h, okDs_of fun d m => ?_⟩
  obtain ⟨n, hn, rfl⟩ := List.mem_map.mp m
  exact okD_ints (h2 n hn)
theorem depth_lls (nss : List (List Int)) : (PyData.list (nss.map fun ns => PyData.list (intsD ns))).depth ≤ 2 := by
  show PyData.depthAll _ + 1 ≤ 2
  have : PyData.depthAll (nss.map fun ns => PyData.list (intsD ns)) ≤ 1 := depthAll_of fun d m => by
    obtain ⟨n, _, rfl⟩ := List.mem_map.mp m
    exact depth_ints n
  omega
/-! ### == of data by equality -/
theorem eqvI (i j : Int) : PyData.eqv (.int i) (.int j) = decide (i = j) := by
  show (i == j) = _
  by_cases h : i = j
  · rw [h, decide_eq_true rfl, beq_self_eq_true]
  · rw [decide_eq_false h, beq_eq_false_iff_ne.mpr h]
theorem eqv_ints : ∀ a b : List Int, PyData.eqvAll (intsD a) (intsD b) = decide (a = b)
  | [], [] => rfl
  | [], _ :: _ => rfl
  | _ :: _, [] => rfl
  | x :: a, y :: b => by
    show (PyData.eqv (.int x) (.int y) && PyData.eqvAll (intsD a) (intsD b)) = _
    rw [eqv_ints a b, eqvI]
    by_cases h : x = y
    · subst h
      simp
    · simp [h]
theorem eqv_il (a b : List Int) : PyData.eqv (.list (intsD a)) (.list (intsD b)) = decide (a = b) := eqv_ints a b
/-! ### slices -/
theorem cut_to (xs : List V) (k : Nat) : cutV xs none (some (k : Int)) = xs.take k := by
  unfold cutV
  rw [HT.sIx_none, HT.sIx_nat, List.drop_zero, Nat.sub_zero]
  rcases Nat.le_total k xs.length with h | h
  · rw [Nat.min_eq_left h]
  · rw [Nat.min_eq_right h, List.take_of_length_le h, List.take_of_length_le (Nat.le_refl _)]
theorem cut_from (xs : List V) (k : Nat) : cutV xs (some (k : Int)) none = xs.drop k := by
  unfold cutV
  rw [HT.sIx_none, HT.sIx_nat]
  rcases Nat.le_total k xs.length with h | h
  · rw [Nat.min_eq_left h, List.take_of_length_le (by rw [List.length_drop]; exact Nat.le_refl _)]
  · rw [Nat.min_eq_right h, Nat.sub_self, List.take_zero, List.drop_eq_nil_of_le h]
theorem cut_mid (xs : List V) (i j : Nat) : cutV xs (some (i : Int)) (some ((i + j : Nat) : Int)) = (xs.drop i).take j := by
  unfold cutV
  rw [HT.sIx_nat, HT.sIx_nat]
  rcases Nat.le_total (i + j) xs.length with h | h
  · rw [Nat.min_eq_left h, Nat.min_eq_left (by omega)]
    congr 1
    omega
  · rcases Nat.le_total i xs.length with h2 | h2
    · rw [Nat.min_eq_right h, Nat.min_eq_left h2, List.take_of_length_le (i := xs.length - i) (by rw [List.length_drop]; exact Nat.le_refl _), List.take_of_length_le (by rw [List.length_drop]; omega)]
    · rw [Nat.min_eq_right h, Nat.min_eq_right h2, Nat.sub_self, List.drop_eq_nil_of_le h2, List.drop_eq_nil_of_le (Nat.le_refl _)]
      simp
theorem cut_to' {xs : List V} {z : Int} (h : 0 ≤ z) : cutV xs none (some z) = xs.take z.toNat := by
  have : z = ((z.toNat : Nat) : Int) := by omega
  rw [this, cut_to, Int.toNat_natCast]
theorem map_take {ns : List Int} (k : Nat) : (ns.map V.int).take k = (ns.take k).map V.int := List.map_take.symm
theorem map_drop {ns : List Int} (k : Nat) : (ns.map V.int).drop k = (ns.drop k).map V.int := List.map_drop.symm
section
variable {X : Cx}
/-- a module's constant -/
theorem pe_con {x : Str} {i : Int} {pos : Pos} (hg : Gl X x) (h : ∃ t, X.mg x = some (.int i t)) (hd : (x == ("__debug__" : Str)) = false := by decide) : PE X (.Name x pos) (tC (.int i)) := by
  obtain ⟨t, h⟩ := h
  exact pe_glob hg h ⟨_, rfl⟩ hd
end
end KA

/-! Defs as their callers know them; the drawing state of every law. -/
namespace KA
open PySem PySem.Spec PyProof.Rows L2
/-- a def of the text as its callers know it -/
structure Def (P : Program) (w : World) (K : PySem.W.Frag) (mg : Str → Option Value) (base : Heap) (x : Str) (k : Nat) (ps : List Str) (sp : Sp) : Prop where
  ex : ∃ (f : Addr) (fd : FuncData), FnOk P w K mg base CX0 k f fd ps sp ∧ mg x = some (.ref f) ∧ PySem.W.keepIn K (.ref f) = true ∧ Binds K fd ps []
section
variable {X : Cx} {k : Nat} {x : Str} {ps : List Str} {sp : Sp} {e : Expr} {es : List Expr} {t : TA} {p pos : Pos}
theorem pe_def (D : Def X.prog X.w X.K X.mg X.base x k ps sp) (hr : Room k X.A) (hg : Gl X x) (ha : PA X (e :: es) t) (hdb : (x == ("__debug__" : Str)) = false := by decide)
    (he : starEach (e :: es) X.env = (false, eval e X.env) :: starEach es X.env := by rfl) (hpl : (backTo pos (starEach es X.env)).any (·.1) = false := by rfl) : PE X (.Call (.Name x p) (e :: es) [] pos) (tCall sp [] E0 t) := by
  obtain ⟨f, fd, F, hm, hk, hb⟩ := D.ex
  exact pe_call F hr hg hm hk hb .nil pass0 ha hdb he hpl
theorem pe_def0 (D : Def X.prog X.w X.K X.mg X.base x k ps sp) (hr : Room k X.A) (hg : Gl X x) (hdb : (x == ("__debug__" : Str)) = false := by decide) : PE X (.Call (.Name x p) [] [] pos) (tCall sp [] E0 tNil) := by
  obtain ⟨f, fd, F, hm, hk, hb⟩ := D.ex
  exact pe_call0 F hr hg hm hk hb .nil pass0 hdb
end
/-! ### the drawing state -/
/-- all that is tracked but the state's own list stays -/
def Kp (st : Addr) (H H' : Hp) : Prop := ∀ a o, a ≠ st → H a = some o → H' a = some o
theorem Kp.refl (st : Addr) (H : Hp) : Kp st H H := fun _ _ _ h => h
theorem Kp.trans {st : Addr} {H H1 H2 : Hp} (a : Kp st H H1) (b : Kp st H1 H2) : Kp st H H2 := fun x o n h => b x o n (a x o n h)
theorem Kp.of {st : Addr} {H H' : Hp} (s : Same H H') : Kp st H H' := fun a o _ h => s a o h
theorem Kp.st {st : Addr} {H : Hp} {o : HO} : Kp st H (upd H st o) := fun a u n h => by
  rw [upd_ne n]
  exact h
theorem Kp.new {st p : Addr} {H : Hp} {o : HO} (h : H p = none) : Kp st H (upd H p o) := fun a u _ e => by
  rw [upd_ne (ne_of_none e h)]
  exact e
/-- the drawing state at st: the script's copy at L, the place, the rest of a great cell, the seed -/
def Good (st L : Addr) (H : Hp) : Prop := ∃ (ns : List Int) (i : Nat) (a b : Int), H st = some (.lst [.ref L, .int i, .int a, .int b]) ∧ H L = some (.lst (ns.map V.int)) ∧ 0 ≤ a ∧ 0 ≤ b
/-- from H on only drawing and new objects -/
structure Dr (st L : Addr) (H H' : Hp) : Prop where
  kp : Kp st H H'
  good : Good st L H'
theorem Dr.refl {st L : Addr} {H : Hp} (g : Good st L H) : Dr st L H H := ⟨Kp.refl st H, g⟩
theorem Dr.trans {st L : Addr} {H H1 H2 : Hp} (a : Dr st L H H1) (b : Dr st L H1 H2) : Dr st L H H2 := ⟨a.kp.trans b.kp, b.good⟩
theorem Good.tk {st L : Addr} {H H' : Hp} (g : Good st L H) (k : Kp st H H') : Tk H H' := fun a xs h => by
  obtain ⟨ns, i, c, b, e, _⟩ := g
  exact k a _ (ne_of h e (fun z => by cases z)) h
theorem Dr.tk {st L : Addr} {H H' : Hp} (d : Dr st L H H') (g : Good st L H) : Tk H H' := g.tk d.kp
/-- an object that H does not know is written -/
theorem Dr.put {st L D : Addr} {H H' : Hp} {o : HO} (d : Dr st L H H') (g : Good st L H) (n : H D = none) : Dr st L H (upd H' D o) := by
  refine ⟨fun a u h1 h2 => ?_, ?_⟩
  · rw [upd_ne (ne_of_none h2 n)]
    exact d.kp a u h1 h2
  · obtain ⟨ns0, i0, a0, b0, e0, l0, _⟩ := g
    obtain ⟨ns, i, a, b, e, l, r⟩ := d.good
    refine ⟨ns, i, a, b, ?_, ?_, r⟩
    · rw [upd_ne (ne_of_none e0 n)]
      exact e
    · rw [upd_ne (ne_of_none l0 n)]
      exact l
theorem Dr.new {st L p : Addr} {H : Hp} {o : HO} (g : Good st L H) (h : H p = none) : Dr st L H (upd H p o) := (Dr.refl g).put g h
theorem Dr.add {st L p : Addr} {H H' : Hp} {o : HO} (d : Dr st L H H') (h : H' p = none) : Dr st L H (upd H' p o) := d.trans (Dr.new d.good h)
theorem Dr.same {st L : Addr} {H H' : Hp} (g : Good st L H) (s : Same H H') : Dr st L H H' := by
  refine ⟨Kp.of s, ?_⟩
  obtain ⟨ns, i, a, b, e, l, r⟩ := g
  exact ⟨ns, i, a, b, s _ _ e, s _ _ l, r⟩
/-- what was there is there -/
theorem Dr.at_ {st L p : Addr} {H H' : Hp} {o : HO} (d : Dr st L H H') (n : p ≠ st) (h : H p = some o) : H' p = some o := d.kp p o n h
theorem Dr.tup {st L p : Addr} {H H' : Hp} {xs : List V} (d : Dr st L H H') (g : Good st L H) (h : H p = some (.tup xs)) : H' p = some (.tup xs) := d.tk g p xs h
/-- an address that is free behind is free ahead -/
theorem Dr.free {st L p : Addr} {H H' : Hp} (d : Dr st L H H') (h : H' p = none) : H p = none := by
  cases c : H p with
  | none => rfl
  | some o =>
    by_cases e : p = st
    · subst e
      obtain ⟨ns, i, a, b, e2, _⟩ := d.good
      rw [e2] at h
      cases h
    · rw [d.kp p o e c] at h
      cases h
theorem ref_ne_ints {L : Addr} {ns : List Int} {r : List V} : HO.lst (.ref L :: r) ≠ HO.lst (ns.map V.int) := by
  cases ns with
  | nil => intro e; cases e
  | cons x xs => intro e; cases e

theorem Good.not_none {st L : Addr} {H : Hp} (g : Good st L H) : H st ≠ none := by
  obtain ⟨_, _, _, _, e, _⟩ := g
  rw [e]
  exact fun z => nomatch z
theorem Good.ne_new {st L p : Addr} {H : Hp} (g : Good st L H) (n : H p = none) : p ≠ st := fun z => g.not_none (by rw [← z]; exact n)
theorem Dr.keep {st L p : Addr} {H H' : Hp} {o : HO} (g : Good st L H) (n : H p = none) (d : Dr st L (upd H p o) H') : H' p = some o :=
  d.at_ (fun z => g.not_none (by rw [← z]; exact n)) upd_same
theorem iteT' {a : Prop} {b : Prop} {c : Bool} (e : c = true) (h : a) : if c = true then a else b := by rw [if_pos e]; exact h
theorem iteF' {a : Prop} {b : Prop} {c : Bool} (e : c = false) (h : b) : if c = true then a else b := by rw [if_neg (by rw [e]; exact Bool.false_ne_true)]; exact h
theorem same_new {H : Hp} {p : Addr} {o : HO} (h : H p = none) : Same H (upd H p o) := fun a u e => by
  rw [upd_ne (ne_of_none e h)]
  exact e
theorem same_add {H H' : Hp} {p : Addr} {o : HO} (s : Same H H') (h : H' p = none) : Same H (upd H' p o) := s.trans (same_new h)
/-- what H does not know is written -/
theorem same_put {H H' : Hp} {p : Addr} {o : HO} (s : Same H H') (h : H p = none) : Same H (upd H' p o) := fun a u e => by
  rw [upd_ne (ne_of_none e h)]
  exact s a u e
/-- a new object, its heap by a name: `generalize h : upd _ p _ = H'` -/
theorem gen_up {H H' : Hp} {p : Addr} {o : HO} (h : upd H p o = H') (n : H p = none) : Same H H' ∧ H' p = some o := by
  subst h
  exact ⟨same_new n, upd_same⟩
/-! ### lists of ints stay while one draws -/
theorem Good.ne_ints {st L p : Addr} {H : Hp} {ns : List Int} (g : Good st L H) (h : H p = some (.lst (ns.map V.int))) : p ≠ st := by
  obtain ⟨_, _, _, _, e, _⟩ := g
  intro z
  subst z
  rw [e] at h
  exact ref_ne_ints (Option.some.inj h)
theorem IL.dr {st L : Addr} {H H' : Hp} {v : V} {ns : List Int} (h : IL H v ns) (g : Good st L H) (d : Dr st L H H') : IL H' v ns := by
  obtain ⟨p, e, e2⟩ := h
  exact ⟨p, e, d.at_ (g.ne_ints e2) e2⟩
theorem Ils.dr {st L : Addr} {H H' : Hp} {vs : List V} {ds : List (List Int)} (h : Ils H vs ds) (g : Good st L H) (d : Dr st L H H') : Ils H' vs ds := by
  induction h with
  | nil => exact .nil
  | cons a r ih => exact .cons (a.dr g d) ih
theorem Ils.refs {H : Hp} {vs : List V} {ds : List (List Int)} (h : Ils H vs ds) {i : Nat} {n : Int} (e : vs[i]? = some (.int n)) : False := by
  obtain ⟨d, _, p, e2, _⟩ := h.get e
  cases e2
theorem Good.ne_ils {st L p : Addr} {H : Hp} {xs : List V} {nss : List (List Int)} (g : Good st L H) (h : H p = some (.lst xs)) (r : Ils H xs nss) : p ≠ st := by
  obtain ⟨_, i, _, _, e, _⟩ := g
  intro z
  subst z
  rw [e] at h
  have h := HO.lst.inj (Option.some.inj h)
  subst h
  exact r.refs (i := 1) rfl
theorem LL.dr {st L : Addr} {H H' : Hp} {v : V} {nss : List (List Int)} (h : LL H v nss) (g : Good st L H) (d : Dr st L H H') : LL H' v nss := by
  obtain ⟨p, xs, e, e2, e3⟩ := h
  exact ⟨p, xs, e, d.at_ (g.ne_ils e2 e3) e2, e3.dr g d⟩
/-- another object is written -/
theorem Ils.upd {H : Hp} {D : Addr} {o : HO} {vs : List V} {ds : List (List Int)} (h : Ils H vs ds) : (∀ p, V.ref p ∈ vs → p ≠ D) → Ils (L2.upd H D o) vs ds := by
  induction h with
  | nil => intro _; exact .nil
  | cons a r ih =>
    intro hn
    obtain ⟨p, rfl, e⟩ := a
    refine .cons ⟨p, rfl, ?_⟩ (ih fun p m => hn p (List.mem_cons_of_mem _ m))
    rw [upd_ne (hn p List.mem_cons_self)]
    exact e
theorem at0 {α : Type} (x : α) (xs : List α) : atI (x :: xs) 0 = some x := atI_nat (j := 0) rfl
/-! ### readings of built-in calls, their fragment by name (for te := ..) -/
abbrev rLenK (K : PySem.W.Frag) : List V → Hp → VK → Prop := fun xs H Q => ∃ p ys, xs = [.ref p] ∧ (SqL K H p ys ∨ SqT K H p ys) ∧ Q (.int ys.length) H
abbrev rListK (K : PySem.W.Frag) : List V → Hp → VK → Prop := fun xs H Q => ∃ p ys, xs = [.ref p] ∧ (SqL K H p ys ∨ SqT K H p ys) ∧ ∀ l, H l = none → Q (.ref l) (upd H l (.lst ys))
abbrev rTupK (K : PySem.W.Frag) : List V → Hp → VK → Prop := fun xs H Q => ∃ p ys, xs = [.ref p] ∧ ((SqL K H p ys ∧ ∀ l, H l = none → Q (.ref l) (upd H l (.tup ys))) ∨ (SqT K H p ys ∧ Q (.ref p) H))
end KA


/-! Blocks, by mathematics alone. -/
namespace BK
def fx (n : Int) : Nat → List Int
  | 0 => []
  | k + 1 => fx (n / 256) k ++ [n % 256]
def num (ds : List Int) : Int := ds.foldl (fun a b => a * 256 + b) 0
def Byts (ds : List Int) : Prop := ∀ b ∈ ds, 0 ≤ b ∧ b < 256
theorem num_snoc (a : List Int) (b : Int) : num (a ++ [b]) = num a * 256 + b := by
  unfold num
  rw [List.foldl_append]
  rfl
theorem fx_len (n : Int) (k : Nat) : (fx n k).length = k := by
  induction k generalizing n with
  | zero => rfl
  | succ k ih => rw [fx, List.length_append, ih]; rfl
theorem fx_bytes (n : Int) (k : Nat) : Byts (fx n k) := by
  induction k generalizing n with
  | zero => intro b hb; cases hb
  | succ k ih =>
    intro b hb
    rw [fx] at hb
    rcases List.mem_append.mp hb with h | h
    · exact ih _ b h
    · rw [List.mem_singleton.mp h]
      exact ⟨Int.emod_nonneg _ (by decide), Int.emod_lt_of_pos _ (by decide)⟩
theorem num_fx (k : Nat) : ∀ n : Int, 0 ≤ n → n < 256 ^ k → num (fx n k) = n := by
  induction k with
  | zero =>
    intro n h1 h2
    have : n = 0 := by
      have e : (256 : Int) ^ 0 = 1 := rfl
      rw [e] at h2
      omega
    rw [this]
    rfl
  | succ k ih =>
    intro n h1 h2
    rw [fx, num_snoc, ih (n / 256) (by omega) (by
      rw [Int.pow_succ] at h2
      exact Int.ediv_lt_of_lt_mul (by decide) h2)]
    omega
theorem num_fold (l : List Int) : ∀ a : Int, Byts l → 0 ≤ a → 0 ≤ l.foldl (fun a b => a * 256 + b) a := by
  induction l with
  | nil => intro a _ h; exact h
  | cons x r ih =>
    intro a hb h
    refine ih (a * 256 + x) (fun b m => hb b (List.mem_cons_of_mem _ m)) ?_
    have := hb x List.mem_cons_self
    omega
theorem num_pos {l : List Int} (h : Byts l) : 0 ≤ num l := num_fold l 0 h (Int.le_refl _)
theorem Byts.take {l : List Int} (h : Byts l) (n : Nat) : Byts (l.take n) := fun b m => h b (List.mem_of_mem_take m)
theorem Byts.drop {l : List Int} (h : Byts l) (n : Nat) : Byts (l.drop n) := fun b m => h b (List.mem_of_mem_drop m)
theorem Byts.app {l m : List Int} (h : Byts l) (h2 : Byts m) : Byts (l ++ m) := fun b z => (List.mem_append.mp z).elim (h b) (h2 b)
/-- the numbers with so many bytes: the last byte's neighbours -/
theorem fx_inj {k : Nat} {m n : Int} (h1 : 0 ≤ m) (h2 : m < 256 ^ k) (h3 : 0 ≤ n) (h4 : n < 256 ^ k) (e : fx m k = fx n k) : m = n := by
  rw [← num_fx k m h1 h2, ← num_fx k n h3 h4, e]
def zeros (n : Nat) : List Int := List.replicate n 0
theorem zeros_bytes (n : Nat) : Byts (zeros n) := fun b h => by rw [(List.mem_replicate.mp h).2]; decide
def padT (l : List Int) (n : Nat) : List Int := l ++ zeros (n - l.length)
theorem padT_len {l : List Int} {n : Nat} (h : l.length ≤ n) : (padT l n).length = n := by
  unfold padT zeros
  rw [List.length_append, List.length_replicate]
  omega
def held (d : List Int) : List Int := fx d.length 4 ++ d
theorem held_len (d : List Int) : (held d).length = 4 + d.length := by
  unfold held
  rw [List.length_append, fx_len]
def cnt (d : List Int) : Nat := ((held d).length + 53) / 54
def secOf (t : Int) (d : List Int) (k : Nat) : List Int := fx t 6 ++ fx (cnt d) 4 ++ padT (((held d).drop (54 * k)).take 54) 54
def blk (t : Int) (d : List Int) : List (List Int) := (List.range (cnt d)).map (secOf t d)
theorem blk_len (t : Int) (d : List Int) : (blk t d).length = cnt d := by
  unfold blk
  rw [List.length_map, List.length_range]
theorem cnt_pos (d : List Int) : 1 ≤ cnt d := by
  unfold cnt
  rw [held_len]
  omega
/-- the number of sectors that a sector tells -/
def mny (s0 : List Int) : Int := num ((s0.drop 6).take 4)
abbrev bad (ss : List (List Int)) (s0 : List Int) (t : Int) : Prop := ¬ (1 ≤ mny s0 ∧ mny s0 ≤ (ss.length : Nat)) ∨ (ss.take (mny s0).toNat).any (fun s => decide (num (s.take 6) ≠ t)) = true
def hel (ss : List (List Int)) (s0 : List Int) : List Int := (ss.take (mny s0).toNat).flatMap (fun s => s.drop 10)
abbrev over (l : List Int) : Prop := num (l.take 4) > (l.length : Int) - 4
def rb (ss : List (List Int)) (t : Int) : Option (List Int × Int) :=
  match ss with
  | [] => none
  | s0 :: r => if num (s0.take 6) ≠ t then none else if bad (s0 :: r) s0 t then none else if over (hel (s0 :: r) s0) then none else some (((hel (s0 :: r) s0).drop 4).take (num ((hel (s0 :: r) s0).take 4)).toNat, mny s0)
theorem rb_cons (s0 : List Int) (r : List (List Int)) (t : Int) : rb (s0 :: r) t = if num (s0.take 6) ≠ t then none else if bad (s0 :: r) s0 t then none else if over (hel (s0 :: r) s0) then none else some (((hel (s0 :: r) s0).drop 4).take (num ((hel (s0 :: r) s0).take 4)).toNat, mny s0) := rfl
theorem rb_some {ss rest : List (List Int)} {s0 : List Int} {t : Int} {d : List Int} {tail : List Int} (h1 : 0 ≤ t) (h2 : t < 256 ^ 6) (hn : (((s0 :: ss).length : Nat) : Int) < 256 ^ 4) (hd : ((d.length : Nat) : Int) < 256 ^ 4)
    (a : ∀ s ∈ s0 :: ss, s.take 6 = fx t 6) (b : (s0.drop 6).take 4 = fx ((s0 :: ss).length : Nat) 4) (c : (s0 :: ss).flatMap (fun s => s.drop 10) = held d ++ tail) :
    rb (s0 :: (ss ++ rest)) t = some (d, (((s0 :: ss).length : Nat) : Int)) := by
  have e0 : num (s0.take 6) = t := by rw [a s0 List.mem_cons_self, num_fx 6 t h1 h2]
  have e1 : mny s0 = (((s0 :: ss).length : Nat) : Int) := by
    unfold mny
    rw [b, num_fx 4 _ (by omega) hn]
  have e2 : (s0 :: (ss ++ rest)).take ((s0 :: ss).length) = s0 :: ss := by
    rw [← List.cons_append]
    exact List.take_left
  have e3 : ((s0 :: ss).any fun s => decide (num (s.take 6) ≠ t)) = false := by
    rw [List.any_eq_false]
    intro s m z
    exact of_decide_eq_true z (by rw [a s m, num_fx 6 t h1 h2])
  have e4 : hel (s0 :: (ss ++ rest)) s0 = held d ++ tail := by
    unfold hel
    rw [e1, Int.toNat_natCast, e2, c]
  have f1 : (held d ++ tail).take 4 = fx d.length 4 := by
    unfold held
    rw [List.append_assoc, List.take_left' (fx_len _ _)]
  have f2 : (held d ++ tail).drop 4 = d ++ tail := by
    unfold held
    rw [List.append_assoc, List.drop_left' (fx_len _ _)]
  rw [rb_cons, if_neg (fun z => z e0), e4, if_neg, if_neg, f1, f2, num_fx 4 _ (by omega) hd, Int.toNat_natCast, List.take_left, e1]
  · show ¬ (num ((held d ++ tail).take 4) > _)
    rw [f1, num_fx 4 _ (by omega) hd, List.length_append, held_len]
    omega
  · show ¬ (¬ (1 ≤ mny s0 ∧ mny s0 ≤ _) ∨ _)
    rw [e1, Int.toNat_natCast, e2, e3]
    rintro (z | z)
    · apply z
      rw [List.length_cons, List.length_cons, List.length_append]
      omega
    · cases z
/-- refused: the first sector has another turn -/
theorem rb_turn {ss : List (List Int)} {s0 : List Int} {t : Int} (h : num (s0.take 6) ≠ t) : rb (s0 :: ss) t = none := by
  rw [rb_cons, if_pos h]
/-- refused: too many sectors, none, or one of another turn -/
theorem rb_bad {ss : List (List Int)} {s0 : List Int} {t : Int} (h : bad (s0 :: ss) s0 t) : rb (s0 :: ss) t = none := by
  rw [rb_cons]
  split
  · rfl
  · first | rfl | rw [if_pos h]
/-- refused: more bytes are told than there are -/
theorem rb_more {ss : List (List Int)} {s0 : List Int} {t : Int} (h : over (hel (s0 :: ss) s0)) : rb (s0 :: ss) t = none := by
  rw [rb_cons]
  split
  · rfl
  · split
    · rfl
    · first | rfl | rw [if_pos h]
def hd (t a : Int) : List Int := [82, 85, 76, 69] ++ fx t 6 ++ [a] ++ zeros 53
def rh (s : List Int) : Option (Int × Int) :=
  let t := num ((s.drop 4).take 6)
  if t < 1 then none else if s = hd t 0 then some (t, 0) else if s = hd t 1 then some (t, 1) else none
theorem hd_len (t a : Int) : (hd t a).length = 64 := by
  unfold hd zeros
  rw [List.length_append, List.length_append, List.length_append, fx_len, List.length_replicate]
  rfl
theorem hd_turn (t a : Int) : ((hd t a).drop 4).take 6 = fx t 6 := by
  unfold hd
  rw [List.append_assoc, List.append_assoc, List.drop_left' (i := 4) rfl, List.take_left' (fx_len _ _)]
theorem rh_hd {t : Int} (h1 : 1 ≤ t) (h2 : t < 256 ^ 6) {a : Int} (ha : a = 0 ∨ a = 1) : rh (hd t a) = some (t, a) := by
  unfold rh
  rw [hd_turn, num_fx 6 t (by omega) h2]
  show (if t < 1 then none else _) = _
  rw [if_neg (by omega)]
  rcases ha with rfl | rfl
  · rw [if_pos rfl]
  · rw [if_neg, if_pos rfl]
    intro e
    have := congrArg (fun l => l[10]?) e
    have f : ∀ x : Int, (hd t x)[10]? = some x := fun x => by
      unfold hd
      rw [List.append_assoc, List.getElem?_append_right (by rw [List.length_append, fx_len]; decide), List.length_append, fx_len]
      rfl
    rw [f, f] at this
    cases this
/-- a sector is a head only so -/
theorem rh_none {s : List Int} (h : ∀ t a : Int, 1 ≤ t → (a = 0 ∨ a = 1) → num ((s.drop 4).take 6) = t → s ≠ hd t a) : rh s = none := by
  unfold rh
  show (if num ((s.drop 4).take 6) < 1 then none else _) = _
  by_cases c : num ((s.drop 4).take 6) < 1
  · rw [if_pos c]
  · rw [if_neg c, if_neg (h _ 0 (by omega) (.inl rfl) rfl), if_neg (h _ 1 (by omega) (.inr rfl) rfl)]
def put (s : List Int) (p : Nat) (d : List Int) : List Int := s.take p ++ d ++ s.drop (p + d.length)
end BK

/-! Blocks that are read back, and those that are spoilt. -/
namespace BK
theorem lt4 {n : Nat} (h : n ≤ 1000000) : ((n : Nat) : Int) < 256 ^ 4 := by
  have : (256 : Int) ^ 4 = 4294967296 := by decide
  omega
theorem take6 {A B C : List Int} (h : A.length = 6) : (A ++ B ++ C).take 6 = A := by
  rw [List.append_assoc, List.take_left' h]
theorem mid4 {A B C : List Int} (h : A.length = 6) (h2 : B.length = 4) : ((A ++ B ++ C).drop 6).take 4 = B := by
  rw [List.append_assoc, List.drop_left' h, List.take_left' h2]
theorem drop10 {A B C : List Int} (h : A.length = 6) (h2 : B.length = 4) : (A ++ B ++ C).drop 10 = C := by
  rw [List.drop_left' (by rw [List.length_append, h, h2])]
theorem sec_len (t : Int) (d : List Int) (k : Nat) : (secOf t d k).length = 64 := by
  unfold secOf
  rw [List.length_append, List.length_append, fx_len, fx_len, padT_len (by rw [List.length_take]; omega)]
theorem sec_take (t : Int) (d : List Int) (k : Nat) : (secOf t d k).take 6 = fx t 6 := take6 (fx_len _ _)
theorem sec_mid (t : Int) (d : List Int) (k : Nat) : ((secOf t d k).drop 6).take 4 = fx (cnt d : Nat) 4 := mid4 (fx_len _ _) (fx_len _ _)
theorem sec_drop (t : Int) (d : List Int) (k : Nat) : (secOf t d k).drop 10 = padT (((held d).drop (54 * k)).take 54) 54 := drop10 (fx_len _ _) (fx_len _ _)
theorem held_bytes {d : List Int} (h : Byts d) : Byts (held d) := (fx_bytes _ _).app h
theorem sec_bytes {t : Int} {d : List Int} (h : Byts d) (k : Nat) : Byts (secOf t d k) := by
  unfold secOf padT
  exact ((fx_bytes _ _).app (fx_bytes _ _)).app ((((held_bytes h).drop _).take _).app (zeros_bytes _))
theorem blk_mem {t : Int} {d s : List Int} (h : s ∈ blk t d) : ∃ k, s = secOf t d k := by
  obtain ⟨k, _, e⟩ := List.mem_map.mp h
  exact ⟨k, e.symm⟩
theorem pieces (h : List Int) : ∀ k, 54 * k ≤ h.length + 53 → (List.range k).flatMap (fun j => padT ((h.drop (54 * j)).take 54) 54) = h.take (54 * k) ++ zeros (54 * k - h.length) := by
  intro k
  induction k with
  | zero => intro _; simp [zeros]
  | succ k ih =>
    intro hk
    have h1 : 54 * k < h.length := by omega
    rw [List.range_succ, List.flatMap_append, ih (by omega), List.flatMap_cons, List.flatMap_nil, List.append_nil]
    have z : 54 * k - h.length = 0 := by omega
    rw [z]
    show h.take (54 * k) ++ [] ++ _ = _
    rw [List.append_nil, show 54 * (k + 1) = 54 * k + 54 by omega, List.take_add]
    unfold padT
    rw [List.append_assoc, List.length_take, List.length_drop]
    congr 2
    first | omega | (congr 1; omega)
theorem blk_flat (t : Int) (d : List Int) : (blk t d).flatMap (fun s => s.drop 10) = held d ++ zeros (54 * cnt d - (held d).length) := by
  have e := pieces (held d) (cnt d) (by unfold cnt; omega)
  rw [List.take_of_length_le (by unfold cnt; omega)] at e
  rw [← e]
  unfold blk
  rw [List.flatMap_map]
  congr 1
  all_goals (funext j; exact sec_drop t d j)
/-- sectors with the data of a block: other numbers in the later ones -/
structure Var (t : Int) (d : List Int) (S : List (List Int)) : Prop where
  len : S.length = cnt d
  tk : ∀ s ∈ S, s.take 6 = fx t 6
  ln : ∀ s ∈ S, s.length = 64
  fst : ∀ s, S[0]? = some s → (s.drop 6).take 4 = fx (cnt d : Nat) 4
  fl : S.flatMap (fun s => s.drop 10) = held d ++ zeros (54 * cnt d - (held d).length)
  byt : ∀ s ∈ S, Byts s
theorem Var.read {t : Int} {d : List Int} {S : List (List Int)} (v : Var t d S) (h1 : 0 ≤ t) (h2 : t < 256 ^ 6) (hd : d.length ≤ 10000) (rest : List (List Int)) : rb (S ++ rest) t = some (d, ((cnt d : Nat) : Int)) := by
  have hc : cnt d ≤ 1000000 := by unfold cnt; rw [held_len]; omega
  cases S with
  | nil =>
    have := v.len
    have := cnt_pos d
    simp at *
    omega
  | cons s0 r =>
    have el : ((s0 :: r).length : Nat) = cnt d := v.len
    have := rb_some (ss := r) (rest := rest) (s0 := s0) (t := t) (d := d) (tail := zeros (54 * cnt d - (held d).length)) h1 h2 (by rw [el]; exact lt4 hc) (lt4 (by omega)) v.tk (by rw [v.fst s0 rfl, el]) v.fl
    rw [el] at this
    exact this
theorem var_blk {t : Int} {d : List Int} (h : Byts d) : Var t d (blk t d) := by
  refine ⟨blk_len t d, fun s m => ?_, fun s m => ?_, fun s e => ?_, blk_flat t d, fun s m => ?_⟩
  · obtain ⟨k, rfl⟩ := blk_mem m
    exact sec_take _ _ _
  · obtain ⟨k, rfl⟩ := blk_mem m
    exact sec_len _ _ _
  · obtain ⟨k, rfl⟩ := blk_mem (List.mem_of_getElem? e)
    exact sec_mid _ _ _
  · obtain ⟨k, rfl⟩ := blk_mem m
    exact sec_bytes h _
theorem split3 {s : List Int} (h : s.length = 64) : ∃ A B C, s = A ++ B ++ C ∧ A.length = 6 ∧ B.length = 4 ∧ C.length = 54 := by
  refine ⟨s.take 6, (s.drop 6).take 4, s.drop 10, ?_, ?_, ?_, ?_⟩
  · rw [List.append_assoc]
    have : s.drop 10 = (s.drop 6).drop 4 := by rw [List.drop_drop]
    rw [this, List.take_append_drop, List.take_append_drop]
  · rw [List.length_take]; omega
  · rw [List.length_take, List.length_drop]; omega
  · rw [List.length_drop]; omega
theorem put_mid {A B C D : List Int} {n : Nat} (ha : A.length = n) (hb : D.length = B.length) : put (A ++ B ++ C) n D = A ++ D ++ C := by
  unfold put
  rw [List.append_assoc A B C, List.take_left' ha]
  congr 1
  rw [hb, ← List.append_assoc, List.drop_left' (by rw [List.length_append, ha])]
/-- the number in a sector changed -/
theorem put6 {s : List Int} (h : s.length = 64) (D : List Int) (hD : D.length = 4) (hb : Byts D) (hs : Byts s) : (put s 6 D).take 6 = s.take 6 ∧ (put s 6 D).length = 64 ∧ (put s 6 D).drop 10 = s.drop 10 ∧ ((put s 6 D).drop 6).take 4 = D ∧ Byts (put s 6 D) := by
  obtain ⟨A, B, C, rfl, ha, hB, hC⟩ := split3 h
  rw [put_mid ha (by rw [hD, hB])]
  refine ⟨by rw [take6 ha, take6 ha], by rw [List.length_append, List.length_append]; omega, by rw [drop10 ha hD, drop10 ha hB], mid4 ha hD, ?_⟩
  intro b m
  rcases List.mem_append.mp m with m | m
  · rcases List.mem_append.mp m with m | m
    · exact hs b (List.mem_append.mpr (.inl (List.mem_append.mpr (.inl m))))
    · exact hb b m
  · exact hs b (List.mem_append.mpr (.inr m))
/-- the later sectors with other numbers -/
theorem var_nums {t : Int} {d : List Int} (h : Byts d) {R : List (List Int)} (e : List (List Int)) (hl : e.length = R.length) (he : ∀ (i : Nat) (s : List Int), e[i]? = some s → ∃ r D, R[i]? = some r ∧ s = put r 6 D ∧ D.length = 4 ∧ Byts D) {s0 : List Int} (hb : blk t d = s0 :: R) : Var t d (s0 :: e) := by
  have v := var_blk (t := t) h
  rw [hb] at v
  have key : ∀ (i : Nat) (s : List Int), e[i]? = some s → ∃ r ∈ R, s.take 6 = r.take 6 ∧ s.length = 64 ∧ s.drop 10 = r.drop 10 ∧ Byts s ∧ R[i]? = some r := fun i s z => by
    obtain ⟨r, D, hr, rfl, hD, hbD⟩ := he i s z
    have mr := List.mem_of_getElem? hr
    obtain ⟨a, b, c, _, f⟩ := put6 (v.ln r (List.mem_cons_of_mem _ mr)) D hD hbD (v.byt r (List.mem_cons_of_mem _ mr))
    exact ⟨r, mr, a, b, c, f, hr⟩
  have em : ∀ s ∈ e, ∃ r ∈ R, s.take 6 = r.take 6 ∧ s.length = 64 ∧ s.drop 10 = r.drop 10 ∧ Byts s := fun s m => by
    obtain ⟨i, z⟩ := List.getElem?_of_mem m
    obtain ⟨r, mr, a, b, c, f, _⟩ := key i s z
    exact ⟨r, mr, a, b, c, f⟩
  refine ⟨?_, fun s m => ?_, fun s m => ?_, fun s z => v.fst s z, ?_, fun s m => ?_⟩
  · rw [← v.len, List.length_cons, List.length_cons, hl]
  · rcases List.mem_cons.mp m with rfl | m
    · exact v.tk _ List.mem_cons_self
    · obtain ⟨r, mr, a, _⟩ := em s m
      rw [a]
      exact v.tk r (List.mem_cons_of_mem _ mr)
  · rcases List.mem_cons.mp m with rfl | m
    · exact v.ln _ List.mem_cons_self
    · obtain ⟨r, mr, _, b, _⟩ := em s m
      exact b
  · rw [← v.fl, List.flatMap_cons, List.flatMap_cons]
    congr 1
    rw [List.flatMap_def, List.flatMap_def]
    congr 1
    apply List.ext_getElem?
    intro i
    rw [List.getElem?_map, List.getElem?_map]
    cases z : e[i]? with
    | none =>
      have : R[i]? = none := by
        rw [List.getElem?_eq_none_iff] at z ⊢
        omega
      rw [this]
      all_goals rfl
    | some s =>
      obtain ⟨r, mr, _, _, c, _, hr⟩ := key i s z
      rw [hr]
      exact congrArg some c
  · rcases List.mem_cons.mp m with rfl | m
    · exact v.byt _ List.mem_cons_self
    · obtain ⟨r, mr, _, _, _, f⟩ := em s m
      exact f
/-- other bytes behind the told ones -/
theorem Var.behind {t : Int} {d : List Int} {S : List (List Int)} (v : Var t d S) {b : Nat} (hb : b = 54 * cnt d - (held d).length) {l : List Int} (hl : S[S.length - 1]? = some l) (x : Int) (h0 : 0 ≤ x) (h1 : x < 256) :
    ∃ tail, (∀ rest, 0 ≤ t → t < 256 ^ 6 → d.length ≤ 10000 → rb (S.set (S.length - 1) (l.take (64 - b) ++ List.replicate b x) ++ rest) t = some (d, ((cnt d : Nat) : Int))) ∧ (∀ s ∈ S.set (S.length - 1) (l.take (64 - b) ++ List.replicate b x), Byts s ∧ s.length = 64) ∧ tail = (0 : Nat) := by
  refine ⟨0, ?_, ?_, rfl⟩
  · intro rest t0 t1 hd
    have hb2 : b ≤ 53 := by rw [hb]; unfold cnt; omega
    have hne : S ≠ [] := fun z => by rw [z] at hl; cases hl
    have eS : S = S.dropLast ++ [l] := by
      have : S.getLast hne = l := by
        rw [List.getLast_eq_getElem]
        obtain ⟨_, e⟩ := List.getElem?_eq_some_iff.mp hl
        exact e
      rw [← this, List.dropLast_concat_getLast]
    generalize hS : S.dropLast = S0 at eS
    subst eS
    have lS : (S0 ++ [l]).length - 1 = S0.length := by rw [List.length_append]; rfl
    rw [lS, List.set_append_right _ _ (Nat.le_refl _), Nat.sub_self]
    show rb ((S0 ++ [l.take (64 - b) ++ List.replicate b x]) ++ rest) t = _
    have ll : l.length = 64 := v.ln l (List.mem_append.mpr (.inr (List.mem_singleton.mpr rfl)))
    -- its pieces
    have f1 : ∀ n, n ≤ 64 - b → (l.take (64 - b) ++ List.replicate b x).take n = l.take n := fun n hn => by
      rw [List.take_append_of_le_length (by rw [List.length_take]; omega), List.take_take, Nat.min_eq_left hn]
    have f2 : (l.take (64 - b) ++ List.replicate b x).drop 10 = (l.drop 10).take (54 - b) ++ List.replicate b x := by
      rw [List.drop_append_of_le_length (by rw [List.length_take]; omega), List.drop_take]
      congr 2
      omega
    have f3 : ((l.take (64 - b) ++ List.replicate b x).drop 6).take 4 = (l.drop 6).take 4 := by
      rw [List.take_drop, List.take_drop, f1 10 (by omega)]
    have fl := v.fl
    rw [List.flatMap_append, List.flatMap_cons, List.flatMap_nil, List.append_nil, ← hb] at fl
    have cutl : S0.flatMap (fun s => s.drop 10) ++ (l.drop 10).take (54 - b) = held d := by
      have e : (S0.flatMap (fun s => s.drop 10) ++ l.drop 10).take ((S0.flatMap (fun s => s.drop 10) ++ l.drop 10).length - b) = (held d ++ zeros b).take ((held d ++ zeros b).length - b) := by rw [fl]
      rw [List.length_append, List.length_drop, List.length_append (as := held d)] at e
      have lz : (zeros b).length = b := List.length_replicate
      rw [lz, Nat.add_sub_cancel, List.take_left, List.take_append] at e
      rw [List.take_of_length_le (by omega)] at e
      rw [← e]
      congr 2
      omega
    cases S0 with
    | nil =>
      have c1 : cnt d = 1 := v.len.symm
      have := rb_some (ss := []) (rest := rest) (s0 := l.take (64 - b) ++ List.replicate b x) (t := t) (d := d) (tail := List.replicate b x) t0 t1 (lt4 (n := 1) (by decide)) (lt4 (by omega))
        (fun s m => by rw [List.mem_singleton.mp m, f1 6 (by omega)]; exact v.tk l List.mem_cons_self)
        (by rw [f3, v.fst l rfl, c1]; rfl)
        (by
          rw [List.flatMap_cons, List.flatMap_nil, List.append_nil, f2]
          rw [show (l.drop 10).take (54 - b) = held d from cutl])
      rw [c1]
      exact this
    | cons s0 r =>
      have el : ((s0 :: (r ++ [l.take (64 - b) ++ List.replicate b x])).length : Nat) = cnt d := by
        rw [← v.len, List.length_cons, List.length_append, List.length_append, List.length_cons]
        rfl
      have hc : cnt d ≤ 1000000 := by unfold cnt; rw [held_len]; omega
      have := rb_some (ss := r ++ [l.take (64 - b) ++ List.replicate b x]) (rest := rest) (s0 := s0) (t := t) (d := d) (tail := List.replicate b x) t0 t1 (by rw [el]; exact lt4 hc) (lt4 (by omega))
        (fun s m => by
          rcases List.mem_cons.mp m with rfl | m
          · exact v.tk _ List.mem_cons_self
          · rcases List.mem_append.mp m with m | m
            · exact v.tk s (List.mem_cons_of_mem _ (List.mem_append.mpr (.inl m)))
            · rw [List.mem_singleton.mp m, f1 6 (by omega)]
              exact v.tk l (List.mem_append.mpr (.inr (List.mem_singleton.mpr rfl))))
        (by rw [v.fst s0 rfl, el])
        (by
          rw [← List.cons_append, List.flatMap_append, List.flatMap_cons (xs := []), List.flatMap_nil, List.append_nil, f2, ← List.append_assoc, cutl])
      rw [el] at this
      rw [List.cons_append, List.cons_append]
      exact this
  · intro s m
    rcases List.mem_or_eq_of_mem_set m with m | rfl
    · exact ⟨v.byt s m, v.ln s m⟩
    · have ml := List.mem_of_getElem? hl
      have ll := v.ln l ml
      have hb2 : b ≤ 53 := by rw [hb]; unfold cnt; omega
      refine ⟨((v.byt l ml).take _).app fun y m => ?_, by rw [List.length_append, List.length_take, List.length_replicate]; omega⟩
      rw [(List.mem_replicate.mp m).2]
      exact ⟨h0, h1⟩
end BK

namespace BK
theorem fx_num : ∀ (n : Nat) (l : List Int), l.length = n → Byts l → fx (num l) n = l
  | 0, l, h, _ => by
    rw [List.length_eq_zero_iff.mp h]
    rfl
  | n + 1, l, h, hb => by
    have hne : l ≠ [] := fun z => by rw [z] at h; cases h
    have e := List.dropLast_concat_getLast hne
    generalize l.dropLast = a at e
    generalize l.getLast hne = b at e
    subst e
    rw [num_snoc, fx]
    have hb2 := hb b (List.mem_append.mpr (.inr (List.mem_singleton.mpr rfl)))
    rw [show (num a * 256 + b) / 256 = num a by omega, show (num a * 256 + b) % 256 = b by omega, fx_num n a (by rw [List.length_append, List.length_cons, List.length_nil] at h; omega) (fun x m => hb x (List.mem_append.mpr (.inl m)))]
theorem put1_len {s : List Int} {n : Nat} {x : Int} (h : n < s.length) : (put s n [x]).length = s.length := by
  unfold put
  rw [List.length_append, List.length_append, List.length_take, List.length_drop, List.length_singleton]
  omega
theorem put1_at {s : List Int} {n : Nat} {x : Int} (h : n < s.length) : (put s n [x])[n]? = some x := by
  unfold put
  rw [List.append_assoc, List.getElem?_append_right (by rw [List.length_take]; omega), List.length_take, Nat.min_eq_left (by omega), Nat.sub_self]
  rfl
theorem put1_other {s : List Int} {n m : Nat} {x : Int} (h : n < s.length) (hm : m ≠ n) : (put s n [x])[m]? = s[m]? := by
  unfold put
  rcases Nat.lt_or_ge m n with c | c
  · rw [List.append_assoc, List.getElem?_append_left (by rw [List.length_take]; omega), List.getElem?_take, if_pos c]
  · rw [List.getElem?_append_right (by rw [List.length_append, List.length_take, List.length_singleton]; omega), List.length_append, List.length_take, List.length_singleton, Nat.min_eq_left (by omega), List.getElem?_drop]
    congr 1
    omega
theorem put1_bytes {s : List Int} {n : Nat} {x : Int} (hs : Byts s) (hx : 0 ≤ x ∧ x < 256) : Byts (put s n [x]) := by
  unfold put
  refine ((hs.take _).app fun b m => ?_).app (hs.drop _)
  rw [List.mem_singleton.mp m]
  exact hx
/-- a byte of the turn is another one -/
theorem wrong_turn {s : List Int} {t : Int} {n : Nat} {b x : Int} (hs : Byts s) (hl : s.length = 64) (ht : s.take 6 = fx t 6) (hn : n < 6) (hb : s[n]? = some b) (hx : 0 ≤ x ∧ x < 256) (ne : x ≠ b) : num ((put s n [x]).take 6) ≠ t := by
  intro e
  have l1 : ((put s n [x]).take 6).length = 6 := by
    rw [List.length_take, put1_len (by omega)]
    omega
  have e2 := fx_num 6 _ l1 ((put1_bytes hs hx).take 6)
  rw [e, ← ht] at e2
  have e3 : ((put s n [x]).take 6)[n]? = (s.take 6)[n]? := by rw [e2]
  rw [List.getElem?_take, List.getElem?_take, if_pos hn, if_pos hn, put1_at (by omega), hb] at e3
  exact ne (Option.some.inj e3)
theorem bad_byte {b r : Int} (h0 : 0 ≤ b) (h1 : b < 256) (r0 : 0 ≤ r) (r1 : r < 255) : (b + 1 + r) % 256 ≠ b ∧ 0 ≤ (b + 1 + r) % 256 ∧ (b + 1 + r) % 256 < 256 := by
  omega
theorem blk_at {t : Int} {d : List Int} {k : Nat} (h : k < cnt d) : (blk t d)[k]? = some (secOf t d k) := by
  unfold blk
  rw [List.getElem?_map, List.getElem?_range h]
  rfl
theorem blk_cons (t : Int) (d : List Int) : ∃ R, blk t d = secOf t d 0 :: R := by
  have h := blk_at (t := t) (d := d) (k := 0) (by have := cnt_pos d; omega)
  cases e : blk t d with
  | nil => rw [e] at h; cases h
  | cons a r =>
    rw [e] at h
    cases h
    exact ⟨r, rfl⟩
theorem mny_sec {t : Int} {d : List Int} (hd : d.length ≤ 10000) : mny (secOf t d 0) = (cnt d : Nat) := by
  unfold mny
  rw [sec_mid, num_fx 4 _ (by omega) (lt4 (by unfold cnt; rw [held_len]; omega))]
theorem spoilt0 {t : Int} {d : List Int} (h : Byts d) (t0 : 0 ≤ t) (t1 : t < 256 ^ 6) (hd : d.length ≤ 10000) {k n : Nat} (hk : k < cnt d) (hn : n < 6) {b x : Int} (hb : (secOf t d k)[n]? = some b) (hx : 0 ≤ x ∧ x < 256) (ne : x ≠ b) :
    rb ((blk t d).take k ++ [put (secOf t d k) n [x]] ++ (blk t d).drop (k + 1)) t = none := by
  have w := wrong_turn (sec_bytes h k) (sec_len t d k) (sec_take t d k) hn hb hx ne
  cases k with
  | zero => exact rb_turn w
  | succ k =>
    obtain ⟨R, eR⟩ := blk_cons t d
    have lb := blk_len t d
    have e : (blk t d).take (k + 1) ++ [put (secOf t d (k + 1)) n [x]] ++ (blk t d).drop (k + 1 + 1) = secOf t d 0 :: (R.take k ++ [put (secOf t d (k + 1)) n [x]] ++ (blk t d).drop (k + 1 + 1)) := by
      rw [eR]
      rfl
    rw [e]
    refine rb_bad (.inr ?_)
    rw [mny_sec hd, Int.toNat_natCast, List.take_of_length_le, List.any_eq_true]
    · exact ⟨_, List.mem_cons_of_mem _ (List.mem_append.mpr (.inl (List.mem_append.mpr (.inr (List.mem_singleton.mpr rfl))))), decide_eq_true w⟩
    · rw [← e, List.length_append, List.length_append, List.length_take, List.length_drop, lb]
      rw [List.length_singleton]
      omega
theorem spoilt1 {t : Int} {d : List Int} (hd : d.length ≤ 10000) : rb ((blk t d).take ((blk t d).length - 1)) t = none := by
  obtain ⟨R, eR⟩ := blk_cons t d
  have lb := blk_len t d
  rw [eR] at lb ⊢
  rw [List.length_cons] at lb
  rw [List.length_cons, Nat.add_sub_cancel]
  cases e : R.length with
  | zero => rfl
  | succ m =>
    rw [List.take_succ_cons]
    refine rb_bad (.inl fun z => ?_)
    have z := z.2
    rw [mny_sec hd, List.length_cons, List.length_take] at z
    omega
theorem spoilt2 {t : Int} {d : List Int} (hd : d.length ≤ 10000) {r : Int} (r0 : 0 ≤ r) (r1 : r < 1000) {R : List (List Int)} (hR : blk t d = secOf t d 0 :: R) : rb (put (secOf t d 0) 10 (fx (54 * (cnt d : Nat) - 3 + r) 4) :: R) t = none := by
  have hc : cnt d ≤ 1000000 := by unfold cnt; rw [held_len]; omega
  have c0 := cnt_pos d
  have h256 : (256 : Int) ^ 4 = 4294967296 := by decide
  have lb := blk_len t d
  have e : put (secOf t d 0) 10 (fx (54 * (cnt d : Nat) - 3 + r) 4) = fx t 6 ++ fx (cnt d : Nat) 4 ++ (fx (54 * (cnt d : Nat) - 3 + r) 4 ++ (padT (((held d).drop (54 * 0)).take 54) 54).drop 4) := by
    unfold put secOf
    rw [List.take_left' (by rw [List.length_append, fx_len, fx_len]), fx_len, List.append_assoc _ (fx _ 4) (List.drop _ _)]
    congr 2
    all_goals rw [← List.drop_drop, List.drop_left' (by rw [List.length_append, fx_len, fx_len])]
  have m : mny (put (secOf t d 0) 10 (fx (54 * (cnt d : Nat) - 3 + r) 4)) = (cnt d : Nat) := by
    unfold mny
    rw [e, mid4 (fx_len _ _) (fx_len _ _), num_fx 4 _ (by omega) (lt4 hc)]
  refine rb_more ?_
  have eh : hel (put (secOf t d 0) 10 (fx (54 * (cnt d : Nat) - 3 + r) 4) :: R) (put (secOf t d 0) 10 (fx (54 * (cnt d : Nat) - 3 + r) 4)) = (fx (54 * (cnt d : Nat) - 3 + r) 4 ++ (padT (((held d).drop (54 * 0)).take 54) 54).drop 4) ++ R.flatMap (fun s => s.drop 10) := by
    unfold hel
    rw [m, Int.toNat_natCast, List.take_of_length_le, List.flatMap_cons]
    · congr 1
      all_goals (rw [e]; exact drop10 (fx_len _ _) (fx_len _ _))
    · rw [hR, List.length_cons] at lb
      rw [List.length_cons]
      omega
  have fl := blk_flat t d
  rw [hR, List.flatMap_cons, sec_drop] at fl
  have lp : (padT (((held d).drop (54 * 0)).take 54) 54).length = 54 := padT_len (by rw [List.length_take]; omega)
  have ll := congrArg List.length fl
  rw [List.length_append, List.length_append, lp] at ll
  have lz : (zeros (54 * cnt d - (held d).length)).length = 54 * cnt d - (held d).length := List.length_replicate
  have hh : (held d).length ≤ 54 * cnt d := by unfold cnt; omega
  rw [lz] at ll
  show num ((hel _ _).take 4) > ((hel _ _).length : Int) - 4
  rw [eh, List.append_assoc, List.take_left' (fx_len _ _), num_fx 4 _ (by omega) (by omega), List.length_append, List.length_append, List.length_drop, fx_len, lp]
  omega
theorem spoilt3 {t : Int} {d : List Int} (R : List (List Int)) : rb (put (secOf t d 0) 6 [0, 0, 0, 0] :: R) t = none := by
  refine rb_bad (.inl fun z => ?_)
  have e : mny (put (secOf t d 0) 6 [0, 0, 0, 0]) = 0 := by
    unfold mny secOf
    rw [put_mid (fx_len _ _) (by rw [fx_len]; rfl), mid4 (fx_len _ _) rfl]
    rfl
  rw [e] at z
  omega
/-- the next turn finds nothing -/
theorem rb_next {t : Int} {d : List Int} (t0 : 0 ≤ t) (t1 : t < 256 ^ 6) (rest : List (List Int)) : rb (blk t d ++ rest) (t + 1) = none := by
  obtain ⟨R, eR⟩ := blk_cons t d
  rw [eR]
  refine rb_turn ?_
  rw [sec_take, num_fx 6 t t0 t1]
  omega
/-! ### heads -/
theorem hd_bytes {t a : Int} (ha : 0 ≤ a ∧ a < 256) : Byts (hd t a) := by
  unfold hd
  have h4 : Byts [82, 85, 76, 69] := fun b m => by
    simp only [List.mem_cons, List.not_mem_nil, or_false] at m
    omega
  have h1 : Byts [a] := fun b m => by
    rw [List.mem_singleton.mp m]
    exact ha
  exact ((h4.app (fx_bytes t 6)).app h1).app (zeros_bytes 53)
/-- the places of a head that are always the same -/
theorem hd_same {t a t' a' : Int} {n : Nat} (h : n < 4 ∨ 11 ≤ n) : (hd t a)[n]? = (hd t' a')[n]? := by
  unfold hd
  rcases h with h | h
  · rw [List.append_assoc, List.append_assoc, List.append_assoc, List.append_assoc, List.getElem?_append_left (by exact h), List.getElem?_append_left (by exact h)]
  · have l : ∀ x y : Int, ([82, 85, 76, 69] ++ fx x 6 ++ [y] : List Int).length = 11 := fun x y => by
      rw [List.length_append, List.length_append, fx_len]
      rfl
    rw [List.getElem?_append_right (by rw [l]; exact h), List.getElem?_append_right (by rw [l]; exact h), l, l]
theorem hd_ten (t a : Int) : (hd t a)[10]? = some a := by
  unfold hd
  rw [List.append_assoc, List.getElem?_append_right (by rw [List.length_append, fx_len]; decide), List.length_append, fx_len]
  rfl
theorem wrong_head {t a : Int} {n : Nat} (h : n < 4 ∨ 11 ≤ n) (h2 : n < 64) {b x : Int} (hb : (hd t a)[n]? = some b) (ne : x ≠ b) : rh (put (hd t a) n [x]) = none := by
  refine rh_none fun t' a' _ _ _ e => ?_
  have e2 : (put (hd t a) n [x])[n]? = (hd t' a')[n]? := by rw [e]
  rw [put1_at (by rw [hd_len]; exact h2), ← hd_same (t := t) (a := a) h, hb] at e2
  exact ne (Option.some.inj e2)
theorem wrong_area {t a x : Int} (hx : 2 ≤ x) : rh (put (hd t a) 10 [x]) = none := by
  refine rh_none fun t' a' _ ha _ e => ?_
  have e2 : (put (hd t a) 10 [x])[10]? = (hd t' a')[10]? := by rw [e]
  rw [put1_at (by rw [hd_len]; decide), hd_ten] at e2
  have := Option.some.inj e2
  omega
theorem zero_head {s : List Int} (h : (s.drop 4).take 6 = zeros 6) : rh s = none := by
  unfold rh
  rw [h]
  rfl
theorem wrong_zero {t a : Int} : rh (put (hd t a) 4 (zeros 6)) = none := by
  refine zero_head ?_
  unfold put
  rw [List.append_assoc, List.drop_left' (by rw [List.length_take, hd_len]; decide), List.take_left' (i := 6) rfl]
end BK

namespace LK
open PySem PySem.Spec PyProof.Rows L2 KA
/-! ### the text -/
def topS (i : Nat) : Stmt := PySem.Challenge.pw_rulestead_k07_blocks_and_heads.main.body.getD i (.Pass ⟨0, 0, 0, 0⟩)
/-- the built-in names that are still the built-in ones -/
structure Bt (mg : Str → Option Value) : Prop where
  len : mg "len" = none
  int : mg "int" = none
  isi : mg "isinstance" = none
  bool : mg "bool" = none
  str : mg "str" = none
  tup : mg "tuple" = none
  lst : mg "list" = none
  rng : mg "range" = none
  min : mg "min" = none
  rev : mg "reversed" = none
  any : mg "any" = none
section
variable {P : Program} {w : World} {K : PySem.W.Frag} {mg : Str → Option Value} {base : Heap}
theorem pM : (0 : Int) < 2147483647 := by decide
/-! ### _law_next -/
abbrev sNext : Stmt := topS 19
theorem scNext : FnScope ["state", "limit", "cell", "value"] ["state", "limit"] (defScope sNext) := ⟨rfl, rfl, rfl, by decide +kernel, rfl, by decide +kernel, by decide +kernel⟩
def spNext : Sp := fun vs H Q _ => ∃ (st L : Addr) (lim : Int), vs = [.ref st, .int lim] ∧ Good st L H ∧ 0 < lim ∧ lim < 2 ^ 200 ∧ ∀ (v : Int) H', Dr st L H H' → 0 ≤ v → v < lim → Q (.int v) H'
theorem ok_next {f : Addr} {fd : FuncData} {k : Nat} (F : Fun K "_law_next" "_law_next" sNext f fd) (B : Bt mg) : FnOk P w K mg base CX0 (k + 1) f fd ["state", "limit"] spNext := by
  refine F.ok scNext (fun vs H Q E h => ?_) (fun cdv A outer s H vs Q E hr h => ?_)
  · obtain ⟨st, L, lim, rfl, _⟩ := h
    rfl
  · obtain ⟨st, L, lim, rfl, g, l0, l1, q⟩ := h
    refine ⟨_, C8.pss_cut (ps_if (PW.pt (pw_and (pt_cmpR op_eq (pe_ix ix_list (pv 0) pe_int (fun _ _ => rfl)) pe_int (nomark _))
          (pw_and1 (pt_cmpR op_lt (pe_ix ix_list (pv 0) pe_int (fun _ _ => rfl)) (pe_callB call_len_seq (by rfl) B.len PySem.boot_len (pa_cons (pe_ix ix_list (pv 0) pe_int (fun _ _ => rfl)) pa_nil)) (nomark _)))))
        (pss_cons (ps_set (i := 2) scNext.nd rfl (.inl rfl) (pe_ix ix_list (pe_ix ix_list (pv 0) pe_int (fun _ _ => rfl)) (pe_ix ix_list (pv 0) pe_int (fun _ _ => rfl)) (fun _ _ => rfl)))
        (pss_cons (ps_augS (pv 0) pe_int get_list pe_int ip_add set_list)
        (pss_one (ps_if (pt_cmpR op_ge (pv 2) (pe_op op_pow pe_int pe_int) (nomark _))
          (pss_one (ps_asg (pv 2) (pg_sub (pv 0) pe_int set_list)))
          (pss_one (ps_asg (pe_op op_mod (pe_callTy call_int1 (by rfl) B.int (by decide +kernel) (pa_cons (pe_op op_add (pe_op op_add (pe_op op_mul (pe_ix ix_list (pv 0) pe_int (fun _ _ => rfl)) pe_int)
              (pe_op op_mod (pe_callTy call_int1 (by rfl) B.int (by decide +kernel) (pa_cons (pv 2) pa_nil)) pe_int)) pe_int) pa_nil)) pe_int) (pg_sub (pv 0) pe_int set_list)))))))
        pss_nil)
      (C8.pss_cut (ps_if (pt_cmpR op_gt (pe_ix ix_list (pv 0) pe_int (fun _ _ => rfl)) pe_int (nomark _))
        (pss_cons (ps_set (i := 3) scNext.nd rfl (.inl rfl) (pe_op op_mod (pe_callTy call_int1 (by rfl) B.int (by decide +kernel) (pa_cons (pe_ix ix_list (pv 0) pe_int (fun _ _ => rfl)) pa_nil)) (pv 1)))
        (pss_cons (ps_asg (pe_op op_fdivW (pe_ix ix_list (pv 0) pe_int (fun _ _ => rfl)) (pv 1)) (pg_sub (pv 0) pe_int set_list))
        (pss_one (ps_ret (pv 3)))))
        pss_nil)
      (pss_cons (ps_asg (pe_op op_mod (pe_callTy call_int1 (by rfl) B.int (by decide +kernel) (pa_cons (pe_op op_add (pe_op op_mul (pe_ix ix_list (pv 0) pe_int (fun _ _ => rfl)) pe_int) pe_int) pa_nil)) pe_int) (pg_sub (pv 0) pe_int set_list))
      (pss_one (ps_ret (pe_op op_mod (pe_callTy call_int1 (by rfl) B.int (by decide +kernel) (pa_cons (pe_op op_fdiv (pe_ix ix_list (pv 0) pe_int (fun _ _ => rfl)) pe_int) pa_nil)) (pv 1)))))), ?_⟩
    obtain ⟨ns, i, a, b, e, eL, a0, b0⟩ := g
    have nL : L ≠ st := fun z => by
      subst z
      rw [e] at eL
      exact ref_ne_ints (Option.some.inj eL)
    have put : ∀ {H1 : Hp} (i' : Nat) (a' b' : Int), Kp st H H1 → 0 ≤ a' → 0 ≤ b' → Dr st L H (upd H1 st (.lst [.ref L, .int i', .int a', .int b'])) := fun i' a' b' k ha hb =>
      ⟨k.trans Kp.st, ns, i', a', b', upd_same, by
        rw [upd_ne nL]
        exact k L _ nL eL, ha, hb⟩
    refine ⟨fun σ' H' => ∃ x2 x3 i' a' b', σ' = [some (.ref st), some (.int lim), x2, x3] ∧ Kp st H H' ∧ H' st = some (.lst [.ref L, .int ((i' : Nat) : Int), .int a', .int b']) ∧ 0 ≤ a' ∧ 0 ≤ b', ?_, ?_⟩
    · -- the first if
      refine ⟨.ref st, rfl, st, _, 2, .int a, rfl, rfl, SqL.of e, rfl, rfl, _, rfl, ite2 (fun z => ?_) (fun z => ?_)⟩
      · refine ⟨.ref st, rfl, st, _, 1, .int (i : Nat), rfl, rfl, SqL.of e, rfl, .ref st, rfl, st, _, 0, .ref L, rfl, rfl, SqL.of e, rfl, L, _, rfl, .inl (SqL.of eL), _, _, rfl, rfl, _, rfl, ite2 (fun hi => ?_) (fun hi => ?_)⟩
        · have hlt : i < ns.length := by
            have t := of_decide_eq_true hi
            rw [List.length_map] at t
            omega
          have gc : (ns.map V.int)[i]? = some (.int ns[i]) := by
            rw [List.getElem?_map, List.getElem?_eq_getElem hlt]
            rfl
          refine ⟨.ref st, rfl, st, _, 0, .ref L, rfl, rfl, SqL.of e, rfl, .ref st, rfl, st, _, 1, .int (i : Nat), rfl, rfl, SqL.of e, rfl, L, _, (i : Nat), .int ns[i], rfl, rfl, SqL.of eL, atI_nat gc, ?_⟩
          refine ⟨.ref st, rfl, st, _, 1, .int (i : Nat), rfl, rfl, e, rfl, _, _, rfl, rfl, st, _, 1, 1, rfl, rfl, e, rfl, ?_⟩
          have e1 : upd H st (.lst (([.ref L, .int (i : Nat), .int a, .int b] : List V).set 1 (.int ((i : Nat) + 1)))) st = some (.lst [.ref L, .int ((i + 1 : Nat) : Int), .int a, .int b]) := upd_same
          have k1 : Kp st H (upd H st (.lst (([.ref L, .int (i : Nat), .int a, .int b] : List V).set 1 (.int ((i : Nat) + 1))))) := Kp.st
          refine ⟨.int ns[i], rfl, 10, 18, rfl, rfl, ⟨by decide, by decide, by decide⟩, _, _, rfl, rfl, _, rfl, ite2 (fun hb => ?_) (fun hb => ?_)⟩
          · have hb2 : (10 : Int) ^ 18 ≤ ns[i] := of_decide_eq_true hb
            refine ⟨.int ns[i], rfl, .ref st, rfl, st, _, 2, 2, rfl, rfl, e1, rfl, ?_⟩
            exact ⟨some (.int ns[i]), none, i + 1, ns[i], b, rfl, k1.trans Kp.st, upd_same, by omega, b0⟩
          · refine ⟨.ref st, rfl, st, _, 3, .int b, rfl, rfl, SqL.of e1, rfl, b, 48271, rfl, rfl, .inr ⟨by decide, by decide⟩, .int ns[i], rfl, .inl ⟨_, rfl, _, _, rfl, rfl, pM, _, _, rfl, rfl, _, _, rfl, rfl, .inl ⟨_, rfl, _, _, rfl, rfl, pM, ?_⟩⟩⟩
            refine ⟨.ref st, rfl, st, _, 3, 3, rfl, rfl, e1, rfl, ?_⟩
            exact ⟨some (.int ns[i]), none, i + 1, a, _, rfl, k1.trans Kp.st, upd_same, a0, Int.emod_nonneg _ (by decide)⟩
        · exact ⟨none, none, i, a, b, rfl, Kp.refl st H, e, a0, b0⟩
      · exact iteF ⟨none, none, i, a, b, rfl, Kp.refl st H, e, a0, b0⟩
    · intro σ' H' hm
      obtain ⟨x2, x3, i', a', b', rfl, k', e', a0', b0'⟩ := hm
      refine ⟨fun σ2 H2 => ∃ x2 x3, σ2 = [some (.ref st), some (.int lim), x2, x3] ∧ H2 = H', ?_, ?_⟩
      · refine ⟨.ref st, rfl, st, _, 2, .int a', rfl, rfl, SqL.of e', rfl, _, _, rfl, rfl, _, rfl, ite2 (fun z => ?_) (fun z => ?_)⟩
        · have z2 : (0 : Int) < a' := of_decide_eq_true z
          refine ⟨.ref st, rfl, st, _, 2, .int a', rfl, rfl, SqL.of e', rfl, .inl ⟨_, rfl, .int lim, rfl, _, _, rfl, rfl, l0, ?_⟩⟩
          refine ⟨.ref st, rfl, st, _, 2, .int a', rfl, rfl, SqL.of e', rfl, .int lim, rfl, _, _, rfl, rfl, wide_div (b := 200) l0 (by omega) (by decide) (by decide), .ref st, rfl, st, _, 2, 2, rfl, rfl, e', rfl, ?_⟩
          refine ⟨.int (a' % lim), rfl, ?_⟩
          exact q _ _ (put i' (a' / lim) b' k' (Int.ediv_nonneg a0' (Int.le_of_lt l0)) b0') (Int.emod_nonneg _ (by omega)) (Int.emod_lt_of_pos _ l0)
        · exact ⟨x2, x3, rfl, rfl⟩
      · intro σ2 H2 hm2
        obtain ⟨y2, y3, rfl, rfl⟩ := hm2
        refine ⟨.ref st, rfl, st, _, 3, .int b', rfl, rfl, SqL.of e', rfl, _, _, rfl, rfl, .inr ⟨by decide, by decide⟩, _, _, rfl, rfl, .inl ⟨_, rfl, _, _, rfl, rfl, pM, ?_⟩⟩
        refine ⟨.ref st, rfl, st, _, 3, 3, rfl, rfl, e', rfl, ?_⟩
        refine ⟨.ref st, rfl, st, _, 3, .int ((b' * 69621 + 12345) % 2147483647), rfl, rfl, SqL.of upd_same, rfl, _, _, rfl, rfl, ⟨by decide, by decide⟩, .inl ⟨_, rfl, .int lim, rfl, _, _, rfl, rfl, l0, ?_⟩⟩
        exact q _ _ (put i' a' _ k' a0' (Int.emod_nonneg _ (by decide))) (Int.emod_nonneg _ (by omega)) (Int.emod_lt_of_pos _ l0)
abbrev dNext (P : Program) (w : World) (K : PySem.W.Frag) (mg : Str → Option Value) (base : Heap) : Prop := Def P w K mg base "_law_next" 1 ["state", "limit"] spNext

abbrev sSM : Stmt := topS 20
abbrev nSM : List Str := ["actual", "expected", "k"]
theorem scSM : FnScope nSM ["actual", "expected"] (defScope sSM) := ⟨rfl, rfl, rfl, by decide +kernel, rfl, by decide +kernel, by decide +kernel⟩
/-- _law_same of the same data -/
def spSQ (n : Nat) : Sp := fun vs H Q _ => ∃ (v u : V) (d : PyData), vs = [v, u] ∧ Dl H v d ∧ Dl H u d ∧ okD d ∧ d.depth ≤ n ∧ Q (.bl true) H
theorem isi_no {x : V} {t : Value} {T : String} {H : Hp} {Q : VK} (h : TyX K H x t) (e : PySem.W.kitOne K t (.type T) = some false) (q : Q (.bl false) H) : rIsi K [x, .ty T] H Q := ⟨x, .ty T, t, .type T, false, rfl, .ty T, h, e, q⟩
theorem isi_yes {x : V} {t : Value} {T : String} {H : Hp} {Q : VK} (h : TyX K H x t) (e : PySem.W.kitOne K t (.type T) = some true) (q : Q (.bl true) H) : rIsi K [x, .ty T] H Q := ⟨x, .ty T, t, .type T, true, rfl, .ty T, h, e, q⟩
theorem ok_sq {f : Addr} {fd : FuncData} (F : Fun K "_law_same" "_law_same" sSM f fd) (B : Bt mg) (n : Nat) (DS : n = 0 ∨ ∃ m, n = m + 1 ∧ Def P w K mg base "_law_same" (m + 1) ["actual", "expected"] (spSQ m)) :
    FnOk P w K mg base CX0 (n + 1) f fd ["actual", "expected"] (spSQ n) := by
  refine F.ok scSM (fun vs H Q E h => ?_) (fun cdv A outer s H vs Q E hr h => ?_)
  · obtain ⟨v, u, _, rfl, _⟩ := h
    rfl
  · obtain ⟨v, u, d, rfl, tv, tu, nd, dn, q⟩ := h
    cases tu with
    | non =>
      cases tv
      refine ⟨_, pss_cons (ps_if (pt_cmpR op_isN (pv 1) pe_non (nomark _)) (pss_one (ps_ret (pe_cmpR op_isN (pv 0) pe_non (nomark _)))) pss_nil) pss_never, ?_⟩
      refine ⟨.non, rfl, rfl, _, rfl, iteT' rfl ⟨.non, rfl, rfl, ?_⟩⟩
      rw [decide_eq_true rfl]
      exact q
    | bl b =>
      refine ⟨_, pss_cons (ps_if (pt_cmpR op_isN (pv 1) pe_non (nomark _)) pss_never pss_nil)
        (pss_cons (ps_if (pt_val (pe_callB call_isi (by rfl) B.isi (by decide +kernel) (pa_cons (pv 1) (pa_cons (pe_bltn (v := .ty "bool") (u := .type "bool") (by rfl) B.bool (by decide +kernel) rfl) pa_nil))))
          (pss_one (ps_ret (pe_and (pe_callB call_isi (by rfl) B.isi (by decide +kernel) (pa_cons (pv 0) (pa_cons (pe_bltn (v := .ty "bool") (u := .type "bool") (by rfl) B.bool (by decide +kernel) rfl) pa_nil))) (pe_one (pe_cmpR op_eq (pv 0) (pv 1) (nomark _)))))) pss_nil)
        pss_never), ?_⟩
      refine ⟨.bl b, rfl, rfl, _, rfl, iteF' (decide_eq_false (fun z => nomatch z)) ?_⟩
      refine ⟨.bl b, rfl, .bl b, .ty "bool", _, _, true, rfl, .ty "bool", .base (.bl b), kit_ty (by decide +kernel), true, rfl, iteT ?_⟩
      cases tv
      refine ⟨.bl b, rfl, .bl b, .ty "bool", _, _, true, rfl, .ty "bool", .base (.bl b), kit_ty (by decide +kernel), true, rfl, iteT ?_⟩
      refine ⟨.bl b, rfl, .bl b, rfl, rfl, ?_⟩
      rw [decide_eq_true rfl]
      exact q
    | int i =>
      refine ⟨_, pss_cons (ps_if (pt_cmpR op_isN (pv 1) pe_non (nomark _)) pss_never pss_nil)
        (pss_cons (ps_if (pt_val (pe_callB call_isi (by rfl) B.isi (by decide +kernel) (pa_cons (pv 1) (pa_cons (pe_bltn (v := .ty "bool") (u := .type "bool") (by rfl) B.bool (by decide +kernel) rfl) pa_nil)))) pss_never pss_nil)
        (pss_cons (ps_if (pt_val (pe_callB call_isi (by rfl) B.isi (by decide +kernel) (pa_cons (pv 1) (pa_cons (pe_bltn (v := .ty "int") (u := .type "int") (by rfl) B.int (by decide +kernel) rfl) pa_nil))))
          (pss_one (ps_ret (pe_and (pe_callB call_isi (by rfl) B.isi (by decide +kernel) (pa_cons (pv 0) (pa_cons (pe_bltn (v := .ty "int") (u := .type "int") (by rfl) B.int (by decide +kernel) rfl) pa_nil))) (pe_and (pe_not (pe_callB call_isi (by rfl) B.isi (by decide +kernel) (pa_cons (pv 0) (pa_cons (pe_bltn (v := .ty "bool") (u := .type "bool") (by rfl) B.bool (by decide +kernel) rfl) pa_nil)))) (pe_one (pe_cmpR op_eq (pv 0) (pv 1) (nomark _))))))) pss_nil)
        pss_never)), ?_⟩
      refine ⟨.int i, rfl, rfl, _, rfl, iteF' (decide_eq_false (fun z => nomatch z)) ?_⟩
      refine ⟨.int i, rfl, .int i, .ty "bool", _, _, false, rfl, .ty "bool", .base (.int i), kit_ty (by decide +kernel), false, rfl, iteF ?_⟩
      refine ⟨.int i, rfl, .int i, .ty "int", _, _, true, rfl, .ty "int", .base (.int i), kit_ty (by decide +kernel), true, rfl, iteT ?_⟩
      cases tv
      refine ⟨.int i, rfl, .int i, .ty "int", _, _, true, rfl, .ty "int", .base (.int i), kit_ty (by decide +kernel), true, rfl, iteT ?_⟩
      refine ⟨.int i, rfl, .int i, .ty "bool", _, _, false, rfl, .ty "bool", .base (.int i), kit_ty (by decide +kernel), false, rfl, true, rfl, iteT ?_⟩
      refine ⟨.int i, rfl, .int i, rfl, rfl, ?_⟩
      rw [decide_eq_true rfl]
      exact q
    | str z =>
      refine ⟨_, pss_cons (ps_if (pt_cmpR op_isN (pv 1) pe_non (nomark _)) pss_never pss_nil)
        (pss_cons (ps_if (pt_val (pe_callB call_isi (by rfl) B.isi (by decide +kernel) (pa_cons (pv 1) (pa_cons (pe_bltn (v := .ty "bool") (u := .type "bool") (by rfl) B.bool (by decide +kernel) rfl) pa_nil)))) pss_never pss_nil)
        (pss_cons (ps_if (pt_val (pe_callB call_isi (by rfl) B.isi (by decide +kernel) (pa_cons (pv 1) (pa_cons (pe_bltn (v := .ty "int") (u := .type "int") (by rfl) B.int (by decide +kernel) rfl) pa_nil)))) pss_never pss_nil)
        (pss_cons (ps_if (pt_val (pe_callB call_isi (by rfl) B.isi (by decide +kernel) (pa_cons (pv 1) (pa_cons (pe_bltn (v := .ty "str") (u := .type "str") (by rfl) B.str (by decide +kernel) rfl) pa_nil))))
          (pss_one (ps_ret (pe_and (pe_callB call_isi (by rfl) B.isi (by decide +kernel) (pa_cons (pv 0) (pa_cons (pe_bltn (v := .ty "str") (u := .type "str") (by rfl) B.str (by decide +kernel) rfl) pa_nil))) (pe_one (pe_cmpR op_eq (pv 0) (pv 1) (nomark _)))))) pss_nil)
        pss_never))), ?_⟩
      refine ⟨.str z, rfl, rfl, _, rfl, iteF' (decide_eq_false (fun z => nomatch z)) ?_⟩
      refine ⟨.str z, rfl, .str z, .ty "bool", _, _, false, rfl, .ty "bool", .base (.str z), kit_ty (by decide +kernel), false, rfl, iteF ?_⟩
      refine ⟨.str z, rfl, .str z, .ty "int", _, _, false, rfl, .ty "int", .base (.str z), kit_ty (by decide +kernel), false, rfl, iteF ?_⟩
      refine ⟨.str z, rfl, .str z, .ty "str", _, _, true, rfl, .ty "str", .base (.str z), kit_ty (by decide +kernel), true, rfl, iteT ?_⟩
      cases tv
      refine ⟨.str z, rfl, .str z, .ty "str", _, _, true, rfl, .ty "str", .base (.str z), kit_ty (by decide +kernel), true, rfl, iteT ?_⟩
      refine ⟨.str z, rfl, .str z, rfl, rfl, ?_⟩
      rw [decide_eq_true rfl]
      exact q
    | @tup b ys es e2 r2 =>
      rcases DS with rfl | ⟨m, rfl, DS⟩
      · exact absurd dn (by
          show ¬ PyData.depthAll es + 1 ≤ 0
          omega)
      have ly := r2.length
      rw [okD] at nd
      have dm : PyData.depthAll es ≤ m := by
        have t : PyData.depthAll es + 1 ≤ m + 1 := dn
        omega
      refine ⟨_, pss_cons (ps_if (pt_cmpR op_isN (pv 1) pe_non (nomark _)) pss_never pss_nil)
        (pss_cons (ps_if (pt_val (pe_callB call_isi (by rfl) B.isi (by decide +kernel) (pa_cons (pv 1) (pa_cons (pe_bltn (v := .ty "bool") (u := .type "bool") (by rfl) B.bool (by decide +kernel) rfl) pa_nil)))) pss_never pss_nil)
        (pss_cons (ps_if (pt_val (pe_callB call_isi (by rfl) B.isi (by decide +kernel) (pa_cons (pv 1) (pa_cons (pe_bltn (v := .ty "int") (u := .type "int") (by rfl) B.int (by decide +kernel) rfl) pa_nil)))) pss_never pss_nil)
        (pss_cons (ps_if (pt_val (pe_callB call_isi (by rfl) B.isi (by decide +kernel) (pa_cons (pv 1) (pa_cons (pe_bltn (v := .ty "str") (u := .type "str") (by rfl) B.str (by decide +kernel) rfl) pa_nil)))) pss_never pss_nil)
        (pss_cons (ps_if (PW.pt (pw_and (pt_val (pe_callB call_isi (by rfl) B.isi (by decide +kernel) (pa_cons (pv 1) (pa_cons (pe_bltn (v := .ty "tuple") (u := .type "tuple") (by rfl) B.tup (by decide +kernel) rfl) pa_nil)))) (pw_and1 (pt_not (pt_val (pe_callB call_isi (by rfl) B.isi (by decide +kernel) (pa_cons (pv 0) (pa_cons (pe_bltn (v := .ty "tuple") (u := .type "tuple") (by rfl) B.tup (by decide +kernel) rfl) pa_nil)))))))) (pss_one (ps_ret pe_bl)) pss_nil)
        (pss_cons (ps_if (PW.pt (pw_and (pt_val (pe_callB call_isi (by rfl) B.isi (by decide +kernel) (pa_cons (pv 1) (pa_cons (pe_bltn (v := .ty "list") (u := .type "list") (by rfl) B.lst (by decide +kernel) rfl) pa_nil)))) (pw_and1 (pt_not (pt_val (pe_callB call_isi (by rfl) B.isi (by decide +kernel) (pa_cons (pv 0) (pa_cons (pe_bltn (v := .ty "list") (u := .type "list") (by rfl) B.lst (by decide +kernel) rfl) pa_nil)))))))) pss_never pss_nil)
        (pss_cons (ps_if (pt_cmpR op_ne (pe_callB call_len_seq (by rfl) B.len PySem.boot_len (pa_cons (pv 0) pa_nil)) (pe_callB call_len_seq (by rfl) B.len PySem.boot_len (pa_cons (pv 1) pa_nil)) (nomark _)) (pss_one (ps_ret pe_bl)) pss_nil)
        (pss_cons (ps_for PassesOwn.never rfl (pi_range1 (by rfl) B.rng (pa_cons (pe_callB call_len_seq (by rfl) B.len PySem.boot_len (pa_cons (pv 1) pa_nil)) pa_nil)) (pg_name (i := 2) scSM.nd rfl (.inl rfl))
            (pss_one (ps_if (pt_not (pt_val (pe_def DS hr (by rfl) (pa_cons (pe_ix ix_tup (pv 0) (pv 2) (fun _ _ => rfl)) (pa_cons (pe_ix ix_tup (pv 1) (pv 2) (fun _ _ => rfl)) pa_nil))))) (pss_one (ps_ret pe_bl)) pss_nil)))
        (pss_one (ps_ret pe_bl))))))))), ?_⟩
      refine ⟨.ref b, rfl, rfl, _, rfl, iteF' (decide_eq_false (fun z => nomatch z)) ?_⟩
      refine ⟨.ref b, rfl, .ref b, .ty "bool", _, _, false, rfl, .ty "bool", .base (.tup e2), kit_ty (by decide +kernel), false, rfl, iteF ?_⟩
      refine ⟨.ref b, rfl, .ref b, .ty "int", _, _, false, rfl, .ty "int", .base (.tup e2), kit_ty (by decide +kernel), false, rfl, iteF ?_⟩
      refine ⟨.ref b, rfl, .ref b, .ty "str", _, _, false, rfl, .ty "str", .base (.tup e2), kit_ty (by decide +kernel), false, rfl, iteF ?_⟩
      refine ⟨.ref b, rfl, .ref b, .ty "tuple", _, _, true, rfl, .ty "tuple", .base (.tup e2), kit_ty (by decide +kernel), true, rfl, iteT ?_⟩
      cases tv with
      | @tup a xs _ e r =>
        have lx := r.length
        refine ⟨.ref a, rfl, .ref a, .ty "tuple", _, _, true, rfl, .ty "tuple", .base (.tup e), kit_ty (by decide +kernel), true, rfl, iteF ?_⟩
        refine ⟨.ref b, rfl, .ref b, .ty "list", _, _, false, rfl, .ty "list", .base (.tup e2), kit_ty (by decide +kernel), false, rfl, iteF (iteF ?_)⟩
        refine ⟨.ref a, rfl, a, xs, rfl, .inr (SqT.of e), .ref b, rfl, b, ys, rfl, .inr (SqT.of e2), rfl, _, rfl, ?_⟩
        rw [lx, ly, decide_eq_true rfl]
        refine iteF ?_
        refine ⟨.ref b, rfl, b, ys, rfl, .inr (SqT.of e2), _, rfl, by omega, by omega, ?_⟩
        rw [ly, Int.toNat_natCast]
        refine for_range (lo := 0) (n := es.length) (fun i σ H' => H' = H ∧ ∃ x2, σ = [some (.ref a), some (.ref b), x2]) ⟨rfl, none, rfl⟩ (fun i σ H' hi hP => ?_) (fun σ H' hP => ?_)
        · obtain ⟨rfl, x2, rfl⟩ := hP
          have g2 := List.getElem?_eq_getElem hi
          obtain ⟨x, ex, tx⟩ := r.at_ g2
          obtain ⟨y, ey, ty⟩ := r2.at_ g2
          have e0 : (0 : Int) + (i : Int) = ((i : Nat) : Int) := Int.zero_add _
          refine ⟨.ref a, rfl, .int (0 + i), rfl, a, xs, 0 + i, x, rfl, rfl, SqT.of e, at_of e0 ex, .ref b, rfl, .int (0 + i), rfl, b, ys, 0 + i, y, rfl, rfl, SqT.of e2, at_of e0 ey, ?_⟩
          exact ⟨x, y, _, rfl, tx, ty, okDs_mem nd.2 (List.mem_of_getElem? g2), Nat.le_trans (depth_at2 g2) dm, _, rfl, iteF ⟨rfl, _, rfl⟩⟩
        · obtain ⟨rfl, x2, rfl⟩ := hP
          exact q
    | @lst b ys es e2 r2 =>
      rcases DS with rfl | ⟨m, rfl, DS⟩
      · exact absurd dn (by
          show ¬ PyData.depthAll es + 1 ≤ 0
          omega)
      have ly := r2.length
      rw [okD] at nd
      have dm : PyData.depthAll es ≤ m := by
        have t : PyData.depthAll es + 1 ≤ m + 1 := dn
        omega
      refine ⟨_, pss_cons (ps_if (pt_cmpR op_isN (pv 1) pe_non (nomark _)) pss_never pss_nil)
        (pss_cons (ps_if (pt_val (pe_callB call_isi (by rfl) B.isi (by decide +kernel) (pa_cons (pv 1) (pa_cons (pe_bltn (v := .ty "bool") (u := .type "bool") (by rfl) B.bool (by decide +kernel) rfl) pa_nil)))) pss_never pss_nil)
        (pss_cons (ps_if (pt_val (pe_callB call_isi (by rfl) B.isi (by decide +kernel) (pa_cons (pv 1) (pa_cons (pe_bltn (v := .ty "int") (u := .type "int") (by rfl) B.int (by decide +kernel) rfl) pa_nil)))) pss_never pss_nil)
        (pss_cons (ps_if (pt_val (pe_callB call_isi (by rfl) B.isi (by decide +kernel) (pa_cons (pv 1) (pa_cons (pe_bltn (v := .ty "str") (u := .type "str") (by rfl) B.str (by decide +kernel) rfl) pa_nil)))) pss_never pss_nil)
        (pss_cons (ps_if (PW.pt (pw_and (pt_val (pe_callB call_isi (by rfl) B.isi (by decide +kernel) (pa_cons (pv 1) (pa_cons (pe_bltn (v := .ty "tuple") (u := .type "tuple") (by rfl) B.tup (by decide +kernel) rfl) pa_nil)))) (pw_and1 (pt_not (pt_val (pe_callB call_isi (by rfl) B.isi (by decide +kernel) (pa_cons (pv 0) (pa_cons (pe_bltn (v := .ty "tuple") (u := .type "tuple") (by rfl) B.tup (by decide +kernel) rfl) pa_nil)))))))) pss_never pss_nil)
        (pss_cons (ps_if (PW.pt (pw_and (pt_val (pe_callB call_isi (by rfl) B.isi (by decide +kernel) (pa_cons (pv 1) (pa_cons (pe_bltn (v := .ty "list") (u := .type "list") (by rfl) B.lst (by decide +kernel) rfl) pa_nil)))) (pw_and1 (pt_not (pt_val (pe_callB call_isi (by rfl) B.isi (by decide +kernel) (pa_cons (pv 0) (pa_cons (pe_bltn (v := .ty "list") (u := .type "list") (by rfl) B.lst (by decide +kernel) rfl) pa_nil)))))))) pss_never pss_nil)
        (pss_cons (ps_if (pt_cmpR op_ne (pe_callB call_len_seq (by rfl) B.len PySem.boot_len (pa_cons (pv 0) pa_nil)) (pe_callB call_len_seq (by rfl) B.len PySem.boot_len (pa_cons (pv 1) pa_nil)) (nomark _)) (pss_one (ps_ret pe_bl)) pss_nil)
        (pss_cons (ps_for PassesOwn.never rfl (pi_range1 (by rfl) B.rng (pa_cons (pe_callB call_len_seq (by rfl) B.len PySem.boot_len (pa_cons (pv 1) pa_nil)) pa_nil)) (pg_name (i := 2) scSM.nd rfl (.inl rfl))
            (pss_one (ps_if (pt_not (pt_val (pe_def DS hr (by rfl) (pa_cons (pe_ix ix_list (pv 0) (pv 2) (fun _ _ => rfl)) (pa_cons (pe_ix ix_list (pv 1) (pv 2) (fun _ _ => rfl)) pa_nil))))) (pss_one (ps_ret pe_bl)) pss_nil)))
        (pss_one (ps_ret pe_bl))))))))), ?_⟩
      refine ⟨.ref b, rfl, rfl, _, rfl, iteF' (decide_eq_false (fun z => nomatch z)) ?_⟩
      refine ⟨.ref b, rfl, .ref b, .ty "bool", _, _, false, rfl, .ty "bool", .base (.lst e2), kit_ty (by decide +kernel), false, rfl, iteF ?_⟩
      refine ⟨.ref b, rfl, .ref b, .ty "int", _, _, false, rfl, .ty "int", .base (.lst e2), kit_ty (by decide +kernel), false, rfl, iteF ?_⟩
      refine ⟨.ref b, rfl, .ref b, .ty "str", _, _, false, rfl, .ty "str", .base (.lst e2), kit_ty (by decide +kernel), false, rfl, iteF ?_⟩
      refine ⟨.ref b, rfl, .ref b, .ty "tuple", _, _, false, rfl, .ty "tuple", .base (.lst e2), kit_ty (by decide +kernel), false, rfl, iteF (iteF ?_)⟩
      cases tv with
      | @lst a xs _ e r =>
        have lx := r.length
        refine ⟨.ref b, rfl, .ref b, .ty "list", _, _, true, rfl, .ty "list", .base (.lst e2), kit_ty (by decide +kernel), true, rfl, iteT ?_⟩
        refine ⟨.ref a, rfl, .ref a, .ty "list", _, _, true, rfl, .ty "list", .base (.lst e), kit_ty (by decide +kernel), true, rfl, iteF ?_⟩
        refine ⟨.ref a, rfl, a, xs, rfl, .inl (SqL.of e), .ref b, rfl, b, ys, rfl, .inl (SqL.of e2), rfl, _, rfl, ?_⟩
        rw [lx, ly, decide_eq_true rfl]
        refine iteF ?_
        refine ⟨.ref b, rfl, b, ys, rfl, .inl (SqL.of e2), _, rfl, by omega, by omega, ?_⟩
        rw [ly, Int.toNat_natCast]
        refine for_range (lo := 0) (n := es.length) (fun i σ H' => H' = H ∧ ∃ x2, σ = [some (.ref a), some (.ref b), x2]) ⟨rfl, none, rfl⟩ (fun i σ H' hi hP => ?_) (fun σ H' hP => ?_)
        · obtain ⟨rfl, x2, rfl⟩ := hP
          have g2 := List.getElem?_eq_getElem hi
          obtain ⟨x, ex, tx⟩ := r.at_ g2
          obtain ⟨y, ey, ty⟩ := r2.at_ g2
          have e0 : (0 : Int) + (i : Int) = ((i : Nat) : Int) := Int.zero_add _
          refine ⟨.ref a, rfl, .int (0 + i), rfl, a, xs, 0 + i, x, rfl, rfl, SqL.of e, at_of e0 ex, .ref b, rfl, .int (0 + i), rfl, b, ys, 0 + i, y, rfl, rfl, SqL.of e2, at_of e0 ey, ?_⟩
          exact ⟨x, y, _, rfl, tx, ty, okDs_mem nd.2 (List.mem_of_getElem? g2), Nat.le_trans (depth_at2 g2) dm, _, rfl, iteF ⟨rfl, _, rfl⟩⟩
        · obtain ⟨rfl, x2, rfl⟩ := hP
          exact q
abbrev dSQ (P : Program) (w : World) (K : PySem.W.Frag) (mg : Str → Option Value) (base : Heap) : Prop := Def P w K mg base "_law_same" 5 ["actual", "expected"] (spSQ 4)
end
end LK

namespace LK
open PySem PySem.Spec PyProof.Rows L2 KA BK
/-- the module's constants -/
structure Ct (K : PySem.W.Frag) (mg : Str → Option Value) : Prop where
  tb : ∃ t, mg "TURN_BYTES" = some (.int 6 t)
  cb : ∃ t, mg "COUNT_BYTES" = some (.int 4 t)
  pb : ∃ t, mg "PIECE_BYTES" = some (.int 54 t)
  sb : ∃ t, mg "SECTOR_BYTES" = some (.int 64 t)
  hs : ∃ t, mg "HEADS" = some (.int 2 t)
  hm : ∃ a, mg "HEAD_MARK" = some (.ref a) ∧ ∀ H, SqT K H a (([82, 85, 76, 69] : List Int).map V.int)
theorem pow256 (k : Nat) : (2 : Int) ^ (8 * k) = 256 ^ k := by
  rw [Int.pow_mul]
  rfl
theorem fx_step (n : Int) (j i : Nat) : fx (n / 256 ^ (j + 1)) i ++ [n / 256 ^ j % 256] = fx (n / 256 ^ j) (i + 1) := by
  rw [fx, Int.pow_succ, ← Int.ediv_ediv_of_nonneg (Int.le_of_lt (Int.pow_pos (by decide)))]
section
variable {P : Program} {w : World} {K : PySem.W.Frag} {mg : Str → Option Value} {base : Heap}
theorem small6 {n : Nat} (h : n ≤ 1000000) : n ≤ sizeLine := by rw [sizeLine_eq]; omega
theorem small7 {n : Nat} (h : n ≤ 1000000) : n < sizeLine := by rw [sizeLine_eq]; omega
abbrev sFX : Stmt := topS 7
abbrev nFX : List Str := ["number", "many", "at"]
theorem scFX : FnScope nFX ["number", "many"] (defScope sFX) := ⟨rfl, rfl, rfl, by decide +kernel, rfl, by decide +kernel, by decide +kernel⟩
def spFX : Sp := fun vs H Q _ => ∃ (n : Int) (k : Nat), vs = [.int n, .int k] ∧ 0 ≤ n ∧ k ≤ 64 ∧ ∀ p H', Same H H' → H p = none → H' p = some (.lst ((fx n k).map V.int)) → Q (.ref p) H'
theorem ok_fx {f : Addr} {fd : FuncData} (F : Fun K "fixed" "fixed" sFX f fd) (B : Bt mg) : FnOk P w K mg base CX0 1 f fd ["number", "many"] spFX := by
  refine F.ok scFX (fun vs H Q E h => ?_) (fun cdv A outer s H vs Q E hr h => ?_)
  · obtain ⟨n, k, rfl, _⟩ := h
    rfl
  · obtain ⟨n, k, rfl, n0, k1, q⟩ := h
    refine ⟨_, (pss_one (ps_ret (pe_lc (own := [("at", 2)]) (g := (gName 2)) (tt := tYes) (te := (tOp _ (tOp _ (tVar 0) (tOp _ (tC (.int 8)) (tVar 2))) (tC (.int 255)))) rfl scFX.nd (pi_revR (by rfl) B.rev (prg_1 (by rfl) B.rng (pv 1))) (blkOk_by (own := [("at", 2)]) (N := nFX) (sc := defScope sFX) (by decide +kernel)) (fun _ _ _ _ _ => (pg_name (i := 2) scFX.nd rfl (Or.inl rfl))) (fun _ _ _ _ _ => pts_nil) (fun _ _ _ _ _ => (pe_op op_and (pe_op op_shr (pv 0) (pe_op op_mul pe_int (pv 2))) pe_int))))), ?_⟩
    refine ⟨.int (k : Nat), rfl, (k : Int), rfl, by decide, by decide, by omega, by omega, fun D nD => ?_⟩
    have ek : ((k : Int) - 0).toNat = k := by omega
    refine lc_it (n := ((k : Int) - 0).toNat) walk_rangeC (fun i H' => Same H H' ∧ H' D = some (.lst ((fx (n / 256 ^ (k - i)) i).map V.int))) ⟨same_new nD, upd_same⟩ (fun _ _ _ _ => trivial) (fun i x H1 H2 hi hP hy => ?_) (fun H' hP => ?_)
    · obtain ⟨sm, eD⟩ := hP
      obtain ⟨rfl, rfl⟩ := hy
      rw [ek] at hi
      obtain ⟨j, hj⟩ : ∃ j, k = i + 1 + j := ⟨k - (i + 1), by omega⟩
      have ex : (0 : Int) + ((((k : Int) - 0).toNat : Nat) : Int) - 1 + ((i : Nat) : Int) * (-1) = (j : Nat) := by rw [ek]; omega
      refine ⟨rfl, ?_⟩
      refine iteT (B := True) ?_
      refine ⟨.int n, rfl, .int _, rfl, 8, _, rfl, rfl, .inl ⟨by decide, by decide⟩, n, _, rfl, rfl, by rw [ex]; omega, _, 255, rfl, rfl, ?_⟩
      rw [ex]
      have e8 : ((8 : Int) * ((j : Nat) : Int)).toNat = 8 * j := by omega
      have nn : 0 ≤ n / 256 ^ j := Int.ediv_nonneg n0 (Int.le_of_lt (Int.pow_pos (by decide)))
      have eb : Builtin.bitAnd (n / 256 ^ j) 255 = n / 256 ^ j % 256 := Bits.bitAnd_mask 8 nn
      rw [e8, pow256]
      refine ⟨_, eD, small7 (by rw [List.length_map, fx_len]; omega), same_put sm nD, ?_⟩
      have e1 : k - i = j + 1 := by omega
      have e2 : k - (i + 1) = j := by omega
      show upd H2 D (HO.lst (_ ++ [V.int (Builtin.bitAnd (n / 256 ^ j) 255)])) D = _
      rw [eb, e1, e2, ← fx_step, List.map_append]
      exact upd_same
    · obtain ⟨sm, eD⟩ := hP
      rw [ek, Nat.sub_self, Int.pow_zero, Int.ediv_one] at eD
      exact q D H' sm nD eD
abbrev sNO : Stmt := topS 8
abbrev nNO : List Str := ["data", "number", "byte"]
theorem scNO : FnScope nNO ["data"] (defScope sNO) := ⟨rfl, rfl, rfl, by decide +kernel, rfl, by decide +kernel, by decide +kernel⟩
def spNO : Sp := fun vs H Q _ => ∃ (a : Addr) (ns : List Int), vs = [.ref a] ∧ H a = some (.lst (ns.map V.int)) ∧ Q (.int (num ns)) H
theorem ok_no {f : Addr} {fd : FuncData} (F : Fun K "number_of" "number_of" sNO f fd) : FnOk P w K mg base CX0 1 f fd ["data"] spNO := by
  refine F.ok scNO (fun vs H Q E h => ?_) (fun cdv A outer s H vs Q E hr h => ?_)
  · obtain ⟨a, ns, rfl, _⟩ := h
    rfl
  · obtain ⟨a, ns, rfl, ea, q⟩ := h
    refine ⟨_, (pss_cons (ps_set (i := 1) scNO.nd rfl (.inl rfl) pe_int)
      (pss_cons (ps_for PassesOwn.never rfl (pi_list (pv 0)) (pg_name (i := 2) scNO.nd rfl (Or.inl rfl))
        (pss_one (ps_set (i := 1) scNO.nd rfl (.inl rfl) (pe_op op_add (pe_op op_mul (pv 1) pe_int) (pv 2)))))
      (pss_one (ps_ret (pv 1))))), ?_⟩
    refine ⟨.ref a, rfl, a, rfl, ⟨_, SqL.of ea⟩, ?_⟩
    refine for_list (K := K) (a := a) (xs := ns.map V.int) (fun i σ H' => H' = H ∧ ∃ x2, σ = [some (.ref a), some (.int (num (ns.take i))), x2]) ⟨rfl, none, rfl⟩ (fun i σ H' _ hP => by rw [hP.1]; exact SqL.of ea) (fun i x σ H' hx hP => ?_) (fun σ H' hP => ?_)
    · obtain ⟨rfl, x2, rfl⟩ := hP
      rw [List.getElem?_map] at hx
      obtain ⟨m, em, rfl⟩ := Option.map_eq_some_iff.mp hx
      refine ⟨.int (num (ns.take i)), rfl, _, 256, rfl, rfl, .inr ⟨by decide, by decide⟩, .int m, rfl, _, _, rfl, rfl, ?_⟩
      refine ⟨rfl, some (.int m), ?_⟩
      rw [List.take_add_one, em]
      show _ = [some (V.ref a), some (V.int (num (ns.take i ++ [m]))), some (.int m)]
      rw [num_snoc]
      rfl
    · obtain ⟨rfl, x2, rfl⟩ := hP
      rw [List.length_map, List.take_length]
      exact ⟨_, rfl, q⟩
abbrev sPD : Stmt := topS 9
abbrev nPD : List Str := ["data", "many"]
theorem scPD : FnScope nPD ["data", "many"] (defScope sPD) := ⟨rfl, rfl, rfl, by decide +kernel, rfl, by decide +kernel, by decide +kernel⟩
def spPD : Sp := fun vs H Q _ => ∃ (a : Addr) (ns : List Int) (m : Nat), vs = [.ref a, .int m] ∧ H a = some (.lst (ns.map V.int)) ∧ ns.length ≤ 100000 ∧ m ≤ 100000 ∧ ∀ p H', Same H H' → H p = none → H' p = some (.lst ((padT ns m).map V.int)) → Q (.ref p) H'
theorem rep_one (k : Nat) (x : V) : (List.replicate k [x]).flatten = List.replicate k x := by
  induction k with
  | zero => rfl
  | succ k ih => rw [List.replicate_succ, List.flatten_cons, ih, List.replicate_succ]; rfl
theorem zeros_map (k : Nat) : (zeros k).map V.int = List.replicate k (V.int 0) := List.map_replicate
theorem ok_pd {f : Addr} {fd : FuncData} (F : Fun K "padded" "padded" sPD f fd) (B : Bt mg) : FnOk P w K mg base CX0 1 f fd ["data", "many"] spPD := by
  refine F.ok scPD (fun vs H Q E h => ?_) (fun cdv A outer s H vs Q E hr h => ?_)
  · obtain ⟨a, ns, m, rfl, _⟩ := h
    rfl
  · obtain ⟨a, ns, m, rfl, ea, l1, l2, q⟩ := h
    refine ⟨_, (pss_one (ps_ret (pe_op op_cat (pv 0) (pe_op op_rep (pe_lst (pa_cons pe_int pa_nil)) (pe_op op_sub (pv 1) (pe_callB call_len_seq (by rfl) B.len PySem.boot_len (pa_cons (pv 0) pa_nil))))))), ?_⟩
    refine ⟨.ref a, rfl, (by show 1 ≤ sizeLine; exact small6 (by decide)), fun p np => ?_⟩
    have s1 := same_new (o := .lst [.int 0]) np
    refine ⟨.int m, rfl, .ref a, rfl, a, _, rfl, .inl (SqL.of (s1 _ _ ea)), _, _, rfl, rfl, ?_⟩
    have lm : (ns.map V.int).length = ns.length := List.length_map ..
    refine ⟨p, _, _, rfl, rfl, upd_same, by rw [lm]; omega, by rw [lm]; omega, small6 (by rw [List.length_map]; show 1 * _ ≤ _; omega), fun p2 np2 => ?_⟩
    generalize hG : upd _ p2 _ = H2
    obtain ⟨s2, e2⟩ := gen_up hG np2
    have ez : ((m : Int) - ((ns.map V.int).length : Nat)).toNat = m - ns.length := by omega
    rw [rep_one, ez] at e2
    clear hG
    have s3 := s1.trans s2
    refine ⟨a, p2, _, _, rfl, rfl, s3 _ _ ea, e2, small6 (by rw [lm, List.length_replicate]; omega), fun p3 np3 => ?_⟩
    refine q p3 _ (s3.trans (same_new np3)) (s3.free np3) ?_
    unfold padT
    rw [List.map_append, zeros_map]
    exact upd_same
end
end LK

namespace LK
open PySem PySem.Spec PyProof.Rows L2 KA BK
section
variable {P : Program} {w : World} {K : PySem.W.Frag} {mg : Str → Option Value} {base : Heap}
abbrev dFX (P : Program) (w : World) (K : PySem.W.Frag) (mg : Str → Option Value) (base : Heap) : Prop := Def P w K mg base "fixed" 1 ["number", "many"] spFX
abbrev dNO (P : Program) (w : World) (K : PySem.W.Frag) (mg : Str → Option Value) (base : Heap) : Prop := Def P w K mg base "number_of" 1 ["data"] spNO
abbrev dPD (P : Program) (w : World) (K : PySem.W.Frag) (mg : Str → Option Value) (base : Heap) : Prop := Def P w K mg base "padded" 1 ["data", "many"] spPD
theorem cut_ints_to (ns : List Int) (k : Nat) : cutV (ns.map V.int) none (some (k : Int)) = (ns.take k).map V.int := by rw [cut_to, map_take]
theorem cut_ints_from (ns : List Int) (k : Nat) : cutV (ns.map V.int) (some (k : Int)) none = (ns.drop k).map V.int := by rw [cut_from, map_drop]
theorem cut_ints_mid (ns : List Int) (i j : Nat) : cutV (ns.map V.int) (some (i : Int)) (some ((i + j : Nat) : Int)) = ((ns.drop i).take j).map V.int := by rw [cut_mid, map_drop, map_take]
abbrev sTO : Stmt := topS 10
abbrev nTO : List Str := ["sector"]
theorem scTO : FnScope nTO ["sector"] (defScope sTO) := ⟨rfl, rfl, rfl, by decide +kernel, rfl, by decide +kernel, by decide +kernel⟩
def spTO : Sp := fun vs H Q _ => ∃ (a : Addr) (ns : List Int), vs = [.ref a] ∧ H a = some (.lst (ns.map V.int)) ∧ ∀ H', Same H H' → Q (.int (num (ns.take 6))) H'
theorem ok_to {f : Addr} {fd : FuncData} (F : Fun K "turn_of" "turn_of" sTO f fd) (B : Bt mg) (T : Ct K mg) (DNO : dNO P w K mg base) : FnOk P w K mg base CX0 2 f fd ["sector"] spTO := by
  refine F.ok scTO (fun vs H Q E h => ?_) (fun cdv A outer s H vs Q E hr h => ?_)
  · obtain ⟨a, ns, rfl, _⟩ := h
    rfl
  · obtain ⟨a, ns, rfl, ea, q⟩ := h
    refine ⟨_, (pss_one (ps_ret (pe_def DNO (hr.mono (by decide)) (by rfl) (pa_cons (pe_slice sl_list (pv 0) po_none (po_some (pe_con (by rfl) T.tb))) pa_nil)))), ?_⟩
    refine ⟨.ref a, rfl, 6, rfl, a, _, rfl, SqL.of ea, fun p np => ?_⟩
    have e := cut_ints_to ns 6
    generalize hG : upd _ p _ = H1
    obtain ⟨s1, e1⟩ := gen_up hG np
    rw [show cutV (ns.map V.int) none (some 6) = (ns.take 6).map V.int from e] at e1
    exact ⟨p, _, rfl, e1, q _ s1⟩
abbrev sCO : Stmt := topS 11
abbrev nCO : List Str := ["sector"]
theorem scCO : FnScope nCO ["sector"] (defScope sCO) := ⟨rfl, rfl, rfl, by decide +kernel, rfl, by decide +kernel, by decide +kernel⟩
def spCO : Sp := fun vs H Q _ => ∃ (a : Addr) (ns : List Int), vs = [.ref a] ∧ H a = some (.lst (ns.map V.int)) ∧ ∀ H', Same H H' → Q (.int (num ((ns.drop 6).take 4))) H'
theorem ok_co {f : Addr} {fd : FuncData} (F : Fun K "count_of" "count_of" sCO f fd) (B : Bt mg) (T : Ct K mg) (DNO : dNO P w K mg base) : FnOk P w K mg base CX0 2 f fd ["sector"] spCO := by
  refine F.ok scCO (fun vs H Q E h => ?_) (fun cdv A outer s H vs Q E hr h => ?_)
  · obtain ⟨a, ns, rfl, _⟩ := h
    rfl
  · obtain ⟨a, ns, rfl, ea, q⟩ := h
    refine ⟨_, (pss_one (ps_ret (pe_def DNO (hr.mono (by decide)) (by rfl) (pa_cons (pe_slice sl_list (pv 0) (po_some (pe_con (by rfl) T.tb)) (po_some (pe_op op_add (pe_con (by rfl) T.tb) (pe_con (by rfl) T.cb)))) pa_nil)))), ?_⟩
    refine ⟨.ref a, rfl, 6, rfl, 6, 4, rfl, rfl, 10, rfl, a, _, rfl, SqL.of ea, fun p np => ?_⟩
    have e := cut_ints_mid ns 6 4
    generalize hG : upd _ p _ = H1
    obtain ⟨s1, e1⟩ := gen_up hG np
    rw [show cutV (ns.map V.int) (some 6) (some 10) = ((ns.drop 6).take 4).map V.int from e] at e1
    exact ⟨p, _, rfl, e1, q _ s1⟩
abbrev dTO (P : Program) (w : World) (K : PySem.W.Frag) (mg : Str → Option Value) (base : Heap) : Prop := Def P w K mg base "turn_of" 2 ["sector"] spTO
abbrev dCO (P : Program) (w : World) (K : PySem.W.Frag) (mg : Str → Option Value) (base : Heap) : Prop := Def P w K mg base "count_of" 2 ["sector"] spCO
abbrev sWB : Stmt := topS 12
abbrev nWB : List Str := ["turn", "data", "held", "starts", "start", "at"]
theorem scWB : FnScope nWB ["turn", "data"] (defScope sWB) := ⟨rfl, rfl, rfl, by decide +kernel, rfl, by decide +kernel, by decide +kernel⟩
def spWB : Sp := fun vs H Q _ => ∃ (t : Int) (a : Addr) (d : List Int), vs = [.int t, .ref a] ∧ H a = some (.lst (d.map V.int)) ∧ 0 ≤ t ∧ d.length ≤ 100000 ∧ ∀ p H', Same H H' → H p = none → LL H' (.ref p) (blk t d) → Q (.ref p) H'
theorem cat_eq {xs ys : List Int} : xs.map V.int ++ ys.map V.int = (xs ++ ys).map V.int := List.map_append.symm
theorem ok_wb {f : Addr} {fd : FuncData} (F : Fun K "write_block" "write_block" sWB f fd) (B : Bt mg) (T : Ct K mg) (DFX : dFX P w K mg base) (DPD : dPD P w K mg base) : FnOk P w K mg base CX0 2 f fd ["turn", "data"] spWB := by
  refine F.ok scWB (fun vs H Q E h => ?_) (fun cdv A outer s H vs Q E hr h => ?_)
  · obtain ⟨t, a, d, rfl, _⟩ := h
    rfl
  · obtain ⟨t, a, d, rfl, ea, t0, l1, q⟩ := h
    refine ⟨_, (pss_cons (ps_set (i := 2) scWB.nd rfl (.inr rfl) (pe_op op_cat (pe_def DFX (hr.mono (by decide)) (by rfl) (pa_cons (pe_callB call_len_seq (by rfl) B.len PySem.boot_len (pa_cons (pv 1) pa_nil)) (pa_cons (pe_con (by rfl) T.cb) pa_nil))) (pe_callTy call_list_of (by rfl) B.lst (by decide +kernel) (pa_cons (pv 1) pa_nil))))
      (pss_cons (ps_set (i := 3) scWB.nd rfl (.inl rfl) (pe_callTy cr_range3 (by rfl) B.rng (by decide +kernel) (pa_cons pe_int (pa_cons (pe_callB call_len_seq (by rfl) B.len PySem.boot_len (pa_cons (pv 2) pa_nil)) (pa_cons (pe_con (by rfl) T.pb) pa_nil)))))
      (pss_cons (ps_set (i := 4) scWB.nd rfl (.inr rfl) (pe_op op_cat (pe_def DFX (hr.mono (by decide)) (by rfl) (pa_cons (pv 0) (pa_cons (pe_con (by rfl) T.tb) pa_nil))) (pe_def DFX (hr.mono (by decide)) (by rfl) (pa_cons (pe_callB call_len_rng3 (by rfl) B.len PySem.boot_len (pa_cons (pv 3) pa_nil)) (pa_cons (pe_con (by rfl) T.cb) pa_nil)))))
      (pss_one (ps_ret (pe_lc (own := [("at", 5)]) (g := (gName 5)) (tt := tYes) (te := (tOp _ (tVar 4) (tCall spPD [] E0 (tCons (tSl (rSlL K) (tVar 2) (tPart (tVar 5)) (tPart (tOp _ (tVar 5) (tC (.int 54))))) (tCons (tC (.int 54)) tNil))))) rfl scWB.nd (pi_rng3 (pv 3)) (blkOk_by (own := [("at", 5)]) (N := nWB) (sc := defScope sWB) (by decide +kernel)) (fun _ _ _ _ _ => (pg_name (i := 5) scWB.nd rfl (Or.inl rfl))) (fun _ _ _ _ _ => pts_nil) (fun _ _ _ _ _ => (pe_op op_cat (pv 4) (pe_def DPD (hr.mono (by decide)) (by rfl) (pa_cons (pe_slice sl_list (pv 2) (po_some (pv 5)) (po_some (pe_op op_add (pv 5) (pe_con (by rfl) T.pb)))) (pa_cons (pe_con (by rfl) T.pb) pa_nil))))))))))), ?_⟩
    -- held
    refine ⟨.ref a, rfl, a, _, rfl, .inl (SqL.of ea), d.length, 4, (by rw [List.length_map]; rfl), by omega, by decide, fun p1 H1 s1 n1 e1 => ?_⟩
    refine ⟨.ref a, rfl, a, _, rfl, .inl (SqL.of (s1 _ _ ea)), fun p2 np2 => ?_⟩
    generalize hG : upd _ p2 _ = H2
    obtain ⟨s2, e2⟩ := gen_up hG np2
    clear hG
    have e1' := s2 _ _ e1
    have l4 := fx_len ((d.length : Nat) : Int) 4
    refine ⟨p1, p2, _, _, rfl, rfl, e1', e2, small6 (by rw [List.length_map, List.length_map, l4]; omega), fun p3 np3 => ?_⟩
    generalize hG : upd _ p3 _ = H3
    obtain ⟨s3, e3⟩ := gen_up hG np3
    clear hG
    rw [cat_eq] at e3
    have eh : H3 p3 = some (.lst ((held d).map V.int)) := e3
    have sA := (s1.trans s2).trans s3
    have lh := held_len d
    clear e3 e2 e1 e1' s1 s2 s3
    -- starts
    refine ⟨.ref p3, rfl, p3, _, rfl, .inl (SqL.of eh), 0, _, 54, rfl, by decide, by decide, fun p4 np4 => ?_⟩
    rw [List.length_map]
    generalize hG : upd _ p4 _ = H4
    obtain ⟨s4, e4⟩ := gen_up hG np4
    clear hG
    have rg := rg_up (m := (held d).length) (by omega)
    -- start
    refine ⟨.int t, rfl, t, 6, rfl, t0, by decide, fun p5 H5 s5 n5 e5 => ?_⟩
    refine ⟨.ref p4, rfl, p4, _, _, _, _, rfl, s5 _ _ e4, rg, by omega, ((cnt d : Nat) : Int), 4, rfl, by omega, by decide, fun p6 H6 s6 n6 e6 => ?_⟩
    have l6 := fx_len t 6
    have l7 := fx_len ((cnt d : Nat) : Int) 4
    refine ⟨p5, p6, _, _, rfl, rfl, s6 _ _ e5, e6, small6 (by rw [List.length_map, List.length_map, l6, l7]; decide), fun p7 np7 => ?_⟩
    generalize hG : upd _ p7 _ = H7
    obtain ⟨s7, e7⟩ := gen_up hG np7
    clear hG
    rw [cat_eq] at e7
    have sB := ((sA.trans s4).trans (s5.trans s6)).trans s7
    have eh7 := s7 _ _ (s6 _ _ (s5 _ _ (s4 _ _ eh)))
    have e47 := s7 _ _ (s6 _ _ (s5 _ _ e4))
    clear e6 e5 e4 s4 s5 s6 s7 eh sA
    -- the sectors
    refine ⟨.ref p4, rfl, p4, _, _, _, _, rfl, e47, rg, fun D nD => ?_⟩
    have fin : cnt d = ((held d).length + 53) / 54 := rfl
    refine lc_it (n := ((held d).length + 53) / 54) walk_rangeC (fun i H' => Same H7 H' ∧ ∃ ys, H' D = some (.lst ys) ∧ Ils H' ys ((blk t d).take i) ∧ ∀ p, V.ref p ∈ ys → p ≠ D) ⟨same_new nD, [], upd_same, .nil, fun _ m => nomatch m⟩ (fun _ _ _ _ => trivial) (fun i x Ha Hb hi hP hy => ?_) (fun H' hP => ?_)
    · obtain ⟨sm, ys, eD, ry, hn⟩ := hP
      obtain ⟨rfl, rfl⟩ := hy
      refine ⟨rfl, ?_⟩
      refine iteT (B := True) ?_
      have ex : (0 : Int) + ((i : Nat) : Int) * 54 = ((54 * i : Nat) : Int) := by omega
      have ec := cut_ints_mid (held d) (54 * i) 54
      rw [Int.natCast_add, ← ex] at ec
      refine ⟨.ref p7, rfl, .ref p3, rfl, .int _, rfl, _, rfl, .int _, rfl, _, 54, rfl, rfl, _, rfl, p3, _, rfl, SqL.of (sm _ _ eh7), fun p8 np8 => ?_⟩
      generalize hG : upd _ p8 _ = H8
      obtain ⟨s8, e8⟩ := gen_up hG np8
      clear hG
      have e8 : H8 p8 = some (.lst ((((held d).drop (54 * i)).take 54).map V.int)) := e8.trans (congrArg (fun z => some (HO.lst z)) ec)
      refine ⟨p8, _, 54, rfl, e8, by rw [List.length_take, List.length_drop]; omega, by decide, fun p9 H9 s9 n9 e9 => ?_⟩
      have lp : (padT (((held d).drop (54 * i)).take 54) 54).length = 54 := padT_len (by rw [List.length_take]; omega)
      have sm9 := (sm.trans s8).trans s9
      refine ⟨p7, p9, _, _, rfl, rfl, sm9 _ _ e7, e9, small6 (by rw [List.length_map, List.length_map, lp, List.length_append, l6, l7]; decide), fun p10 np10 => ?_⟩
      generalize hG : upd _ p10 _ = H10
      obtain ⟨s10, e10⟩ := gen_up hG np10
      clear hG
      rw [cat_eq] at e10
      have sm10 := (s8.trans s9).trans s10
      have ly := ry.length
      have lb := blk_len t d
      have li : ((blk t d).take i).length = i := by rw [List.length_take, lb]; omega
      have nDp : p10 ≠ D := fun z => by
        subst z
        rw [s9 _ _ (s8 _ _ eD)] at np10
        cases np10
      have hn2 : ∀ p, V.ref p ∈ ys ++ [V.ref p10] → p ≠ D := fun p m => by
        rcases List.mem_append.mp m with m | m
        · exact hn p m
        · cases List.mem_singleton.mp m
          exact nDp
      refine ⟨ys, sm10 _ _ eD, small7 (by omega), same_put (sm.trans sm10) nD, ys ++ [.ref p10], upd_same, ?_, hn2⟩
      have eb : (blk t d).take (i + 1) = (blk t d).take i ++ [secOf t d i] := by
        rw [List.take_add_one]
        have : (blk t d)[i]? = some (secOf t d i) := by
          unfold blk
          rw [List.getElem?_map, List.getElem?_range (by omega)]
          rfl
        rw [this]
        rfl
      rw [eb]
      exact ((ry.mono sm10).app (.one ⟨p10, rfl, e10⟩)).upd hn2
    · obtain ⟨sm, ys, eD, ry, _⟩ := hP
      rw [← fin, ← blk_len t d, List.take_length] at ry
      exact q D H' (sB.trans sm) (sB.free nD) ⟨D, ys, rfl, eD, ry⟩
end
end LK

namespace LK
open PySem PySem.Spec PyProof.Rows L2 KA BK
section
variable {P : Program} {w : World} {K : PySem.W.Frag} {mg : Str → Option Value} {base : Heap}
/-- what read_block tells -/
def rbV (H : Hp) (v : V) : Option (List Int × Int) → Prop
  | none => v = .non
  | some (d, n) => ∃ p q, v = .ref p ∧ H p = some (.tup [.ref q, .int n]) ∧ H q = some (.lst (d.map V.int))
abbrev sRB : Stmt := topS 13
abbrev nRB : List Str := ["sectors", "turn", "many", "held", "sector", "size"]
theorem scRB : FnScope nRB ["sectors", "turn"] (defScope sRB) := ⟨rfl, rfl, rfl, by decide +kernel, rfl, by decide +kernel, by decide +kernel⟩
def spRB : Sp := fun vs H Q _ => ∃ (t : Int) (a : Addr) (xs : List V) (ss : List (List Int)), vs = [.ref a, .int t] ∧ H a = some (.lst xs) ∧ Ils H xs ss ∧ ss.length ≤ 5000 ∧ (∀ s ∈ ss, Byts s ∧ s.length ≤ 100) ∧ ∀ v H', Same H H' → rbV H' v (rb ss t) → Q v H'
theorem flat_len {ss : List (List Int)} (h : ∀ s ∈ ss, s.length ≤ 100) : (ss.flatMap fun s => s.drop 10).length ≤ 100 * ss.length := by
  induction ss with
  | nil => exact Nat.le_refl _
  | cons s r ih =>
    rw [List.flatMap_cons, List.length_append, List.length_drop, List.length_cons]
    have := ih fun x m => h x (List.mem_cons_of_mem _ m)
    have := h s List.mem_cons_self
    omega
theorem flat_bytes {ss : List (List Int)} (h : ∀ s ∈ ss, Byts s) : Byts (ss.flatMap fun s => s.drop 10) := fun b m => by
  obtain ⟨s, hs, hb⟩ := List.mem_flatMap.mp m
  exact (h s hs).drop 10 b hb
theorem ok_rb {f : Addr} {fd : FuncData} (F : Fun K "read_block" "read_block" sRB f fd) (B : Bt mg) (T : Ct K mg) (DNO : dNO P w K mg base) (DTO : dTO P w K mg base) (DCO : dCO P w K mg base) : FnOk P w K mg base CX0 3 f fd ["sectors", "turn"] spRB := by
  refine F.ok scRB (fun vs H Q E h => ?_) (fun cdv A outer s H vs Q E hr h => ?_)
  · obtain ⟨t, a, xs, ss, rfl, _⟩ := h
    rfl
  · obtain ⟨t, a, xs, ss, rfl, ea, rs, l1, hb, q⟩ := h
    refine ⟨_, (pss_cons (ps_if (PW.pt (pw_or (pt_not (pt_truth (pv 0) (by intro _; rfl))) (pw_or1 (pt_cmpR op_ne (pe_def DTO (hr.mono (by decide)) (by rfl) (pa_cons (pe_ix ix_list (pv 0) pe_int (fun _ _ => rfl)) pa_nil)) (pv 1) (nomark _)))))
        (pss_one (ps_ret pe_non))
        pss_nil)
      (pss_cons (ps_set (i := 2) scRB.nd rfl (.inl rfl) (pe_def DCO (hr.mono (by decide)) (by rfl) (pa_cons (pe_ix ix_list (pv 0) pe_int (fun _ _ => rfl)) pa_nil)))
      (pss_cons (ps_if (PW.pt (pw_or (pt_not (pt_chain op_le op_le pe_int (pv 2) (pe_callB call_len_seq (by rfl) B.len PySem.boot_len (pa_cons (pv 0) pa_nil)))) (pw_or1 (pt_val (pe_callB (cr_any rfl) (by rfl) B.any (by decide +kernel) (pa_cons (pe_lc (own := [("sector", 4)]) (g := (gName 4)) (tt := tYes) (te := (tOp _ (tCall spTO [] E0 (tCons (tVar 4) tNil)) (tVar 1))) rfl scRB.nd (pi_list (pe_slice sl_list (pv 0) po_none (po_some (pv 2)))) (blkOk_by (own := [("sector", 4)]) (N := nRB) (sc := defScope sRB) (by decide +kernel)) (fun _ _ _ _ _ => (pg_name (i := 4) scRB.nd rfl (Or.inl rfl))) (fun _ _ _ _ _ => pts_nil) (fun _ _ _ _ _ => (pe_cmpR op_ne (pe_def DTO (hr.mono (by decide)) (by rfl) (pa_cons (pv 4) pa_nil)) (pv 1) (nomark _)))) pa_nil))))))
        (pss_one (ps_ret pe_non))
        pss_nil)
      (pss_cons (ps_set (i := 3) scRB.nd rfl (.inl rfl) (pe_lst pa_nil))
      (pss_cons (ps_for PassesOwn.never rfl (pi_list (pe_slice sl_list (pv 0) po_none (po_some (pv 2)))) (pg_name (i := 4) scRB.nd rfl (Or.inl rfl))
        (pss_one (ps_expr (pe_bm PySem.F.plainAttrs_list PySem.F.slot_list_extend PySem.F.type_list_extend mt_extend (pv 3) (pa_cons (pe_slice sl_list (pv 4) (po_some (pe_op op_add (pe_con (by rfl) T.tb) (pe_con (by rfl) T.cb))) po_none) pa_nil)))))
      (pss_cons (ps_set (i := 5) scRB.nd rfl (.inl rfl) (pe_def DNO (hr.mono (by decide)) (by rfl) (pa_cons (pe_slice sl_list (pv 3) po_none (po_some (pe_con (by rfl) T.cb))) pa_nil)))
      (pss_cons (ps_if (pt_cmpR op_gt (pv 5) (pe_op op_sub (pe_callB call_len_seq (by rfl) B.len PySem.boot_len (pa_cons (pv 3) pa_nil)) (pe_con (by rfl) T.cb)) (nomark _))
        (pss_one (ps_ret pe_non))
        pss_nil)
      (pss_one (ps_ret (pe_tup (pa_cons (pe_slice sl_list (pv 3) (po_some (pe_con (by rfl) T.cb)) (po_some (pe_op op_add (pe_con (by rfl) T.cb) (pv 5)))) (pa_cons (pv 2) pa_nil)))))))))))), ?_⟩
    have ls := rs.length
    cases ss with
    | nil =>
      cases rs
      refine ⟨.ref a, rfl, _, .inl ⟨[], SqL.of ea, rfl⟩, iteT' rfl ?_⟩
      exact q .non H (fun _ _ h => h) rfl
    | cons s0 r =>
      cases rs with
      | @cons v0 vs _ _ a0 ar =>
        have e0 : ∃ p0, v0 = .ref p0 ∧ H p0 = some (.lst (s0.map V.int)) := a0
        obtain ⟨p0, rfl, ep0⟩ := e0
        have rs : Ils H (V.ref p0 :: vs) (s0 :: r) := .cons a0 ar
        refine ⟨.ref a, rfl, _, .inl ⟨_, SqL.of ea, rfl⟩, iteF' rfl ?_⟩
        refine ⟨.ref a, rfl, a, _, 0, .ref p0, rfl, rfl, SqL.of ea, at0 _ _, p0, s0, rfl, ep0, fun H1 s1 => ?_⟩
        refine ⟨.int t, rfl, rfl, _, rfl, ?_⟩
        rw [rb_cons] at q
        by_cases c1 : num (s0.take 6) = t
        · rw [if_neg (fun z => z c1)] at q
          refine iteF' (by rw [c1, decide_eq_true rfl]; rfl) ?_
          refine ⟨.ref a, rfl, a, _, 0, .ref p0, rfl, rfl, SqL.of (s1 _ _ ea), at0 _ _, p0, s0, rfl, s1 _ _ ep0, fun H2 s2 => ?_⟩
          have s12 := s1.trans s2
          have ea2 := s12 _ _ ea
          have hb0 := (hb s0 List.mem_cons_self).1
          have m0 : 0 ≤ mny s0 := num_pos ((hb0.drop 6).take 4)
          -- the chain
          have em : num ((s0.drop 6).take 4) = mny s0 := rfl
          rw [em]
          by_cases c2 : 1 ≤ mny s0 ∧ mny s0 ≤ ((s0 :: r).length : Nat)
          · have ll : (V.ref p0 :: vs).length = (s0 :: r).length := ls
            refine ⟨.int (mny s0), rfl, 1, mny s0, rfl, rfl, _, rfl, iteT' (decide_eq_true c2.1) ⟨.ref a, rfl, a, _, rfl, .inl (SqL.of ea2), mny s0, _, rfl, rfl, _, rfl, ?_⟩⟩
            have : (decide (mny s0 ≤ (((V.ref p0 :: vs).length : Nat) : Int))) = true := decide_eq_true (by rw [ll]; exact c2.2)
            rw [this]
            show if (!true) = true then _ else _
            refine iteF' rfl ?_
            obtain ⟨m, hm⟩ : ∃ m : Nat, mny s0 = m := ⟨(mny s0).toNat, by omega⟩
            rw [hm] at c2 ⊢
            -- any
            refine ⟨.ref a, rfl, .int (m : Int), rfl, (m : Int), rfl, a, _, rfl, SqL.of ea2, fun p3 np3 => ?_⟩
            generalize hG : upd _ p3 _ = H3
            obtain ⟨s3, e3⟩ := gen_up hG np3
            clear hG
            rw [cut_to] at e3
            have s13 := s12.trans s3
            have r3 := (rs.mono s13).take m
            refine ⟨p3, rfl, ⟨_, SqL.of e3⟩, fun D nD => ?_⟩
            have lm : ((s0 :: r).take m).length = m := by rw [List.length_take]; omega
            have lmv : ((V.ref p0 :: vs).take m).length = m := by rw [List.length_take]; omega
            refine lc_list (K := K) (a := p3) (xs := (V.ref p0 :: vs).take m) (fun i H' => Same H3 H' ∧ H' D = some (.lst ((((s0 :: r).take m).take i).map fun s => V.bl (decide (num (s.take 6) ≠ t))))) ⟨same_new nD, upd_same⟩ (fun i H' _ hP => SqL.of (hP.1 _ _ e3)) (fun i x Hi hx hP => ?_) (fun H' hP => ?_)
            · obtain ⟨sm, eD⟩ := hP
              obtain ⟨ns, en, p, rfl, ep⟩ := r3.get hx
              refine ⟨rfl, ?_⟩
              refine iteT (B := True) ?_
              refine ⟨.ref p, rfl, p, ns, rfl, sm _ _ ep, fun H5 s5 => ⟨.int t, rfl, rfl, ?_⟩⟩
              refine ⟨_, s5 _ _ eD, small7 (by rw [List.length_map, List.length_take, lm]; omega), same_put (sm.trans s5) nD, ?_⟩
              rw [List.take_add_one (i := i) (l := (s0 :: r).take m), en, List.map_append, upd_same]
              show some (HO.lst (_ ++ [V.bl (!decide (V.int (num (ns.take 6)) = V.int t))])) = some (HO.lst (_ ++ [V.bl (decide (num (ns.take 6) ≠ t))]))
              have : (!decide (V.int (num (ns.take 6)) = V.int t)) = decide (num (ns.take 6) ≠ t) := by
                by_cases z : num (ns.take 6) = t
                · rw [z]
                  simp
                · simp [z]
              rw [this]
            · obtain ⟨sm, eD⟩ := hP
              have eD : H' D = some (.lst ((((s0 :: r).take m).map fun s => decide (num (s.take 6) ≠ t)).map V.bl)) := by
                rw [eD, lmv, List.take_of_length_le (Nat.le_of_eq lm), List.map_map]
                rfl
              have s14 := s13.trans sm
              refine ⟨D, _, rfl, SqL.of eD, _, rfl, ?_⟩
              have eany : ((((s0 :: r).take m).map fun s => decide (num (s.take 6) ≠ t)).any id) = ((s0 :: r).take m).any (fun s => decide (num (s.take 6) ≠ t)) := by
                rw [List.any_map]
                rfl
              rw [eany]
              by_cases c3 : ((s0 :: r).take m).any (fun s => decide (num (s.take 6) ≠ t)) = true
              · rw [if_pos (show bad (s0 :: r) s0 t from .inr (by rw [hm, Int.toNat_natCast]; exact c3))] at q
                exact iteT' c3 (q .non _ s14 rfl)
              · refine iteF' (by simpa using c3) ?_
                rw [if_neg (show ¬ bad (s0 :: r) s0 t from fun z => z.elim (fun z => z (by rw [hm]; exact c2)) (fun z => c3 (by rw [hm, Int.toNat_natCast] at z; exact z)))] at q
                -- held
                refine ⟨Nat.zero_le _, fun p4 np4 => ?_⟩
                generalize hG : upd _ p4 _ = H4
                obtain ⟨s4, e4⟩ := gen_up hG np4
                clear hG
                have s15 := s14.trans s4
                refine ⟨.ref a, rfl, .int (m : Int), rfl, (m : Int), rfl, a, _, rfl, SqL.of (s15 _ _ ea), fun p5 np5 => ?_⟩
                generalize hG : upd _ p5 _ = H5
                obtain ⟨s5, e5⟩ := gen_up hG np5
                clear hG
                rw [cut_to] at e5
                have s16 := s15.trans s5
                have r5 := (rs.mono s16).take m
                have n45 : p5 ≠ p4 := fun z => by rw [z] at np5; rw [np5] at e4; cases e4
                have nr5 : ∀ {p : Addr} {ns : List Int}, V.ref p ∈ (V.ref p0 :: vs).take m → p ≠ p4 := fun {p ns} hm' z => by
                  obtain ⟨i, hi⟩ := List.getElem?_of_mem hm'
                  obtain ⟨ns', _, p', e', ep'⟩ := ((rs.mono s14).take m).get hi
                  cases e'
                  rw [z, np4] at ep'
                  cases ep'
                refine ⟨p5, rfl, ⟨_, SqL.of e5⟩, ?_⟩
                have hl : ∀ s ∈ (s0 :: r).take m, s.length ≤ 100 := fun s z => (hb s (List.mem_of_mem_take z)).2
                have hbt : ∀ s ∈ (s0 :: r).take m, Byts s := fun s z => (hb s (List.mem_of_mem_take z)).1
                refine for_list (K := K) (a := p5) (xs := (V.ref p0 :: vs).take m) (fun i σ H' => (∃ x4 x5, σ = [some (.ref a), some (.int t), some (.int m), some (.ref p4), x4, x5]) ∧ (∀ b o, b ≠ p4 → H5 b = some o → H' b = some o) ∧ H' p4 = some (.lst ((((s0 :: r).take m).take i).flatMap (fun s => s.drop 10) |>.map V.int)))
                  ⟨⟨none, none, rfl⟩, fun _ _ _ h => h, s5 _ _ e4⟩ (fun i σ H' _ hP => SqL.of (hP.2.1 _ _ n45 e5)) (fun i x σ Hi hx hP => ?_) (fun σ H' hP => ?_)
                · obtain ⟨⟨x4, x5, rfl⟩, km, eh⟩ := hP
                  obtain ⟨ns, en, p, rfl, ep⟩ := r5.get hx
                  have np4' : p ≠ p4 := nr5 (ns := ns) (List.mem_of_getElem? hx)
                  refine ⟨.ref p4, rfl, .inl ⟨rfl, _, SqL.of eh⟩, ?_⟩
                  refine ⟨.ref p, rfl, 6, 4, rfl, rfl, 10, rfl, p, _, rfl, SqL.of (km _ _ np4' ep), fun p6 np6 => ?_⟩
                  generalize hG : upd _ p6 _ = H6
                  obtain ⟨s6, e6⟩ := gen_up hG np6
                  clear hG
                  have e6 : H6 p6 = some (.lst ((ns.drop 10).map V.int)) := e6.trans (congrArg (fun z => some (HO.lst z)) (cut_ints_from ns 10))
                  have hn := hl ns (List.mem_of_getElem? en)
                  have fl := flat_len (ss := ((s0 :: r).take m).take i) (fun s z => hl s (List.mem_of_mem_take z))
                  have li : (((s0 :: r).take m).take i).length ≤ 5000 := by
                    rw [List.length_take, List.length_take]
                    rw [List.length_cons] at l1 ⊢
                    omega
                  have n64 : p6 ≠ p4 := fun z => by rw [z, eh] at np6; cases np6
                  refine ⟨p4, p6, _, _, rfl, rfl, s6 _ _ eh, e6, small6 (by rw [List.length_map, List.length_map, List.length_drop]; omega), ⟨_, _, rfl⟩, fun b o hb' h => ?_, ?_⟩
                  · rw [upd_ne hb']
                    exact s6 _ _ (km b o hb' h)
                  · rw [upd_same, List.take_add_one (i := i) (l := (s0 :: r).take m), en, List.flatMap_append, List.map_append]
                    show _ = some (HO.lst (_ ++ ([ns].flatMap _).map V.int))
                    rw [List.flatMap_cons, List.flatMap_nil, List.append_nil]
                · obtain ⟨⟨x4, x5, rfl⟩, km, eh⟩ := hP
                  rw [lmv, List.take_of_length_le (Nat.le_of_eq lm)] at eh
                  have ehl : hel (s0 :: r) s0 = ((s0 :: r).take m).flatMap (fun s => s.drop 10) := by
                    unfold hel
                    rw [hm, Int.toNat_natCast]
                  rw [← ehl] at eh
                  have hbh : Byts (hel (s0 :: r) s0) := by rw [ehl]; exact flat_bytes hbt
                  have lh : (hel (s0 :: r) s0).length ≤ 500000 := by
                    have := flat_len hl
                    rw [ehl]
                    rw [lm] at this
                    omega
                  have sH : Same H H' := fun b o h => km b o (fun z => by rw [z] at h; rw [s14 _ _ h] at np4; cases np4) (s16 _ _ h)
                  generalize hhd : hel (s0 :: r) s0 = hd at q eh hbh lh
                  clear km
                  -- size
                  refine ⟨.ref p4, rfl, 4, rfl, p4, _, rfl, SqL.of eh, fun p7 np7 => ?_⟩
                  generalize hG : upd _ p7 _ = H7
                  obtain ⟨s7, e7⟩ := gen_up hG np7
                  clear hG
                  have e7 : H7 p7 = some (.lst ((hd.take 4).map V.int)) := e7.trans (congrArg (fun z => some (HO.lst z)) (cut_ints_to hd 4))
                  refine ⟨p7, _, rfl, e7, ?_⟩
                  have eh7 := s7 _ _ eh
                  refine ⟨.int (num (hd.take 4)), rfl, .ref p4, rfl, p4, _, rfl, .inl (SqL.of eh7), _, 4, rfl, rfl, _, _, rfl, rfl, _, rfl, ?_⟩
                  rw [List.length_map]
                  by_cases c4 : over hd
                  · rw [if_pos c4] at q
                    exact iteT' (decide_eq_true c4) (q .non _ (sH.trans s7) rfl)
                  · rw [if_neg c4] at q
                    refine iteF' (decide_eq_false c4) ?_
                    have z0 : 0 ≤ num (hd.take 4) := num_pos (hbh.take 4)
                    obtain ⟨z, hz⟩ : ∃ z : Nat, num (hd.take 4) = z := ⟨(num (hd.take 4)).toNat, by omega⟩
                    rw [hz, Int.toNat_natCast] at q
                    rw [hz]
                    refine ⟨.ref p4, rfl, 4, rfl, .int z, rfl, 4, z, rfl, rfl, _, rfl, p4, _, rfl, SqL.of eh7, fun p8 np8 => ?_⟩
                    generalize hG : upd _ p8 _ = H8
                    obtain ⟨s8, e8⟩ := gen_up hG np8
                    clear hG
                    have ec := cut_ints_mid hd 4 z
                    rw [Int.natCast_add] at ec
                    have e8 : H8 p8 = some (.lst (((hd.drop 4).take z).map V.int)) := e8.trans (congrArg (fun z => some (HO.lst z)) ec)
                    refine ⟨.int (m : Int), rfl, (by show 2 ≤ sizeLine; exact small6 (by decide)), fun p9 np9 => ?_⟩
                    refine q (.ref p9) _ ((sH.trans (s7.trans s8)).trans (same_new np9)) ?_
                    rw [hm]
                    exact ⟨p9, p8, rfl, upd_same, same_new np9 _ _ e8⟩
          · rw [if_pos (show bad (s0 :: r) s0 t from .inl c2)] at q
            by_cases c3 : 1 ≤ mny s0
            · have ll : (V.ref p0 :: vs).length = (s0 :: r).length := ls
              refine ⟨.int (mny s0), rfl, 1, mny s0, rfl, rfl, _, rfl, iteT' (decide_eq_true c3) ⟨.ref a, rfl, a, _, rfl, .inl (SqL.of ea2), mny s0, _, rfl, rfl, _, rfl, ?_⟩⟩
              have : (decide (mny s0 ≤ (((V.ref p0 :: vs).length : Nat) : Int))) = false := decide_eq_false (by rw [ll]; exact fun z => c2 ⟨c3, z⟩)
              rw [this]
              exact iteT' rfl (q .non _ s12 rfl)
            · refine ⟨.int (mny s0), rfl, 1, mny s0, rfl, rfl, _, rfl, iteF' (decide_eq_false c3) ⟨_, rfl, ?_⟩⟩
              exact iteT' rfl (q .non _ s12 rfl)
        · rw [if_pos c1] at q
          refine iteT' ?_ (q .non _ s1 rfl)
          have : decide (V.int (num (s0.take 6)) = V.int t) = false := decide_eq_false (fun z => c1 (V.int.inj z))
          rw [this]
          rfl
end
end LK

namespace LK
open PySem PySem.Spec PyProof.Rows L2 KA BK
section
variable {P : Program} {w : World} {K : PySem.W.Frag} {mg : Str → Option Value} {base : Heap}
abbrev sHD : Stmt := topS 14
abbrev nHD : List Str := ["turn", "area"]
theorem scHD : FnScope nHD ["turn", "area"] (defScope sHD) := ⟨rfl, rfl, rfl, by decide +kernel, rfl, by decide +kernel, by decide +kernel⟩
def spHD : Sp := fun vs H Q _ => ∃ (t a : Int), vs = [.int t, .int a] ∧ 0 ≤ t ∧ ∀ p H', Same H H' → H p = none → H' p = some (.lst ((hd t a).map V.int)) → Q (.ref p) H'
theorem hd_pad (t a : Int) : padT (([82, 85, 76, 69] ++ fx t 6) ++ [a]) 64 = hd t a := by
  unfold padT hd
  rw [List.length_append, List.length_append, fx_len]
  rfl
theorem ok_hd {f : Addr} {fd : FuncData} (F : Fun K "head" "head" sHD f fd) (B : Bt mg) (T : Ct K mg) (DFX : dFX P w K mg base) (DPD : dPD P w K mg base) : FnOk P w K mg base CX0 2 f fd ["turn", "area"] spHD := by
  refine F.ok scHD (fun vs H Q E h => ?_) (fun cdv A outer s H vs Q E hr h => ?_)
  · obtain ⟨t, a, rfl, _⟩ := h
    rfl
  · obtain ⟨t, a, rfl, t0, q⟩ := h
    obtain ⟨hm, ehm, th⟩ := T.hm
    refine ⟨_, (pss_one (ps_ret (pe_def DPD (hr.mono (by decide)) (by rfl) (pa_cons (pe_op op_cat (pe_op op_cat (pe_callTy call_list_of (by rfl) B.lst (by decide +kernel) (pa_cons (pe_glob (v := .ref hm) (by rfl) ehm rfl) pa_nil)) (pe_def DFX (hr.mono (by decide)) (by rfl) (pa_cons (pv 0) (pa_cons (pe_con (by rfl) T.tb) pa_nil)))) (pe_lst (pa_cons (pv 1) pa_nil))) (pa_cons (pe_con (by rfl) T.sb) pa_nil))))), ?_⟩
    refine ⟨hm, _, rfl, .inr (th H), fun p1 np1 => ?_⟩
    generalize hG : upd _ p1 _ = H1
    obtain ⟨s1, e1⟩ := gen_up hG np1
    clear hG
    refine ⟨.int t, rfl, t, 6, rfl, t0, by decide, fun p2 H2 s2 n2 e2 => ?_⟩
    refine ⟨p1, p2, _, _, rfl, rfl, s2 _ _ e1, e2, small6 (by rw [List.length_map, List.length_map, fx_len]; decide), fun p3 np3 => ?_⟩
    generalize hG : upd _ p3 _ = H3
    obtain ⟨s3, e3⟩ := gen_up hG np3
    clear hG
    rw [cat_eq] at e3
    refine ⟨.int a, rfl, (by show 1 ≤ sizeLine; exact small6 (by decide)), fun p4 np4 => ?_⟩
    generalize hG : upd _ p4 _ = H4
    obtain ⟨s4, e4⟩ := gen_up hG np4
    clear hG
    refine ⟨p3, p4, _, _, rfl, rfl, s4 _ _ e3, e4, small6 (by rw [List.length_map, List.length_append, fx_len]; exact (by decide : 4 + 6 + 1 ≤ 1000000)), fun p5 np5 => ?_⟩
    generalize hG : upd _ p5 _ = H5
    obtain ⟨s5, e5⟩ := gen_up hG np5
    clear hG
    have e5 : H5 p5 = some (.lst (((([82, 85, 76, 69] ++ fx t 6) ++ [a]) : List Int).map V.int)) := by
      rw [e5, List.map_append (l₂ := [a])]
      rfl
    have s := (((s1.trans s2).trans s3).trans s4).trans s5
    refine ⟨p5, _, 64, rfl, e5, by rw [List.length_append, List.length_append, fx_len]; exact (by decide : 4 + 6 + 1 ≤ 100000), by decide, fun p6 H6 s6 n6 e6 => q p6 H6 (s.trans s6) (s.free n6) ?_⟩
    rw [hd_pad] at e6
    exact e6
abbrev dHD (P : Program) (w : World) (K : PySem.W.Frag) (mg : Str → Option Value) (base : Heap) : Prop := Def P w K mg base "head" 2 ["turn", "area"] spHD
def rhV (H : Hp) (v : V) : Option (Int × Int) → Prop
  | none => v = .non
  | some (t, a) => ∃ p, v = .ref p ∧ H p = some (.tup [.int t, .int a])
abbrev sRH : Stmt := topS 15
abbrev nRH : List Str := ["sector", "turn", "area"]
theorem scRH : FnScope nRH ["sector"] (defScope sRH) := ⟨rfl, rfl, rfl, by decide +kernel, rfl, by decide +kernel, by decide +kernel⟩
def spRH : Sp := fun vs H Q _ => ∃ (a : Addr) (s : List Int), vs = [.ref a] ∧ H a = some (.lst (s.map V.int)) ∧ s.length ≤ 100000 ∧ ∀ v H', Same H H' → rhV H' v (rh s) → Q v H'
theorem ok_rh {f : Addr} {fd : FuncData} (F : Fun K "read_head" "read_head" sRH f fd) (B : Bt mg) (T : Ct K mg) (DNO : dNO P w K mg base) (DHD : dHD P w K mg base) : FnOk P w K mg base CX0 3 f fd ["sector"] spRH := by
  refine F.ok scRH (fun vs H Q E h => ?_) (fun cdv A outer s0 H vs Q E hr h => ?_)
  · obtain ⟨t, a, rfl, _⟩ := h
    rfl
  · obtain ⟨a, s, rfl, ea, l1, q⟩ := h
    obtain ⟨hm, ehm, th⟩ := T.hm
    refine ⟨_, (pss_cons (ps_set (i := 1) scRH.nd rfl (.inl rfl) (pe_def DNO (hr.mono (by decide)) (by rfl) (pa_cons (pe_slice sl_list (pv 0) (po_some (pe_callB call_len_seq (by rfl) B.len PySem.boot_len (pa_cons (pe_glob (v := .ref hm) (by rfl) ehm rfl) pa_nil))) (po_some (pe_op op_add (pe_callB call_len_seq (by rfl) B.len PySem.boot_len (pa_cons (pe_glob (v := .ref hm) (by rfl) ehm rfl) pa_nil)) (pe_con (by rfl) T.tb)))) pa_nil)))
      (pss_cons (ps_if (pt_cmpR op_lt (pv 1) pe_int (nomark _))
        (pss_one (ps_ret pe_non))
        pss_nil)
      (pss_cons (ps_for PassesOwn.never rfl (pi_range1 (by rfl) B.rng (pa_cons pe_int pa_nil)) (pg_name (i := 2) scRH.nd rfl (Or.inl rfl))
        (pss_one (ps_if (pt_cmpR (op_eqQ hr.units) (pv 0) (pe_def DHD (hr.mono (by decide)) (by rfl) (pa_cons (pv 1) (pa_cons (pv 2) pa_nil))) (nomark _))
          (pss_one (ps_ret (pe_tup (pa_cons (pv 1) (pa_cons (pv 2) pa_nil)))))
          pss_nil)))
      (pss_one (ps_ret pe_non))))), ?_⟩
    refine ⟨.ref a, rfl, hm, _, rfl, .inr (th H), _, rfl, hm, _, rfl, .inr (th H), _, 6, rfl, rfl, _, rfl, a, _, rfl, SqL.of ea, fun p1 np1 => ?_⟩
    have ec := cut_ints_mid s 4 6
    generalize hG : upd _ p1 _ = H1
    obtain ⟨s1, e1⟩ := gen_up hG np1
    clear hG
    have e1 : H1 p1 = some (.lst (((s.drop 4).take 6).map V.int)) := e1.trans (congrArg (fun z => some (HO.lst z)) ec)
    refine ⟨p1, _, rfl, e1, ?_⟩
    unfold rh at q
    generalize num ((s.drop 4).take 6) = t at q ⊢
    have q : ∀ v H', Same H H' → rhV H' v (if t < 1 then none else if s = hd t 0 then some (t, 0) else if s = hd t 1 then some (t, 1) else none) → Q v H' := q
    refine ⟨.int t, rfl, t, 1, rfl, rfl, _, rfl, ?_⟩
    by_cases c1 : t < 1
    · rw [if_pos c1] at q
      exact iteT' (decide_eq_true c1) (q .non _ s1 rfl)
    · rw [if_neg c1] at q
      refine iteF' (decide_eq_false c1) ?_
      refine ⟨2, rfl, by decide, by decide, ?_⟩
      refine for_range (lo := 0) (n := (2 : Int).toNat) (fun i σ H' => (∃ x2, σ = [some (.ref a), some (.int t), x2]) ∧ Same H H' ∧ (1 ≤ i → s ≠ hd t 0) ∧ (2 ≤ i → s ≠ hd t 1)) ⟨⟨none, rfl⟩, s1, fun z => absurd z (by decide), fun z => absurd z (by decide)⟩ (fun i σ Hi hi hP => ?_) (fun σ H' hP => ?_)
      · obtain ⟨⟨x2, rfl⟩, sm, h0, h1⟩ := hP
        have e0 : (0 : Int) + (i : Int) = ((i : Nat) : Int) := Int.zero_add _
        rw [e0]
        refine ⟨.ref a, rfl, .int t, rfl, .int (i : Nat), rfl, t, (i : Nat), rfl, by omega, fun p2 H2 s2 n2 e2 => ?_⟩
        have ea2 := s2 _ _ (sm _ _ ea)
        refine ⟨_, _, .lst ea2 (dls_ints s), .lst e2 (dls_ints _), Nat.le_trans (depth_ints _) (by decide), _, rfl, ?_⟩
        show if (PyData.eqv (.list (intsD s)) (.list (intsD (hd t (i : Nat))))) = true then _ else _
        rw [eqv_il]
        by_cases c : s = hd t (i : Nat)
        · refine iteT' (decide_eq_true c) ⟨.int t, rfl, .int (i : Nat), rfl, (by show 2 ≤ sizeLine; exact small6 (by decide)), fun p3 np3 => ?_⟩
          refine q (.ref p3) _ ((sm.trans s2).trans (same_new np3)) ?_
          have hi2 : i < 2 := hi
          rcases (by omega : i = 0 ∨ i = 1) with rfl | rfl
          · rw [if_pos (show s = hd t 0 from c)]
            exact ⟨p3, rfl, upd_same⟩
          · rw [if_neg (h0 (by decide)), if_pos (show s = hd t 1 from c)]
            exact ⟨p3, rfl, upd_same⟩
        · refine iteF' (decide_eq_false c) ⟨⟨_, rfl⟩, sm.trans s2, fun z e => ?_, fun z e => ?_⟩
          · have hi2 : i < 2 := hi
            rcases (by omega : i = 0 ∨ i = 1) with rfl | rfl
            · exact c e
            · exact h0 (by decide) e
          · have hi2 : i < 2 := hi
            rcases (by omega : i = 1) with rfl
            exact c e
      · obtain ⟨⟨x2, rfl⟩, sm, h0, h1⟩ := hP
        rw [if_neg (h0 (by decide)), if_neg (h1 (by decide))] at q
        exact q .non _ sm rfl
abbrev sAZ : Stmt := topS 16
abbrev nAZ : List Str := ["size"]
theorem scAZ : FnScope nAZ ["size"] (defScope sAZ) := ⟨rfl, rfl, rfl, by decide +kernel, rfl, by decide +kernel, by decide +kernel⟩
def spAZ : Sp := fun vs H Q _ => ∃ n : Int, vs = [.int n] ∧ Q (.int ((n - 2) / 2)) H
theorem ok_az {f : Addr} {fd : FuncData} (F : Fun K "area_size" "area_size" sAZ f fd) (T : Ct K mg) : FnOk P w K mg base CX0 1 f fd ["size"] spAZ := by
  refine F.ok scAZ (fun vs H Q E h => ?_) (fun cdv A outer s0 H vs Q E hr h => ?_)
  · obtain ⟨n, rfl, _⟩ := h
    rfl
  · obtain ⟨n, rfl, q⟩ := h
    refine ⟨_, (pss_one (ps_ret (pe_op op_fdiv (pe_op op_sub (pv 0) (pe_con (by rfl) T.hs)) pe_int))), ?_⟩
    exact ⟨.int n, rfl, n, 2, rfl, rfl, _, 2, rfl, rfl, ⟨by decide, by decide⟩, q⟩
abbrev dAZ (P : Program) (w : World) (K : PySem.W.Frag) (mg : Str → Option Value) (base : Heap) : Prop := Def P w K mg base "area_size" 1 ["size"] spAZ
abbrev sAS : Stmt := topS 17
abbrev nAS : List Str := ["size", "area"]
theorem scAS : FnScope nAS ["size", "area"] (defScope sAS) := ⟨rfl, rfl, rfl, by decide +kernel, rfl, by decide +kernel, by decide +kernel⟩
def spAS : Sp := fun vs H Q _ => ∃ n a : Int, vs = [.int n, .int a] ∧ (a = 0 ∨ a = 1) ∧ Q (.int (2 + a * ((n - 2) / 2))) H
theorem ok_as {f : Addr} {fd : FuncData} (F : Fun K "area_start" "area_start" sAS f fd) (T : Ct K mg) (DAZ : dAZ P w K mg base) : FnOk P w K mg base CX0 2 f fd ["size", "area"] spAS := by
  refine F.ok scAS (fun vs H Q E h => ?_) (fun cdv A outer s0 H vs Q E hr h => ?_)
  · obtain ⟨n, a, rfl, _⟩ := h
    rfl
  · obtain ⟨n, a, rfl, ha, q⟩ := h
    refine ⟨_, (pss_one (ps_ret (pe_op op_add (pe_con (by rfl) T.hs) (pe_op op_mul (pv 1) (pe_def DAZ (hr.mono (by decide)) (by rfl) (pa_cons (pv 0) pa_nil)))))), ?_⟩
    exact ⟨.int a, rfl, .int n, rfl, n, rfl, a, _, rfl, rfl, .inl (by rcases ha with rfl | rfl <;> exact ⟨by decide, by decide⟩), 2, _, rfl, rfl, q⟩
abbrev dAS (P : Program) (w : World) (K : PySem.W.Frag) (mg : Str → Option Value) (base : Heap) : Prop := Def P w K mg base "area_start" 2 ["size", "area"] spAS
abbrev dWB (P : Program) (w : World) (K : PySem.W.Frag) (mg : Str → Option Value) (base : Heap) : Prop := Def P w K mg base "write_block" 2 ["turn", "data"] spWB
abbrev dRB (P : Program) (w : World) (K : PySem.W.Frag) (mg : Str → Option Value) (base : Heap) : Prop := Def P w K mg base "read_block" 3 ["sectors", "turn"] spRB
abbrev dRH (P : Program) (w : World) (K : PySem.W.Frag) (mg : Str → Option Value) (base : Heap) : Prop := Def P w K mg base "read_head" 3 ["sector"] spRH
end
end LK

namespace LK
open PySem PySem.Spec PyProof.Rows L2 KA BK
section
variable {P : Program} {w : World} {K : PySem.W.Frag} {mg : Str → Option Value} {base : Heap}
theorem lit_int {zs : List Int} {v : Int} (h0 : 0 ≤ v) (h1 : v < zs.length) : ∃ z, z ∈ zs ∧ atI (zs.map V.int) v = some (.int z) := by
  obtain ⟨m, em⟩ : ∃ m : Nat, v = m := ⟨v.toNat, by omega⟩
  have hm : m < zs.length := by omega
  refine ⟨zs[m], List.getElem_mem hm, ?_⟩
  rw [em]
  refine atI_nat ?_
  rw [List.getElem?_map, List.getElem?_eq_getElem hm]
  rfl
abbrev sLF : Stmt := topS 21
abbrev nLF : List Str := ["number", "count", "data", "k"]
theorem scLF : FnScope nLF ["number", "count"] (defScope sLF) := ⟨rfl, rfl, rfl, by decide +kernel, rfl, by decide +kernel, by decide +kernel⟩
def spLF : Sp := fun vs H Q _ => ∃ (n : Int) (k : Nat), vs = [.int n, .int k] ∧ 0 ≤ n ∧ k ≤ 64 ∧ ∀ p H', Same H H' → H p = none → H' p = some (.lst ((fx n k).map V.int)) → Q (.ref p) H'
theorem ok_lf {f : Addr} {fd : FuncData} (F : Fun K "_law_fixed" "_law_fixed" sLF f fd) (B : Bt mg) : FnOk P w K mg base CX0 1 f fd ["number", "count"] spLF := by
  refine F.ok scLF (fun vs H Q E h => ?_) (fun cdv A outer s0 H vs Q E hr h => ?_)
  · obtain ⟨n, k, rfl, _⟩ := h
    rfl
  · obtain ⟨n, k, rfl, n0, k1, q⟩ := h
    refine ⟨_, (pss_cons (ps_set (i := 2) scLF.nd rfl (.inl rfl) (pe_lst pa_nil))
      (pss_cons (ps_for PassesOwn.never rfl (pi_range1 (by rfl) B.rng (pa_cons (pv 1) pa_nil)) (pg_name (i := 3) scLF.nd rfl (Or.inl rfl))
        (pss_cons (ps_set (i := 2) scLF.nd rfl (.inl rfl) (pe_op op_cat (pe_lst (pa_cons (pe_op op_mod (pe_callTy call_int1 (by rfl) B.int (by decide +kernel) (pa_cons (pv 0) pa_nil)) pe_int) pa_nil)) (pv 2)))
        (pss_one (ps_set (i := 0) scLF.nd rfl (.inl rfl) (pe_op op_fdiv (pv 0) pe_int)))))
      (pss_one (ps_ret (pv 2))))), ?_⟩
    refine ⟨Nat.zero_le _, fun p0 np0 => ?_⟩
    generalize hG : upd _ p0 _ = H0
    obtain ⟨s1, e1⟩ := gen_up hG np0
    clear hG
    refine ⟨.int (k : Nat), rfl, (k : Nat), rfl, by omega, by omega, ?_⟩
    refine for_range (lo := 0) (n := ((k : Nat) : Int).toNat) (fun i σ H' => ∃ (p : Addr) (m : Int) (D : List Int) (x3 : Option V), σ = [some (.int m), some (.int (k : Nat)), some (.ref p), x3] ∧ Same H H' ∧ H p = none ∧ H' p = some (.lst (D.map V.int)) ∧ 0 ≤ m ∧ D.length = i ∧ fx m (k - i) ++ D = fx n k) ⟨p0, n, [], none, rfl, s1, np0, e1, n0, rfl, List.append_nil _⟩ (fun i σ Hi hi hP => ?_) (fun σ H' hP => ?_)
    · obtain ⟨p, m, D, x3, rfl, sm, np, eD, m0, lD, ef⟩ := hP
      have hik : i < k := by omega
      refine ⟨.int m, rfl, .inl ⟨m, rfl, m, 256, rfl, rfl, (by show (0 : Int) < 256; decide), (by show 1 ≤ sizeLine; exact small6 (by decide)), fun p2 np2 => ?_⟩⟩
      generalize hG : upd _ p2 _ = H2
      obtain ⟨s2, e2⟩ := gen_up hG np2
      clear hG
      refine ⟨.ref p, rfl, p2, p, [.int (m % 256)], _, rfl, rfl, e2, s2 _ _ eD, small6 (by rw [List.length_map, lD]; show 1 + i ≤ 1000000; omega), fun p3 np3 => ?_⟩
      generalize hG : upd _ p3 _ = H3
      obtain ⟨s3, e3⟩ := gen_up hG np3
      clear hG
      have s13 := (sm.trans s2).trans s3
      refine ⟨.int m, rfl, m, 256, rfl, rfl, ⟨by decide, by decide⟩, ?_⟩
      refine ⟨p3, m / 256, (m % 256) :: D, _, rfl, s13, (sm.trans s2).free np3, e3, by omega, by rw [List.length_cons, lD], ?_⟩
      rw [← ef, show k - i = (k - (i + 1)) + 1 by omega, fx, List.append_assoc]
      rfl
    · obtain ⟨p, m, D, x3, rfl, sm, np, eD, m0, lD, ef⟩ := hP
      rw [Int.toNat_natCast, Nat.sub_self] at ef
      rw [show D = fx n k from ef] at eD
      exact ⟨.ref p, rfl, q p H' sm np eD⟩
abbrev dLF (P : Program) (w : World) (K : PySem.W.Frag) (mg : Str → Option Value) (base : Heap) : Prop := Def P w K mg base "_law_fixed" 1 ["number", "count"] spLF
abbrev sLB : Stmt := topS 22
abbrev nLB : List Str := ["turn", "data", "rest", "count", "sectors", "k", "piece"]
theorem scLB : FnScope nLB ["turn", "data"] (defScope sLB) := ⟨rfl, rfl, rfl, by decide +kernel, rfl, by decide +kernel, by decide +kernel⟩
def spLB : Sp := fun vs H Q _ => ∃ (t : Int) (a : Addr) (d : List Int), vs = [.int t, .ref a] ∧ H a = some (.lst (d.map V.int)) ∧ 0 ≤ t ∧ d.length ≤ 100000 ∧ ∀ p H', Same H H' → H p = none → LL H' (.ref p) (blk t d) → Q (.ref p) H'
theorem Ils.kp {D : Addr} {H H' : Hp} {vs : List V} {ds : List (List Int)} (h : Ils H vs ds) (k : Kp D H H') : (∀ p, V.ref p ∈ vs → p ≠ D) → Ils H' vs ds := by
  induction h with
  | nil => intro _; exact .nil
  | cons a r ih =>
    intro hn
    obtain ⟨p, rfl, e⟩ := a
    exact .cons ⟨p, rfl, k _ _ (hn p List.mem_cons_self) e⟩ (ih fun p m => hn p (List.mem_cons_of_mem _ m))
theorem ok_lb {f : Addr} {fd : FuncData} (F : Fun K "_law_block" "_law_block" sLB f fd) (B : Bt mg) (DLF : dLF P w K mg base) : FnOk P w K mg base CX0 2 f fd ["turn", "data"] spLB := by
  refine F.ok scLB (fun vs H Q E h => ?_) (fun cdv A outer s0 H vs Q E hr h => ?_)
  · obtain ⟨n, k, _, rfl, _⟩ := h
    rfl
  · obtain ⟨t, a, d, rfl, ea, t0, l1, q⟩ := h
    refine ⟨_, (pss_cons (ps_set (i := 2) scLB.nd rfl (.inl rfl) (pe_op op_cat (pe_def DLF (hr.mono (by decide)) (by rfl) (pa_cons (pe_callB call_len_seq (by rfl) B.len PySem.boot_len (pa_cons (pv 1) pa_nil)) (pa_cons pe_int pa_nil))) (pv 1)))
      (pss_cons (ps_set (i := 3) scLB.nd rfl (.inl rfl) (pe_op op_fdiv (pe_op op_add (pe_callB call_len_seq (by rfl) B.len PySem.boot_len (pa_cons (pv 2) pa_nil)) pe_int) pe_int))
      (pss_cons (ps_set (i := 4) scLB.nd rfl (.inl rfl) (pe_lst pa_nil))
      (pss_cons (ps_for PassesOwn.never rfl (pi_range1 (by rfl) B.rng (pa_cons (pv 3) pa_nil)) (pg_name (i := 5) scLB.nd rfl (Or.inl rfl))
        (pss_cons (ps_set (i := 6) scLB.nd rfl (.inl rfl) (pe_slice sl_list (pv 2) (po_some (pe_op op_mul pe_int (pv 5))) (po_some (pe_op op_add (pe_op op_mul pe_int (pv 5)) pe_int))))
        (pss_one (ps_expr (pe_bm PySem.F.plainAttrs_list PySem.F.slot_list_append PySem.F.type_list_append mt_append (pv 4) (pa_cons (pe_op op_cat (pe_op op_cat (pe_op op_cat (pe_def DLF (hr.mono (by decide)) (by rfl) (pa_cons (pv 0) (pa_cons pe_int pa_nil))) (pe_def DLF (hr.mono (by decide)) (by rfl) (pa_cons (pv 3) (pa_cons pe_int pa_nil)))) (pv 6)) (pe_op op_rep (pe_lst (pa_cons pe_int pa_nil)) (pe_op op_sub pe_int (pe_callB call_len_seq (by rfl) B.len PySem.boot_len (pa_cons (pv 6) pa_nil))))) pa_nil))))))
      (pss_one (ps_ret (pv 4))))))), ?_⟩
    refine ⟨.ref a, rfl, a, _, rfl, .inl (SqL.of ea), d.length, 4, (by rw [List.length_map]; rfl), by omega, by decide, fun p1 H1 s1 n1 e1 => ?_⟩
    refine ⟨.ref a, rfl, p1, a, _, _, rfl, rfl, e1, s1 _ _ ea, small6 (by rw [List.length_map, List.length_map, fx_len]; omega), fun p2 np2 => ?_⟩
    generalize hG : upd _ p2 _ = H2
    obtain ⟨s2, e2⟩ := gen_up hG np2
    clear hG
    rw [cat_eq] at e2
    have eh : H2 p2 = some (.lst ((held d).map V.int)) := e2
    have lh := held_len d
    have lc := blk_len t d
    refine ⟨.ref p2, rfl, p2, _, rfl, .inl (SqL.of eh), _, 53, rfl, rfl, _, 54, rfl, rfl, ⟨by decide, by decide⟩, ?_⟩
    have ec : ((((held d).map V.int).length : Nat) + 53 : Int) / 54 = ((cnt d : Nat) : Int) := by
      rw [List.length_map]
      unfold BK.cnt
      omega
    have cb : cnt d ≤ 100000 := by unfold BK.cnt; omega
    show gName 3 (V.int (((((held d).map V.int).length : Nat) + 53 : Int) / 54)) _ _ _
    rw [ec]
    refine ⟨Nat.zero_le _, fun p3 np3 => ?_⟩
    generalize hG : upd _ p3 _ = H3
    obtain ⟨s3, e3⟩ := gen_up hG np3
    clear hG
    have sA := (s1.trans s2).trans s3
    have eh3 := s3 _ _ eh
    refine ⟨.int (cnt d : Nat), rfl, (cnt d : Nat), rfl, by omega, by omega, ?_⟩
    have n23 : p2 ≠ p3 := ne_of_none eh np3
    refine for_range (lo := 0) (n := ((cnt d : Nat) : Int).toNat) (fun i σ H' => (∃ x5 x6, σ = [some (.int t), some (.ref a), some (.ref p2), some (.int (cnt d : Nat)), some (.ref p3), x5, x6]) ∧ Kp p3 H3 H' ∧ ∃ ys, H' p3 = some (.lst ys) ∧ Ils H' ys ((blk t d).take i) ∧ ∀ p, V.ref p ∈ ys → p ≠ p3) ⟨⟨none, none, rfl⟩, Kp.refl _ _, [], e3, .nil, fun _ m => nomatch m⟩ (fun i σ Hi hi hP => ?_) (fun σ H' hP => ?_)
    · obtain ⟨⟨x5, x6, rfl⟩, kp, ys, eD, ry, hn⟩ := hP
      have hic : i < cnt d := by omega
      have ex : (54 : Int) * ((0 : Int) + ((i : Nat) : Int)) = ((54 * i : Nat) : Int) := by omega
      have ec := cut_ints_mid (held d) (54 * i) 54
      rw [Int.natCast_add, ← ex] at ec
      have ehi := kp _ _ n23 eh3
      refine ⟨.ref p2, rfl, .int _, rfl, 54, _, rfl, rfl, .inl ⟨by decide, by decide⟩, _, rfl, .int _, rfl, 54, _, rfl, rfl, .inl ⟨by decide, by decide⟩, _, 54, rfl, rfl, _, rfl, p2, _, rfl, SqL.of ehi, fun p4 np4 => ?_⟩
      generalize hG : upd _ p4 _ = H4
      obtain ⟨s4, e4⟩ := gen_up hG np4
      clear hG
      have e4 : H4 p4 = some (.lst ((((held d).drop (54 * i)).take 54).map V.int)) := e4.trans (congrArg (fun z => some (HO.lst z)) ec)
      generalize hpc : ((held d).drop (54 * i)).take 54 = pc at e4
      have lpc : pc.length ≤ 54 := by rw [← hpc, List.length_take]; omega
      refine ⟨.ref p3, rfl, .inl ⟨rfl, _, SqL.of (s4 _ _ eD)⟩, ?_⟩
      refine ⟨.int t, rfl, t, 6, rfl, t0, by decide, fun p5 H5 s5 n5 e5 => ?_⟩
      refine ⟨.int (cnt d : Nat), rfl, (cnt d : Nat), 4, rfl, by omega, by decide, fun p6 H6 s6 n6 e6 => ?_⟩
      refine ⟨p5, p6, _, _, rfl, rfl, s6 _ _ e5, e6, small6 (by rw [List.length_map, List.length_map, fx_len, fx_len]; decide), fun p7 np7 => ?_⟩
      generalize hG : upd _ p7 _ = H7
      obtain ⟨s7, e7⟩ := gen_up hG np7
      clear hG
      rw [cat_eq] at e7
      have l7 : (fx t 6 ++ fx ((cnt d : Nat) : Int) 4).length = 10 := by rw [List.length_append, fx_len, fx_len]
      have s47 := (s5.trans s6).trans s7
      have e47 := s47 _ _ e4
      refine ⟨.ref p4, rfl, p7, p4, _, _, rfl, rfl, e7, e47, small6 (by rw [List.length_map, List.length_map, l7]; omega), fun p8 np8 => ?_⟩
      generalize hG : upd _ p8 _ = H8
      obtain ⟨s8, e8⟩ := gen_up hG np8
      clear hG
      rw [cat_eq] at e8
      refine ⟨(by show 1 ≤ sizeLine; exact small6 (by decide)), fun p9 np9 => ?_⟩
      generalize hG : upd _ p9 _ = H9
      obtain ⟨s9, e9⟩ := gen_up hG np9
      clear hG
      have e49 := s9 _ _ (s8 _ _ e47)
      have lm : (pc.map V.int).length = pc.length := List.length_map ..
      refine ⟨.ref p4, rfl, p4, _, rfl, .inl (SqL.of e49), 54, _, rfl, rfl, p9, _, _, rfl, rfl, e9, by omega, by omega, small6 (by show 1 * _ ≤ _; omega), fun p10 np10 => ?_⟩
      generalize hG : upd _ p10 _ = H10
      obtain ⟨s10, e10⟩ := gen_up hG np10
      clear hG
      have ez : ((54 : Int) - ((pc.map V.int).length : Nat)).toNat = 54 - pc.length := by omega
      rw [rep_one, ez] at e10
      refine ⟨p8, p10, _, _, rfl, rfl, s10 _ _ (s9 _ _ e8), e10, small6 (by rw [List.length_map, List.length_append, l7, List.length_replicate]; omega), fun p11 np11 => ?_⟩
      generalize hG : upd _ p11 _ = H11
      obtain ⟨s11, e11⟩ := gen_up hG np11
      clear hG
      have sB := (s47.trans (s8.trans s9)).trans (s10.trans s11)
      have eD11 := sB _ _ (s4 _ _ eD)
      have esec : H11 p11 = some (.lst ((secOf t d i).map V.int)) := by
        rw [e11, ← zeros_map, cat_eq]
        unfold secOf padT
        rw [hpc, List.append_assoc]
      have ly := ry.length
      have li : ((blk t d).take i).length = i := by rw [List.length_take, lc]; omega
      have n11 : p11 ≠ p3 := fun z => by
        subst z
        have z2 := (s10 _ _ (s9 _ _ (s8 _ _ (s47 _ _ (s4 _ _ eD)))))
        rw [np11] at z2
        cases z2
      have hn2 : ∀ p, V.ref p ∈ ys ++ [V.ref p11] → p ≠ p3 := fun p m => by
        rcases List.mem_append.mp m with m | m
        · exact hn p m
        · cases List.mem_singleton.mp m
          exact n11
      refine ⟨p3, ys, .ref p11, rfl, rfl, eD11, small7 (by omega), ⟨_, _, rfl⟩, (kp.trans ((Kp.of s4).trans (Kp.of sB))).trans Kp.st, ys ++ [.ref p11], upd_same, ?_, hn2⟩
      have eb : (blk t d).take (i + 1) = (blk t d).take i ++ [secOf t d i] := by
        rw [List.take_add_one]
        have : (blk t d)[i]? = some (secOf t d i) := by
          unfold blk
          rw [List.getElem?_map, List.getElem?_range hic]
          rfl
        rw [this]
        rfl
      rw [eb]
      exact (((ry.mono s4).mono sB).app (.one ⟨p11, rfl, esec⟩)).upd hn2
    · obtain ⟨⟨x5, x6, rfl⟩, kp, ys, eD, ry, hn⟩ := hP
      rw [Int.toNat_natCast, ← lc, List.take_length] at ry
      have sH : Same H H' := fun b o h => kp b o (fun z => by rw [z] at h; rw [s2 _ _ (s1 _ _ h)] at np3; cases np3) (sA _ _ h)
      exact ⟨.ref p3, rfl, q p3 H' sH ((s1.trans s2).free np3) ⟨p3, ys, rfl, eD, ry⟩⟩
abbrev dLB (P : Program) (w : World) (K : PySem.W.Frag) (mg : Str → Option Value) (base : Heap) : Prop := Def P w K mg base "_law_block" 2 ["turn", "data"] spLB
abbrev sLT : Stmt := topS 23
abbrev nLT : List Str := ["state"]
theorem scLT : FnScope nLT ["state"] (defScope sLT) := ⟨rfl, rfl, rfl, by decide +kernel, rfl, by decide +kernel, by decide +kernel⟩
def spLT : Sp := fun vs H Q _ => ∃ (st L : Addr), vs = [.ref st] ∧ Good st L H ∧ ∀ (t : Int) H', Dr st L H H' → 1 ≤ t → t ≤ 2 ^ 47 → Q (.int t) H'
theorem ok_lt {f : Addr} {fd : FuncData} (F : Fun K "_law_turn" "_law_turn" sLT f fd) (DNext : dNext P w K mg base) : FnOk P w K mg base CX0 2 f fd ["state"] spLT := by
  refine F.ok scLT (fun vs H Q E h => ?_) (fun cdv A outer s0 H vs Q E hr h => ?_)
  · obtain ⟨n, k, rfl, _⟩ := h
    rfl
  · obtain ⟨st, L, rfl, g, q⟩ := h
    refine ⟨_, (pss_one (ps_ret (pe_ix ix_list (pe_lst (pa_cons pe_int (pa_cons pe_int (pa_cons pe_int (pa_cons pe_int (pa_cons (pe_op op_add pe_int (pe_def DNext (hr.mono (by decide)) (by rfl) (pa_cons (pv 0) (pa_cons (pe_op op_pow pe_int pe_int) pa_nil)))) pa_nil)))))) (pe_def DNext (hr.mono (by decide)) (by rfl) (pa_cons (pv 0) (pa_cons pe_int pa_nil))) (fun _ _ => rfl)))), ?_⟩
    refine ⟨.ref st, rfl, 2, 47, rfl, rfl, ⟨by decide, by decide, by decide⟩, st, L, _, rfl, g, by decide, by decide, fun v H1 d1 v0 v1 => ⟨1, v, rfl, rfl, (by show 5 ≤ sizeLine; exact small6 (by decide)), fun p np => ?_⟩⟩
    generalize hG : upd _ p _ = H2
    obtain ⟨s2, e2⟩ := gen_up hG np
    clear hG
    have d2 := d1.trans (Dr.same d1.good s2)
    refine ⟨.ref st, rfl, st, L, 5, rfl, d2.good, by decide, by decide, fun k H3 d3 k0 k1 => ?_⟩
    have e3 := d3.at_ (fun z => by rw [z] at np; exact d1.good.not_none np) e2
    obtain ⟨z, mz, ez⟩ := lit_int (zs := [1, 2, 255, 256, 1 + v]) k0 k1
    refine ⟨p, _, k, .int z, rfl, rfl, SqL.of e3, ez, ?_⟩
    have v1' : v < 2 ^ 47 := v1
    have hz : 1 ≤ z ∧ z ≤ 2 ^ 47 := by
      simp only [List.mem_cons, List.not_mem_nil, or_false] at mz
      rcases mz with rfl | rfl | rfl | rfl | rfl <;> omega
    exact q z H3 (d2.trans d3) hz.1 hz.2
abbrev dLT (P : Program) (w : World) (K : PySem.W.Frag) (mg : Str → Option Value) (base : Heap) : Prop := Def P w K mg base "_law_turn" 2 ["state"] spLT
abbrev sLY : Stmt := topS 24
abbrev nLY : List Str := ["state", "count", "start", "k"]
theorem scLY : FnScope nLY ["state"] (defScope sLY) := ⟨rfl, rfl, rfl, by decide +kernel, rfl, by decide +kernel, by decide +kernel⟩
def spLY : Sp := fun vs H Q _ => ∃ (st L : Addr), vs = [.ref st] ∧ Good st L H ∧ ∀ p d H', Dr st L H H' → H p = none → H' p = some (.lst (d.map V.int)) → Byts d → d.length ≤ 400 → Q (.ref p) H'
theorem Dr.free {st L p : Addr} {H H' : Hp} (d : Dr st L H H') (h : H' p = none) : H p = none := KA.Dr.free d h
theorem ok_ly {f : Addr} {fd : FuncData} (F : Fun K "_law_bytes" "_law_bytes" sLY f fd) (B : Bt mg) (DNext : dNext P w K mg base) : FnOk P w K mg base CX0 2 f fd ["state"] spLY := by
  refine F.ok scLY (fun vs H Q E h => ?_) (fun cdv A outer s0 H vs Q E hr h => ?_)
  · obtain ⟨n, k, rfl, _⟩ := h
    rfl
  · obtain ⟨st, L, rfl, g, q⟩ := h
    refine ⟨_, (pss_cons (ps_set (i := 1) scLY.nd rfl (.inl rfl) (pe_ix ix_list (pe_lst (pa_cons pe_int (pa_cons pe_int (pa_cons (pe_op op_add pe_int (pe_def DNext (hr.mono (by decide)) (by rfl) (pa_cons (pv 0) (pa_cons pe_int pa_nil)))) (pa_cons (pe_op op_add pe_int (pe_def DNext (hr.mono (by decide)) (by rfl) (pa_cons (pv 0) (pa_cons pe_int pa_nil)))) (pa_cons (pe_def DNext (hr.mono (by decide)) (by rfl) (pa_cons (pv 0) (pa_cons pe_int pa_nil))) pa_nil)))))) (pe_def DNext (hr.mono (by decide)) (by rfl) (pa_cons (pv 0) (pa_cons pe_int pa_nil))) (fun _ _ => rfl)))
      (pss_cons (ps_set (i := 2) scLY.nd rfl (.inr rfl) (pe_def DNext (hr.mono (by decide)) (by rfl) (pa_cons (pv 0) (pa_cons pe_int pa_nil))))
      (pss_one (ps_ret (pe_lc (own := [("k", 3)]) (g := (gName 3)) (tt := tYes) (te := (tOp _ (tOp _ (tOp _ (tVar 2) (tOp _ (tC (.int 31)) (tVar 3))) (tOp _ (tVar 3) (tVar 3))) (tC (.int 256)))) rfl scLY.nd (pi_range1 (by rfl) B.rng (pa_cons (pv 1) pa_nil)) (blkOk_by (own := [("k", 3)]) (N := nLY) (sc := defScope sLY) (by decide +kernel)) (fun _ _ _ _ _ => (pg_name (i := 3) scLY.nd rfl (Or.inl rfl))) (fun _ _ _ _ _ => pts_nil) (fun _ _ _ _ _ => (pe_op op_mod (pe_op op_add (pe_op op_add (pv 2) (pe_op op_mul pe_int (pv 3))) (pe_op op_mul (pv 3) (pv 3))) pe_int))))))), ?_⟩
    refine ⟨.ref st, rfl, st, L, 3, rfl, g, by decide, by decide, fun v1 H1 d1 v10 v11 => ⟨49, v1, rfl, rfl, ?_⟩⟩
    refine ⟨.ref st, rfl, st, L, 3, rfl, d1.good, by decide, by decide, fun v2 H2 d2 v20 v21 => ⟨103, v2, rfl, rfl, ?_⟩⟩
    refine ⟨.ref st, rfl, st, L, 401, rfl, d2.good, by decide, by decide, fun v3 H3 d3 v30 v31 => ⟨(by show 5 ≤ sizeLine; exact small6 (by decide)), fun p np => ?_⟩⟩
    generalize hG : upd _ p _ = H4
    obtain ⟨s4, e4⟩ := gen_up hG np
    clear hG
    have d4 := (d1.trans d2).trans (d3.trans (Dr.same d3.good s4))
    refine ⟨.ref st, rfl, st, L, 5, rfl, d4.good, by decide, by decide, fun k H5 d5 k0 k1 => ?_⟩
    have e5 := d5.at_ (fun z => by rw [z] at np; exact d3.good.not_none np) e4
    obtain ⟨z, mz, ez⟩ := lit_int (zs := [0, 1, 49 + v1, 103 + v2, v3]) k0 k1
    refine ⟨p, _, k, .int z, rfl, rfl, SqL.of e5, ez, ?_⟩
    have hz : 0 ≤ z ∧ z ≤ 400 := by
      simp only [List.mem_cons, List.not_mem_nil, or_false] at mz
      rcases mz with rfl | rfl | rfl | rfl | rfl <;> omega
    have d6 := d4.trans d5
    refine ⟨.ref st, rfl, st, L, 256, rfl, d6.good, by decide, by decide, fun s H6 d7 s0 s1 => ?_⟩
    have d8 := d6.trans d7
    refine ⟨.int z, rfl, z, rfl, by omega, by omega, fun D nD => ?_⟩
    refine lc_range (lo := 0) (n := z.toNat) (fun i H' => Same H6 H' ∧ ∃ d : List Int, H' D = some (.lst (d.map V.int)) ∧ d.length = i ∧ Byts d) ⟨same_new nD, [], upd_same, rfl, fun _ m => nomatch m⟩ (fun i H' hi hP => ?_) (fun H' hP => ?_)
    · obtain ⟨sm, d, eD, ld, bd⟩ := hP
      refine ⟨rfl, ?_⟩
      refine iteT (B := True) ?_
      refine ⟨.int s, rfl, .int _, rfl, 31, _, rfl, rfl, .inl ⟨by decide, by decide⟩, s, _, rfl, rfl, .int _, rfl, .int _, rfl, _, _, rfl, rfl, .inl ⟨by omega, by omega⟩, _, _, rfl, rfl, _, 256, rfl, rfl, (by show (0 : Int) < 256; decide), ?_⟩
      refine ⟨_, eD, small7 (by rw [List.length_map]; omega), same_put sm nD, d ++ [_], by rw [upd_same, List.map_append]; rfl, by rw [List.length_append, ld]; rfl, bd.app fun b m => ?_⟩
      rw [List.mem_singleton.mp m]
      exact ⟨Int.emod_nonneg _ (by decide), Int.emod_lt_of_pos _ (by decide)⟩
    · obtain ⟨sm, d, eD, ld, bd⟩ := hP
      exact q D d H' (d8.trans (Dr.same d8.good sm)) (KA.Dr.free d8 nD) eD bd (by omega)
abbrev dLY (P : Program) (w : World) (K : PySem.W.Frag) (mg : Str → Option Value) (base : Heap) : Prop := Def P w K mg base "_law_bytes" 2 ["state"] spLY
abbrev sLP : Stmt := topS 25
abbrev nLP : List Str := ["sector", "place", "data"]
theorem scLP : FnScope nLP ["sector", "place", "data"] (defScope sLP) := ⟨rfl, rfl, rfl, by decide +kernel, rfl, by decide +kernel, by decide +kernel⟩
def spLP : Sp := fun vs H Q _ => ∃ (a b : Addr) (s d : List Int) (n : Nat), vs = [.ref a, .int n, .ref b] ∧ H a = some (.lst (s.map V.int)) ∧ H b = some (.lst (d.map V.int)) ∧ s.length ≤ 10000 ∧ d.length ≤ 10000 ∧ ∀ p H', Same H H' → H p = none → H' p = some (.lst ((put s n d).map V.int)) → Q (.ref p) H'
theorem ok_lp {f : Addr} {fd : FuncData} (F : Fun K "_law_put" "_law_put" sLP f fd) (B : Bt mg) : FnOk P w K mg base CX0 1 f fd ["sector", "place", "data"] spLP := by
  refine F.ok scLP (fun vs H Q E h => ?_) (fun cdv A outer s0 H vs Q E hr h => ?_)
  · obtain ⟨n, k, _, _, _, rfl, _⟩ := h
    rfl
  · obtain ⟨a, b, s, d, n, rfl, ea, eb, l1, l2, q⟩ := h
    refine ⟨_, (pss_one (ps_ret (pe_op op_cat (pe_op op_cat (pe_slice sl_list (pv 0) po_none (po_some (pv 1))) (pv 2)) (pe_slice sl_list (pv 0) (po_some (pe_op op_add (pv 1) (pe_callB call_len_seq (by rfl) B.len PySem.boot_len (pa_cons (pv 2) pa_nil)))) po_none)))), ?_⟩
    refine ⟨.ref a, rfl, .int n, rfl, _, rfl, a, _, rfl, SqL.of ea, fun p1 np1 => ?_⟩
    generalize hG : upd _ p1 _ = H1
    obtain ⟨s1, e1⟩ := gen_up hG np1
    clear hG
    rw [cut_ints_to] at e1
    refine ⟨.ref b, rfl, p1, b, _, _, rfl, rfl, e1, s1 _ _ eb, small6 (by rw [List.length_map, List.length_map, List.length_take]; omega), fun p2 np2 => ?_⟩
    generalize hG : upd _ p2 _ = H2
    obtain ⟨s2, e2⟩ := gen_up hG np2
    clear hG
    rw [cat_eq] at e2
    have s12 := s1.trans s2
    refine ⟨.ref a, rfl, .int n, rfl, .ref b, rfl, b, _, rfl, .inl (SqL.of (s12 _ _ eb)), n, _, rfl, rfl, _, rfl, a, _, rfl, SqL.of (s12 _ _ ea), fun p3 np3 => ?_⟩
    generalize hG : upd _ p3 _ = H3
    obtain ⟨s3, e3⟩ := gen_up hG np3
    clear hG
    have ec := cut_ints_from s (n + d.length)
    rw [Int.natCast_add] at ec
    have e3 : H3 p3 = some (.lst ((s.drop (n + d.length)).map V.int)) := by
      rw [e3, List.length_map]
      exact congrArg (fun z => some (HO.lst z)) ec
    refine ⟨p2, p3, _, _, rfl, rfl, s3 _ _ e2, e3, small6 (by rw [List.length_map, List.length_map, List.length_append, List.length_take, List.length_drop]; omega), fun p4 np4 => ?_⟩
    refine q p4 _ ((s12.trans s3).trans (same_new np4)) ((s12.trans s3).free np4) ?_
    rw [upd_same, cat_eq]
    rfl
abbrev dLP (P : Program) (w : World) (K : PySem.W.Frag) (mg : Str → Option Value) (base : Heap) : Prop := Def P w K mg base "_law_put" 1 ["sector", "place", "data"] spLP
end
end LK

namespace LK
open PySem PySem.Spec PyProof.Rows L2 KA BK
section
theorem tC_q {v : V} {σ : L2.St} {H : Hp} {Q : VK} (h : Q v H) : tC v σ H Q := h
theorem cat_q {H : Hp} {a b : Addr} {xs ys : List Int} {Q : VK} (ea : H a = some (.lst (xs.map V.int))) (eb : H b = some (.lst (ys.map V.int))) (hl : xs.length + ys.length ≤ 1000000) (k : ∀ p H', Same H H' → H p = none → H' p = some (.lst ((xs ++ ys).map V.int)) → Q (.ref p) H') : rCat (.ref a) (.ref b) H Q :=
  ⟨a, b, _, _, rfl, rfl, ea, eb, small6 (by rw [List.length_map, List.length_map]; exact hl), fun p np => k p _ (same_new np) np (by rw [upd_same, List.map_append])⟩
theorem catV_q {H : Hp} {a b : Addr} {xs ys : List V} {Q : VK} (ea : H a = some (.lst xs)) (eb : H b = some (.lst ys)) (hl : xs.length + ys.length ≤ 1000000) (k : ∀ p H', Same H H' → H p = none → H' p = some (.lst (xs ++ ys)) → Q (.ref p) H') : rCat (.ref a) (.ref b) H Q :=
  ⟨a, b, _, _, rfl, rfl, ea, eb, small6 hl, fun p np => k p _ (same_new np) np upd_same⟩
theorem rep_q {H : Hp} {a : Addr} {x : V} {n : Nat} {Q : VK} (ea : H a = some (.lst [x])) (hl : n ≤ 1000000) (k : ∀ p H', Same H H' → H p = none → H' p = some (.lst (List.replicate n x)) → Q (.ref p) H') : rRep (.ref a) (.int (n : Int)) H Q :=
  ⟨a, n, _, rfl, rfl, ea, by omega, by omega, small6 (by show 1 * _ ≤ _; omega), fun p np => k p _ (same_new np) np (by rw [upd_same, rep_one, Int.toNat_natCast])⟩
variable {P : Program} {w : World} {K : PySem.W.Frag} {mg : Str → Option Value} {base : Heap}
theorem sl_q {H : Hp} {a : Addr} {xs ys : List V} {lo hi : Option Int} {Q : VK} (ea : H a = some (.lst xs)) (e : cutV xs lo hi = ys) (k : ∀ p H', Same H H' → H p = none → H' p = some (.lst ys) → Q (.ref p) H') : rSlL K (.ref a) lo hi H Q :=
  ⟨a, xs, rfl, SqL.of ea, fun p np => k p _ (same_new np) np (by rw [upd_same, e])⟩
abbrev sAP : Stmt := topS 28
abbrev nAP : List Str := ["size", "area"]
theorem scAP : FnScope nAP ["size"] (defScope sAP) := ⟨rfl, rfl, rfl, by decide +kernel, rfl, by decide +kernel, by decide +kernel⟩
def spAP : Sp := fun vs H Q _ => ∃ n : Int, vs = [.int n] ∧ ∀ H', Same H H' → Q (.bl true) H'
theorem ok_ap {f : Addr} {fd : FuncData} (F : Fun K "_law_asks_places" "_law_asks_places" sAP f fd) (B : Bt mg) (DAZ : dAZ P w K mg base) (DAS : dAS P w K mg base) (DSM : dSQ P w K mg base) : FnOk P w K mg base CX0 6 f fd ["size"] spAP := by
  refine F.ok scAP (fun vs H Q E h => ?_) (fun cdv A outer s0 H vs Q E hr h => ?_)
  · obtain ⟨n, rfl, _⟩ := h
    rfl
  · obtain ⟨n, rfl, q⟩ := h
    refine ⟨_, (pss_cons (ps_set (i := 1) scAP.nd rfl (.inl rfl) (pe_op op_fdiv (pe_op op_sub (pv 0) pe_int) pe_int))
      (pss_one (ps_ret (pe_def DSM (hr.mono (by decide)) (by rfl) (pa_cons (pe_lst (pa_cons (pe_def DAZ (hr.mono (by decide)) (by rfl) (pa_cons (pv 0) pa_nil)) (pa_cons (pe_def DAS (hr.mono (by decide)) (by rfl) (pa_cons (pv 0) (pa_cons pe_int pa_nil))) (pa_cons (pe_def DAS (hr.mono (by decide)) (by rfl) (pa_cons (pv 0) (pa_cons pe_int pa_nil))) pa_nil)))) (pa_cons (pe_lst (pa_cons (pv 1) (pa_cons pe_int (pa_cons (pe_op op_add pe_int (pv 1)) pa_nil)))) pa_nil)))))), ?_⟩
    refine ⟨.int n, rfl, n, 2, rfl, rfl, _, 2, rfl, rfl, ⟨by decide, by decide⟩, ?_⟩
    refine ⟨.int n, rfl, n, rfl, .int n, rfl, n, 0, rfl, .inl rfl, .int n, rfl, n, 1, rfl, .inr rfl, (by show 3 ≤ sizeLine; exact small6 (by decide)), fun p1 np1 => ?_⟩
    generalize hG : upd _ p1 _ = H1
    obtain ⟨s1, e1⟩ := gen_up hG np1
    clear hG
    refine ⟨.int ((n - 2) / 2), rfl, .int ((n - 2) / 2), rfl, 2, _, rfl, rfl, (by show 3 ≤ sizeLine; exact small6 (by decide)), fun p2 np2 => ?_⟩
    generalize hG : upd _ p2 _ = H2
    obtain ⟨s2, e2⟩ := gen_up hG np2
    clear hG
    have e0 : (2 : Int) + 0 * ((n - 2) / 2) = 2 := by omega
    have e3 : (2 : Int) + 1 * ((n - 2) / 2) = 2 + (n - 2) / 2 := by omega
    rw [e0, e3] at e1
    refine ⟨_, _, .list (intsD [(n - 2) / 2, 2, 2 + (n - 2) / 2]), rfl, IL.dl ⟨p1, rfl, s2 _ _ e1⟩, IL.dl ⟨p2, rfl, e2⟩, okD_ints (by show 3 ≤ 1000000; decide), Nat.le_trans (depth_ints _) (by decide), q H2 (s1.trans s2)⟩
abbrev sAH : Stmt := topS 27
abbrev nAH : List Str := ["state", "turn", "area", "sector", "place", "wrong", "each"]
theorem scAH : FnScope nAH ["state"] (defScope sAH) := ⟨rfl, rfl, rfl, by decide +kernel, rfl, by decide +kernel, by decide +kernel⟩
def spAH : Sp := fun vs H Q _ => ∃ (st L : Addr), vs = [.ref st] ∧ Good st L H ∧ ∀ H', Dr st L H H' → Q (.bl true) H'
theorem ok_ah {f : Addr} {fd : FuncData} (F : Fun K "_law_asks_head" "_law_asks_head" sAH f fd) (B : Bt mg) (DNext : dNext P w K mg base) (DLT : dLT P w K mg base) (DLF : dLF P w K mg base) (DLP : dLP P w K mg base) (DHD : dHD P w K mg base) (DRH : dRH P w K mg base) (DSM : dSQ P w K mg base) : FnOk P w K mg base CX0 6 f fd ["state"] spAH := by
  refine F.ok scAH (fun vs H Q E h => ?_) (fun cdv A outer s0 H vs Q E hr h => ?_)
  · obtain ⟨n, _, rfl, _⟩ := h
    rfl
  · obtain ⟨st, L, rfl, g, q⟩ := h
    refine ⟨_, (pss_cons (ps_set (i := 1) scAH.nd rfl (.inl rfl) (pe_def DLT (hr.mono (by decide)) (by rfl) (pa_cons (pv 0) pa_nil)))
      (pss_cons (ps_set (i := 2) scAH.nd rfl (.inl rfl) (pe_def DNext (hr.mono (by decide)) (by rfl) (pa_cons (pv 0) (pa_cons pe_int pa_nil))))
      (pss_cons (ps_set (i := 3) scAH.nd rfl (.inl rfl) (pe_op op_cat (pe_op op_cat (pe_op op_cat (pe_lst (pa_cons pe_int (pa_cons pe_int (pa_cons pe_int (pa_cons pe_int pa_nil))))) (pe_def DLF (hr.mono (by decide)) (by rfl) (pa_cons (pv 1) (pa_cons pe_int pa_nil)))) (pe_lst (pa_cons (pv 2) pa_nil))) (pe_op op_rep (pe_lst (pa_cons pe_int pa_nil)) pe_int)))
      (pss_cons (ps_if (PW.pt (pw_or (pt_not (pt_val (pe_def DSM (hr.mono (by decide)) (by rfl) (pa_cons (pe_def DHD (hr.mono (by decide)) (by rfl) (pa_cons (pv 1) (pa_cons (pv 2) pa_nil))) (pa_cons (pv 3) pa_nil))))) (pw_or1 (pt_not (pt_val (pe_def DSM (hr.mono (by decide)) (by rfl) (pa_cons (pe_def DRH (hr.mono (by decide)) (by rfl) (pa_cons (pe_callTy call_list_of (by rfl) B.lst (by decide +kernel) (pa_cons (pv 3) pa_nil)) pa_nil)) (pa_cons (pe_tup (pa_cons (pv 1) (pa_cons (pv 2) pa_nil))) pa_nil))))))))
        (pss_one (ps_ret pe_bl))
        pss_nil)
      (pss_cons (ps_set (i := 4) scAH.nd rfl (.inl rfl) (pe_ix ix_list (pe_lst (pa_cons (pe_def DNext (hr.mono (by decide)) (by rfl) (pa_cons (pv 0) (pa_cons pe_int pa_nil))) (pa_cons (pe_op op_add pe_int (pe_def DNext (hr.mono (by decide)) (by rfl) (pa_cons (pv 0) (pa_cons pe_int pa_nil)))) pa_nil))) (pe_def DNext (hr.mono (by decide)) (by rfl) (pa_cons (pv 0) (pa_cons pe_int pa_nil))) (fun _ _ => rfl)))
      (pss_cons (ps_set (i := 5) scAH.nd rfl (.inl rfl) (pe_lst (pa_cons (pe_def DLP (hr.mono (by decide)) (by rfl) (pa_cons (pv 3) (pa_cons (pv 4) (pa_cons (pe_lst (pa_cons (pe_op op_mod (pe_op op_add (pe_op op_add (pe_ix ix_list (pv 3) (pv 4) (fun _ _ => rfl)) pe_int) (pe_def DNext (hr.mono (by decide)) (by rfl) (pa_cons (pv 0) (pa_cons pe_int pa_nil)))) pe_int) pa_nil)) pa_nil)))) (pa_cons (pe_op op_rep (pe_lst (pa_cons pe_int pa_nil)) pe_int) pa_nil))))
      (pss_cons (ps_set (i := 5) scAH.nd rfl (.inl rfl) (pe_op op_cat (pv 5) (pe_lst (pa_cons (pe_def DLP (hr.mono (by decide)) (by rfl) (pa_cons (pv 3) (pa_cons pe_int (pa_cons (pe_lst (pa_cons (pe_op op_add pe_int (pe_def DNext (hr.mono (by decide)) (by rfl) (pa_cons (pv 0) (pa_cons pe_int pa_nil)))) pa_nil)) pa_nil)))) (pa_cons (pe_def DLP (hr.mono (by decide)) (by rfl) (pa_cons (pv 3) (pa_cons pe_int (pa_cons (pe_op op_rep (pe_lst (pa_cons pe_int pa_nil)) pe_int) pa_nil)))) pa_nil)))))
      (pss_one (ps_ret (pe_cmpR (op_eqQ hr.units) (pe_lc (own := [("each", 6)]) (g := (gName 6)) (tt := tYes) (te := (tCall spRH [] E0 (tCons (tVar 6) tNil))) rfl scAH.nd (pi_list (pv 5)) (blkOk_by (own := [("each", 6)]) (N := nAH) (sc := defScope sAH) (by decide +kernel)) (fun _ _ _ _ _ => (pg_name (i := 6) scAH.nd rfl (Or.inl rfl))) (fun _ _ _ _ _ => pts_nil) (fun _ _ _ _ _ => (pe_def DRH (hr.mono (by decide)) (by rfl) (pa_cons (pv 6) pa_nil)))) (pe_lst (pa_cons pe_non (pa_cons pe_non (pa_cons pe_non (pa_cons pe_non pa_nil))))) (nomark _))))))))))), ?_⟩
    refine ⟨.ref st, rfl, st, L, rfl, g, fun t H1 d1 t1 t2 => ?_⟩
    refine ⟨.ref st, rfl, st, L, 2, rfl, d1.good, by decide, by decide, fun a H2 d2 a0 a1 => ?_⟩
    -- the sector
    refine ⟨(by show 4 ≤ sizeLine; exact small6 (by decide)), fun p3 np3 => ?_⟩
    generalize hG : upd _ p3 _ = H3
    obtain ⟨s3, e3⟩ := gen_up hG np3
    clear hG
    refine ⟨.int t, rfl, t, 6, rfl, by omega, by decide, fun p4 H4 s4 n4 e4 => ?_⟩
    refine cat_q (xs := [82, 85, 76, 69]) (s4 _ _ e3) e4 (by rw [fx_len]; decide) fun p5 H5 s5 n5 e5 => ?_
    refine ⟨.int a, rfl, (by show 1 ≤ sizeLine; exact small6 (by decide)), fun p6 np6 => ?_⟩
    generalize hG : upd _ p6 _ = H6
    obtain ⟨s6, e6⟩ := gen_up hG np6
    clear hG
    refine cat_q (ys := [a]) (s6 _ _ e5) e6 (by rw [List.length_append, fx_len]; exact (by decide : 4 + 6 + 1 ≤ 1000000)) fun p7 H7 s7 n7 e7 => ?_
    refine ⟨(by show 1 ≤ sizeLine; exact small6 (by decide)), fun p8 np8 => ?_⟩
    generalize hG : upd _ p8 _ = H8
    obtain ⟨s8, e8⟩ := gen_up hG np8
    clear hG
    refine tC_q ?_
    refine rep_q (n := 53) e8 (by decide) fun p9 H9 s9 n9 e9 => ?_
    refine cat_q (ys := zeros 53) (s9 _ _ (s8 _ _ e7)) (by rw [zeros_map]; exact e9) (by rw [List.length_append, List.length_append, fx_len]; exact (by decide : 4 + 6 + 1 + 53 ≤ 1000000)) fun p10 H10 s10 n10 e10 => ?_
    have esec : H10 p10 = some (.lst ((hd t a).map V.int)) := e10
    have dA : Dr st L H H10 := (d1.trans d2).trans (Dr.same d2.good ((((s3.trans s4).trans s5).trans (s6.trans s7)).trans ((s8.trans s9).trans s10)))
    clear e10 e9 e8 e7 e6 e5 e4 e3 s3 s4 s5 s6 s7 s8 s9 s10 n10 n9 n7 n5 n4
    have t6 : t < 256 ^ 6 := by
      have : (256 : Int) ^ 6 = 281474976710656 := by decide
      have : (2 : Int) ^ 47 = 140737488355328 := by decide
      omega
    have ha : a = 0 ∨ a = 1 := by omega
    -- what they tell
    refine ⟨.int t, rfl, .int a, rfl, t, a, rfl, by omega, fun p11 H11 s11 n11 e11 => ?_⟩
    have e10 := s11 _ _ esec
    refine ⟨.ref p10, rfl, _, _, .list (intsD (hd t a)), rfl, IL.dl ⟨p11, rfl, e11⟩, IL.dl ⟨p10, rfl, e10⟩, okD_ints (by rw [hd_len]; decide), Nat.le_trans (depth_ints _) (by decide), true, rfl, iteF' rfl ?_⟩
    refine ⟨.ref p10, rfl, p10, _, rfl, .inl (SqL.of e10), fun p12 np12 => ?_⟩
    generalize hG : upd _ p12 _ = H12
    obtain ⟨s12, e12⟩ := gen_up hG np12
    clear hG
    refine ⟨p12, hd t a, rfl, e12, by rw [hd_len]; decide, fun v H13 s13 hv => ?_⟩
    rw [rh_hd t1 t6 ha] at hv
    obtain ⟨p13, rfl, e13⟩ := hv
    refine ⟨.int t, rfl, .int a, rfl, (by show 2 ≤ sizeLine; exact small6 (by decide)), fun p14 np14 => ?_⟩
    generalize hG : upd _ p14 _ = H14
    obtain ⟨s14, e14⟩ := gen_up hG np14
    clear hG
    have tt : ∀ {H : Hp} {p : Addr}, H p = some (.tup [.int t, .int a]) → Dl H (.ref p) (.tuple [.int t, .int a]) := fun e => .tup e (.cons (.int t) (.cons (.int a) .nil))
    refine ⟨_, _, .tuple [.int t, .int a], rfl, tt (s14 _ _ e13), tt e14, by rw [okD]; exact ⟨by show 2 ≤ 1000000; decide, okDs_of fun d m => by
      simp only [List.mem_cons, List.not_mem_nil, or_false] at m
      rcases m with rfl | rfl <;> (rw [okD]; trivial)⟩, by show max 0 (max 0 0) + 1 ≤ 4; decide, true, rfl, iteF' rfl ?_⟩
    have sB := (s11.trans s12).trans (s13.trans s14)
    have dB := dA.trans (Dr.same dA.good sB)
    have eB := sB _ _ esec
    clear e14 e13 e12 e11 e10 s11 s12 s13 s14 n11 sB esec
    -- place
    refine ⟨.ref st, rfl, st, L, 4, rfl, dB.good, by decide, by decide, fun x1 H15 d15 x10 x11 => ?_⟩
    refine ⟨.ref st, rfl, st, L, 53, rfl, d15.good, by decide, by decide, fun x2 H16 d16 x20 x21 => ⟨11, x2, rfl, rfl, (by show 2 ≤ sizeLine; exact small6 (by decide)), fun p17 np17 => ?_⟩⟩
    generalize hG : upd _ p17 _ = H17
    obtain ⟨s17, e17⟩ := gen_up hG np17
    clear hG
    have d17 := (d15.trans d16).trans (Dr.same d16.good s17)
    refine ⟨.ref st, rfl, st, L, 2, rfl, d17.good, by decide, by decide, fun k H18 d18 k0 k1 => ?_⟩
    have e18 := d18.at_ (fun z => by rw [z] at np17; exact d16.good.not_none np17) e17
    obtain ⟨pl, mp, ep⟩ := lit_int (zs := [x1, 11 + x2]) k0 k1
    refine ⟨p17, _, k, .int pl, rfl, rfl, SqL.of e18, ep, ?_⟩
    have hpl : 0 ≤ pl ∧ (pl < 4 ∨ 11 ≤ pl) ∧ pl < 64 := by
      simp only [List.mem_cons, List.not_mem_nil, or_false] at mp
      rcases mp with rfl | rfl <;> omega
    obtain ⟨n, rfl⟩ : ∃ n : Nat, pl = n := ⟨pl.toNat, by omega⟩
    have hn : n < 4 ∨ 11 ≤ n := by omega
    have hn2 : n < 64 := by omega
    have gB := dB.good
    have dC := d17.trans d18
    have eC := dC.at_ (gB.ne_ints eB) eB
    clear e18 e17 ep mp
    -- wrong
    obtain ⟨b, hb⟩ : ∃ b, (hd t a)[n]? = some b := ⟨_, List.getElem?_eq_getElem (by rw [hd_len]; exact hn2)⟩
    have bb := hd_bytes (t := t) (a := a) ⟨a0, by omega⟩ b (List.mem_of_getElem? hb)
    refine ⟨.ref p10, rfl, .int n, rfl, ?_⟩
    refine ⟨.ref p10, rfl, .int n, rfl, p10, _, n, .int b, rfl, rfl, SqL.of eC, atI_nat (by rw [List.getElem?_map, hb]; rfl), b, 1, rfl, rfl, ?_⟩
    refine ⟨.ref st, rfl, st, L, 255, rfl, dC.good, by decide, by decide, fun r H19 d19 r0 r1 => ⟨_, r, rfl, rfl, _, 256, rfl, rfl, (by show (0 : Int) < 256; decide), (by show 1 ≤ sizeLine; exact small6 (by decide)), fun p20 np20 => ?_⟩⟩
    generalize hG : upd _ p20 _ = H20
    obtain ⟨s20, e20⟩ := gen_up hG np20
    clear hG
    obtain ⟨w1, w2, w3⟩ := bad_byte bb.1 bb.2 r0 r1
    have e19 := d19.at_ (dC.good.ne_ints eC) eC
    refine ⟨p10, p20, hd t a, [(b + 1 + r) % 256], n, rfl, s20 _ _ e19, e20, by rw [hd_len]; decide, by show 1 ≤ 10000; decide, fun p21 H21 s21 n21 e21 => ?_⟩
    refine ⟨(by show 1 ≤ sizeLine; exact small6 (by decide)), fun p22 np22 => ?_⟩
    generalize hG : upd _ p22 _ = H22
    obtain ⟨s22, e22⟩ := gen_up hG np22
    clear hG
    refine tC_q ?_
    refine rep_q (n := 64) e22 (by decide) fun p23 H23 s23 n23 e23 => ?_
    refine ⟨(by show 2 ≤ sizeLine; exact small6 (by decide)), fun p24 np24 => ?_⟩
    generalize hG : upd _ p24 _ = H24
    obtain ⟨s24, e24⟩ := gen_up hG np24
    clear hG
    have s1924 := ((s20.trans s21).trans (s22.trans s23)).trans s24
    have e24s := s1924 _ _ e19
    have dD := (dC.trans d19).trans (Dr.same d19.good s1924)
    have w0 : Ils H24 [.ref p21, .ref p23] [put (hd t a) n [(b + 1 + r) % 256], zeros 64] := .cons ⟨p21, rfl, s24 _ _ (s23 _ _ (s22 _ _ e21))⟩ (.one ⟨p23, rfl, by rw [zeros_map]; exact s24 _ _ e23⟩)
    clear e23 e22 e21 e20
    refine ⟨.ref p24, rfl, .ref p10, rfl, .ref st, rfl, st, L, 254, rfl, dD.good, by decide, by decide, fun y H25 d25 y0 y1 => ⟨2, y, rfl, rfl, (by show 1 ≤ sizeLine; exact small6 (by decide)), fun p26 np26 => ?_⟩⟩
    generalize hG : upd _ p26 _ = H26
    obtain ⟨s26, e26⟩ := gen_up hG np26
    clear hG
    have e25 := d25.at_ (dD.good.ne_ints e24s) e24s
    have e25w := d25.at_ (dD.good.ne_ils e24 w0) e24
    have w1' := w0.dr dD.good d25
    refine ⟨p10, p26, hd t a, [2 + y], 10, rfl, s26 _ _ e25, e26, by rw [hd_len]; decide, by show 1 ≤ 10000; decide, fun p27 H27 s27 n27 e27 => ?_⟩
    refine ⟨.ref p10, rfl, (by show 1 ≤ sizeLine; exact small6 (by decide)), fun p28 np28 => ?_⟩
    generalize hG : upd _ p28 _ = H28
    obtain ⟨s28, e28⟩ := gen_up hG np28
    clear hG
    refine tC_q ?_
    refine rep_q (n := 6) e28 (by decide) fun p29 H29 s29 n29 e29 => ?_
    refine ⟨p10, p29, hd t a, zeros 6, 4, rfl, s29 _ _ (s28 _ _ (s27 _ _ (s26 _ _ e25))), by rw [zeros_map]; exact e29, by rw [hd_len]; decide, by decide, fun p30 H30 s30 n30 e30 => ?_⟩
    refine ⟨(by show 2 ≤ sizeLine; exact small6 (by decide)), fun p31 np31 => ?_⟩
    generalize hG : upd _ p31 _ = H31
    obtain ⟨s31, e31⟩ := gen_up hG np31
    clear hG
    have s2531 := ((s26.trans s27).trans (s28.trans s29)).trans (s30.trans s31)
    refine catV_q (s2531 _ _ e25w) e31 (by show 2 + 2 ≤ 1000000; decide) fun p32 H32 s32 n32 e32 => ?_
    have dE := (dD.trans d25).trans (Dr.same d25.good (s2531.trans s32))
    have W : Ils H32 ([.ref p21, .ref p23] ++ [.ref p27, .ref p30]) ([put (hd t a) n [(b + 1 + r) % 256], zeros 64] ++ [put (hd t a) 10 [2 + y], put (hd t a) 4 (zeros 6)]) := (w1'.mono (s2531.trans s32)).app (.cons ⟨p27, rfl, s32 _ _ (s31 _ _ (s30 _ _ (s29 _ _ (s28 _ _ e27))))⟩ (.one ⟨p30, rfl, s32 _ _ (s31 _ _ e30)⟩))
    have W : Ils H32 [.ref p21, .ref p23, .ref p27, .ref p30] [put (hd t a) n [(b + 1 + r) % 256], zeros 64, put (hd t a) 10 [2 + y], put (hd t a) 4 (zeros 6)] := W
    have e32 : H32 p32 = some (.lst [.ref p21, .ref p23, .ref p27, .ref p30]) := e32
    have none4 : ∀ s ∈ [put (hd t a) n [(b + 1 + r) % 256], zeros 64, put (hd t a) 10 [2 + y], put (hd t a) 4 (zeros 6)], rh s = none := by
      intro s m
      simp only [List.mem_cons, List.not_mem_nil, or_false] at m
      rcases m with rfl | rfl | rfl | rfl
      · exact wrong_head hn hn2 hb w1
      · exact zero_head rfl
      · exact wrong_area (by omega)
      · exact wrong_zero
    have len4 : ∀ s ∈ [put (hd t a) n [(b + 1 + r) % 256], zeros 64, put (hd t a) 10 [2 + y], put (hd t a) 4 (zeros 6)], s.length ≤ 100000 := by
      intro s m
      have lh := hd_len t a
      simp only [List.mem_cons, List.not_mem_nil, or_false] at m
      rcases m with rfl | rfl | rfl | rfl
      · rw [put1_len (by omega)]; omega
      · decide
      · rw [put1_len (by omega)]; omega
      · unfold put zeros
        rw [List.length_append, List.length_append, List.length_take, List.length_drop, List.length_replicate]
        omega
    generalize [put (hd t a) n [(b + 1 + r) % 256], zeros 64, put (hd t a) 10 [2 + y], put (hd t a) 4 (zeros 6)] = S4 at W none4 len4
    have l4 : S4.length = 4 := W.length.symm
    refine ⟨.ref p32, rfl, p32, rfl, ⟨_, SqL.of e32⟩, fun D nD => ?_⟩
    refine lc_list (K := K) (a := p32) (xs := [.ref p21, .ref p23, .ref p27, .ref p30]) (fun i H' => Same H32 H' ∧ H' D = some (.lst (List.replicate i .non))) ⟨same_new nD, upd_same⟩ (fun i H' _ hP => SqL.of (hP.1 _ _ e32)) (fun i x Hi hx hP => ?_) (fun H' hP => ?_)
    · obtain ⟨sm, eD⟩ := hP
      obtain ⟨s, es, p, rfl, ep⟩ := W.get hx
      refine ⟨rfl, ?_⟩
      refine iteT (B := True) ?_
      refine ⟨.ref p, rfl, p, s, rfl, sm _ _ ep, len4 s (List.mem_of_getElem? es), fun v H' s' hv => ?_⟩
      rw [none4 s (List.mem_of_getElem? es)] at hv
      cases hv
      have hi : i < 4 := by
        have := (List.getElem?_eq_some_iff.mp es).1
        omega
      refine ⟨_, s' _ _ eD, small7 (by rw [List.length_replicate]; omega), same_put (sm.trans s') nD, ?_⟩
      rw [upd_same, ← List.replicate_succ']
    · obtain ⟨sm, eD⟩ := hP
      refine ⟨(by show 4 ≤ sizeLine; exact small6 (by decide)), fun p33 np33 => ?_⟩
      generalize hG : upd _ p33 _ = H33
      obtain ⟨s33, e33⟩ := gen_up hG np33
      clear hG
      have nn : Dls H33 [.non, .non, .non, .non] [.none, .none, .none, .none] := .cons .non (.cons .non (.cons .non (.cons .non .nil)))
      refine ⟨.list [.none, .none, .none, .none], .list [.none, .none, .none, .none], .lst (s33 _ _ eD) nn, .lst e33 nn, by show max 0 (max 0 (max 0 (max 0 0))) + 1 ≤ 64; decide, ?_⟩
      exact q H33 (((dB.trans dE)).trans (Dr.same (dB.trans dE).good (sm.trans s33)))
abbrev dAP (P : Program) (w : World) (K : PySem.W.Frag) (mg : Str → Option Value) (base : Heap) : Prop := Def P w K mg base "_law_asks_places" 6 ["size"] spAP
abbrev dAH (P : Program) (w : World) (K : PySem.W.Frag) (mg : Str → Option Value) (base : Heap) : Prop := Def P w K mg base "_law_asks_head" 6 ["state"] spAH
end
end LK

namespace LK
open PySem PySem.Spec PyProof.Rows L2 KA BK
/-- what is known while one draws: lists of lists, lists -/
structure En (st L : Addr) (H0 H : Hp) (fs : List (Addr × List (List Int))) (gs : List (Addr × List Int)) : Prop where
  dr : Dr st L H0 H
  ll : ∀ f ∈ fs, LL H (.ref f.1) f.2
  il : ∀ f ∈ gs, IL H (.ref f.1) f.2
theorem En.to {st L : Addr} {H0 H H' : Hp} {fs : List (Addr × List (List Int))} {gs : List (Addr × List Int)} (e : En st L H0 H fs gs) (d : Dr st L H H') : En st L H0 H' fs gs :=
  ⟨e.dr.trans d, fun f m => (e.ll f m).dr e.dr.good d, fun f m => (e.il f m).dr e.dr.good d⟩
theorem En.same {st L : Addr} {H0 H H' : Hp} {fs : List (Addr × List (List Int))} {gs : List (Addr × List Int)} (e : En st L H0 H fs gs) (s : Same H H') : En st L H0 H' fs gs := e.to (Dr.same e.dr.good s)
theorem En.good {st L : Addr} {H0 H : Hp} {fs : List (Addr × List (List Int))} {gs : List (Addr × List Int)} (e : En st L H0 H fs gs) : Good st L H := e.dr.good
theorem En.addL {st L p : Addr} {H0 H : Hp} {ss : List (List Int)} {fs : List (Addr × List (List Int))} {gs : List (Addr × List Int)} (e : En st L H0 H fs gs) (h : LL H (.ref p) ss) : En st L H0 H ((p, ss) :: fs) gs :=
  ⟨e.dr, fun f m => (List.mem_cons.mp m).elim (fun z => by rw [z]; exact h) (e.ll f), e.il⟩
theorem En.addI {st L p : Addr} {H0 H : Hp} {ns : List Int} {fs : List (Addr × List (List Int))} {gs : List (Addr × List Int)} (e : En st L H0 H fs gs) (h : IL H (.ref p) ns) : En st L H0 H fs ((p, ns) :: gs) :=
  ⟨e.dr, e.ll, fun f m => (List.mem_cons.mp m).elim (fun z => by rw [z]; exact h) (e.il f)⟩
theorem _root_.KA.Ils.rep {H : Hp} {vs : List V} {ds : List (List Int)} (h : Ils H vs ds) (n : Nat) : Ils H (List.replicate n vs).flatten (List.replicate n ds).flatten := by
  induction n with
  | zero => exact .nil
  | succ n ih =>
    rw [List.replicate_succ, List.replicate_succ, List.flatten_cons, List.flatten_cons]
    exact h.app ih
theorem repL_q {H : Hp} {a : Addr} {xs : List V} {n : Nat} {Q : VK} (ea : H a = some (.lst xs)) (hl : n * xs.length ≤ 1000000) (hn : n ≤ 1000000) (k : ∀ p H', Same H H' → H p = none → H' p = some (.lst (List.replicate n xs).flatten) → Q (.ref p) H') : rRep (.ref a) (.int (n : Int)) H Q :=
  ⟨a, n, _, rfl, rfl, ea, by omega, by omega, small6 (by rw [Int.toNat_natCast, Nat.mul_comm]; exact hl), fun p np => k p _ (same_new np) np (by rw [upd_same, Int.toNat_natCast])⟩
theorem rep_mem {α : Type} {x : α} {ds : List α} {n : Nat} (h : x ∈ (List.replicate n ds).flatten) : x ∈ ds := by
  obtain ⟨l, hl, hx⟩ := List.mem_flatten.mp h
  rw [(List.mem_replicate.mp hl).2] at hx
  exact hx
theorem rep_length {α : Type} (ds : List α) (n : Nat) : ((List.replicate n ds).flatten).length = n * ds.length := by
  induction n with
  | zero => simp
  | succ n ih => rw [List.replicate_succ, List.flatten_cons, List.length_append, ih, Nat.succ_mul, Nat.add_comm]
theorem ixN_n {n j : Nat} (hj : j < n) : ixN n (j : Int) = some j := by
  unfold ixN
  rw [if_pos (by omega), if_pos (by omega)]
  simp
/-- a list of ints is no list of lists -/
theorem ne_il {H : Hp} {q p : Addr} {zs : List V} {ns : List Int} {r : Addr} (h : H q = some (.lst (ns.map V.int))) (e : H p = some (.lst zs)) (hz : zs[0]? = some (.ref r)) : q ≠ p := fun z => by
  subst z
  rw [h] at e
  have e := HO.lst.inj (Option.some.inj e)
  rw [← e, List.getElem?_map] at hz
  obtain ⟨_, _, z⟩ := Option.map_eq_some_iff.mp hz
  cases z
theorem _root_.KA.LL.upd' {H : Hp} {p D r : Addr} {o : HO} {zs : List V} {ss : List (List Int)} (h : LL H (.ref p) ss) (np : p ≠ D) (e : H D = some (.lst zs)) (hz : zs[0]? = some (.ref r)) : LL (L2.upd H D o) (.ref p) ss := by
  obtain ⟨p', xs, z, ep, rr⟩ := h
  cases z
  refine ⟨p, xs, rfl, by rw [upd_ne np]; exact ep, rr.upd fun q m => ?_⟩
  obtain ⟨i, hi⟩ := List.getElem?_of_mem m
  obtain ⟨ns, _, q', eq', eq2⟩ := rr.get hi
  cases eq'
  exact ne_il eq2 e hz
theorem _root_.KA.Ils.set {H : Hp} {vs : List V} {ds : List (List Int)} {v : V} {n : List Int} (h : Ils H vs ds) : ∀ (k : Nat), IL H v n → Ils H (vs.set k v) (ds.set k n) := by
  induction h with
  | nil => intro k _; exact .nil
  | cons a r ih =>
    intro k hv
    cases k with
    | zero => exact .cons hv r
    | succ k => exact .cons a (ih k hv)
theorem noP_q {σ : L2.St} {H : Hp} {k : Option Int → Hp → Prop} (h : k none H) : tNoPart σ H k := h
section
variable {P : Program} {w : World} {K : PySem.W.Frag} {mg : Str → Option Value} {base : Heap}
/-- a list at p is written; all that is not p stays -/
theorem _root_.KA.LL.upd {H : Hp} {p D : Addr} {o : HO} {ss : List (List Int)} (h : LL H (.ref p) ss) (np : p ≠ D) (hn : ∀ xs, H p = some (.lst xs) → ∀ q, V.ref q ∈ xs → q ≠ D) : LL (L2.upd H D o) (.ref p) ss := by
  obtain ⟨p', xs, e, ep, r⟩ := h
  cases e
  exact ⟨p, xs, rfl, by rw [upd_ne np]; exact ep, r.upd (hn xs ep)⟩
/-- readable: the block's data, whatever follows -/
structure Rdb (t : Int) (d : List Int) (S : List (List Int)) : Prop where
  rd : ∀ rest, rb (S ++ rest) t = some (d, ((cnt d : Nat) : Int))
  ok : ∀ s ∈ S, Byts s ∧ s.length ≤ 100
  ln : S.length ≤ 100
abbrev sAB : Stmt := topS 26
abbrev nAB : List Str := ["state", "turn", "data", "block", "passed", "others", "sectors", "behind", "each", "told", "place", "at", "wrong", "spoilt", "more", "sector"]
theorem scAB : FnScope nAB ["state"] (defScope sAB) := ⟨rfl, rfl, rfl, by decide +kernel, rfl, by decide +kernel, by decide +kernel⟩
def spAB : Sp := fun vs H Q _ => ∃ (st L : Addr), vs = [.ref st] ∧ Good st L H ∧ ∀ H', Dr st L H H' → Q (.bl true) H'
theorem ok_ab {f : Addr} {fd : FuncData} (F : Fun K "_law_asks_block" "_law_asks_block" sAB f fd) (B : Bt mg) (DNext : dNext P w K mg base) (DLT : dLT P w K mg base) (DLF : dLF P w K mg base) (DLP : dLP P w K mg base) (DLY : dLY P w K mg base) (DLB : dLB P w K mg base) (DWB : dWB P w K mg base) (DRB : dRB P w K mg base) (DSM : dSQ P w K mg base) : FnOk P w K mg base CX0 6 f fd ["state"] spAB := by
  refine F.ok scAB (fun vs H Q E h => ?_) (fun cdv A outer s0 H vs Q E hr h => ?_)
  · obtain ⟨n, _, rfl, _⟩ := h
    rfl
  · obtain ⟨st, L, rfl, g, q⟩ := h
    refine ⟨_, (pss_cons (ps_set (i := 1) scAB.nd rfl (.inr rfl) (pe_def DLT (hr.mono (by decide)) (by rfl) (pa_cons (pv 0) pa_nil)))
      (pss_cons (ps_set (i := 2) scAB.nd rfl (.inl rfl) (pe_def DLY (hr.mono (by decide)) (by rfl) (pa_cons (pv 0) pa_nil)))
      (pss_cons (ps_set (i := 3) scAB.nd rfl (.inl rfl) (pe_def DLB (hr.mono (by decide)) (by rfl) (pa_cons (pv 1) (pa_cons (pv 2) pa_nil))))
      (pss_cons (ps_set (i := 4) scAB.nd rfl (.inl rfl) (pe_callTy call_list_of (by rfl) B.lst (by decide +kernel) (pa_cons (pv 2) pa_nil)))
      (pss_cons (ps_if (PW.pt (pw_or (pt_not (pt_val (pe_def DSM (hr.mono (by decide)) (by rfl) (pa_cons (pe_def DWB (hr.mono (by decide)) (by rfl) (pa_cons (pv 1) (pa_cons (pv 4) pa_nil))) (pa_cons (pv 3) pa_nil))))) (pw_or1 (pt_cmpR (op_neQ hr.units) (pv 4) (pv 2) (nomark _)))))
        (pss_one (ps_ret pe_bl))
        pss_nil)
      (pss_cons (ps_set (i := 5) scAB.nd rfl (.inl rfl) (pe_def DLB (hr.mono (by decide)) (by rfl) (pa_cons (pe_ix ix_list (pe_lst (pa_cons (pv 1) (pa_cons (pe_op op_add (pv 1) pe_int) pa_nil))) (pe_def DNext (hr.mono (by decide)) (by rfl) (pa_cons (pv 0) (pa_cons pe_int pa_nil))) (fun _ _ => rfl)) (pa_cons (pe_def DLY (hr.mono (by decide)) (by rfl) (pa_cons (pv 0) pa_nil)) pa_nil))))
      (pss_cons (ps_set (i := 6) scAB.nd rfl (.inl rfl) (pe_op op_cat (pe_slice sl_list (pv 3) po_none (po_some pe_int)) (pe_lc (own := [("sector", 15)]) (g := (gName 15)) (tt := tYes) (te := (tCall spLP [] E0 (tCons (tVar 15) (tCons (tC (.int 6)) (tCons (tCall spLF [] E0 (tCons (tCall spNext [] E0 (tCons (tVar 0) (tCons (tOp _ (tC (.int 2)) (tC (.int 32))) tNil))) (tCons (tC (.int 4)) tNil))) tNil))))) rfl scAB.nd (pi_list (pe_slice sl_list (pv 3) (po_some pe_int) po_none)) (blkOk_by (own := [("sector", 15)]) (N := nAB) (sc := defScope sAB) (by decide +kernel)) (fun _ _ _ _ _ => (pg_name (i := 15) scAB.nd rfl (Or.inl rfl))) (fun _ _ _ _ _ => pts_nil) (fun _ _ _ _ _ => (pe_def DLP (hr.mono (by decide)) (by rfl) (pa_cons (pv 15) (pa_cons pe_int (pa_cons (pe_def DLF (hr.mono (by decide)) (by rfl) (pa_cons (pe_def DNext (hr.mono (by decide)) (by rfl) (pa_cons (pv 0) (pa_cons (pe_op op_pow pe_int pe_int) pa_nil))) (pa_cons pe_int pa_nil))) pa_nil))))))))
      (pss_cons (ps_set (i := 7) scAB.nd rfl (.inl rfl) (pe_op op_sub (pe_op op_sub (pe_op op_mul pe_int (pe_callB call_len_seq (by rfl) B.len PySem.boot_len (pa_cons (pv 3) pa_nil))) pe_int) (pe_callB call_len_seq (by rfl) B.len PySem.boot_len (pa_cons (pv 2) pa_nil))))
      (C8.pss_cut (ps_if (pt_cmpR op_gt (pv 7) pe_int (nomark _))
        (pss_one (ps_asg (pe_op op_cat (pe_slice sl_list (pe_ix ix_list (pv 6) (pe_op op_sub (pe_callB call_len_seq (by rfl) B.len PySem.boot_len (pa_cons (pv 6) pa_nil)) pe_int) (fun _ _ => rfl)) po_none (po_some (pe_op op_sub pe_int (pv 7)))) (pe_op op_rep (pe_lst (pa_cons (pe_def DNext (hr.mono (by decide)) (by rfl) (pa_cons (pv 0) (pa_cons pe_int pa_nil))) pa_nil)) (pv 7))) (pg_sub (pv 6) (pe_op op_sub (pe_callB call_len_seq (by rfl) B.len PySem.boot_len (pa_cons (pv 6) pa_nil)) pe_int) set_list)))
        pss_nil)
      (pss_cons (ps_for PassesOwn.never rfl (pi_list (pe_lst (pa_cons (pv 3) (pa_cons (pv 6) pa_nil)))) (pg_name (i := 8) scAB.nd rfl (Or.inl rfl))
        (pss_cons (ps_set (i := 9) scAB.nd rfl (.inl rfl) (pe_def DRB (hr.mono (by decide)) (by rfl) (pa_cons (pe_op op_cat (pe_op op_cat (pv 8) (pe_op op_rep (pv 5) (pe_def DNext (hr.mono (by decide)) (by rfl) (pa_cons (pv 0) (pa_cons pe_int pa_nil))))) (pe_op op_rep (pe_lst (pa_cons (pe_op op_rep (pe_lst (pa_cons pe_int pa_nil)) pe_int) pa_nil)) (pe_def DNext (hr.mono (by decide)) (by rfl) (pa_cons (pv 0) (pa_cons pe_int pa_nil))))) (pa_cons (pv 1) pa_nil))))
        (pss_one (ps_if (pt_not (pt_val (pe_def DSM (hr.mono (by decide)) (by rfl) (pa_cons (pv 9) (pa_cons (pe_tup (pa_cons (pv 2) (pa_cons (pe_callB call_len_seq (by rfl) B.len PySem.boot_len (pa_cons (pv 3) pa_nil)) pa_nil))) pa_nil)))))
          (pss_one (ps_ret pe_bl))
          pss_nil))))
      (pss_cons (ps_if (PW.pt (pw_or (pt_cmpR op_notN (pe_def DRB (hr.mono (by decide)) (by rfl) (pa_cons (pe_op op_cat (pv 3) (pv 5)) (pa_cons (pe_op op_add (pv 1) pe_int) pa_nil))) pe_non (nomark _)) (pw_or1 (pt_cmpR op_notN (pe_def DRB (hr.mono (by decide)) (by rfl) (pa_cons (pe_lst pa_nil) (pa_cons (pv 1) pa_nil))) pe_non (nomark _)))))
        (pss_one (ps_ret pe_bl))
        pss_nil)
      (pss_cons (ps_set (i := 10) scAB.nd rfl (.inl rfl) (pe_def DNext (hr.mono (by decide)) (by rfl) (pa_cons (pv 0) (pa_cons (pe_callB call_len_seq (by rfl) B.len PySem.boot_len (pa_cons (pv 3) pa_nil)) pa_nil))))
      (pss_cons (ps_set (i := 11) scAB.nd rfl (.inl rfl) (pe_def DNext (hr.mono (by decide)) (by rfl) (pa_cons (pv 0) (pa_cons pe_int pa_nil))))
      (pss_cons (ps_set (i := 12) scAB.nd rfl (.inl rfl) (pe_def DLP (hr.mono (by decide)) (by rfl) (pa_cons (pe_ix ix_list (pv 3) (pv 10) (fun _ _ => rfl)) (pa_cons (pv 11) (pa_cons (pe_lst (pa_cons (pe_op op_mod (pe_op op_add (pe_op op_add (pe_ix ix_list (pe_ix ix_list (pv 3) (pv 10) (fun _ _ => rfl)) (pv 11) (fun _ _ => rfl)) pe_int) (pe_def DNext (hr.mono (by decide)) (by rfl) (pa_cons (pv 0) (pa_cons pe_int pa_nil)))) pe_int) pa_nil)) pa_nil)))))
      (pss_cons (ps_set (i := 13) scAB.nd rfl (.inl rfl) (pe_lst (pa_cons (pe_op op_cat (pe_op op_cat (pe_slice sl_list (pv 3) po_none (po_some (pv 10))) (pe_lst (pa_cons (pv 12) pa_nil))) (pe_slice sl_list (pv 3) (po_some (pe_op op_add (pv 10) pe_int)) po_none)) (pa_cons (pe_slice sl_list (pv 3) po_none (po_some (pe_op op_sub (pe_callB call_len_seq (by rfl) B.len PySem.boot_len (pa_cons (pv 3) pa_nil)) pe_int))) pa_nil))))
      (pss_cons (ps_set (i := 14) scAB.nd rfl (.inl rfl) (pe_def DLF (hr.mono (by decide)) (by rfl) (pa_cons (pe_op op_add (pe_op op_sub (pe_op op_mul pe_int (pe_callB call_len_seq (by rfl) B.len PySem.boot_len (pa_cons (pv 3) pa_nil))) pe_int) (pe_def DNext (hr.mono (by decide)) (by rfl) (pa_cons (pv 0) (pa_cons pe_int pa_nil)))) (pa_cons pe_int pa_nil))))
      (pss_cons (ps_set (i := 13) scAB.nd rfl (.inl rfl) (pe_op op_cat (pv 13) (pe_lst (pa_cons (pe_op op_cat (pe_lst (pa_cons (pe_def DLP (hr.mono (by decide)) (by rfl) (pa_cons (pe_ix ix_list (pv 3) pe_int (fun _ _ => rfl)) (pa_cons pe_int (pa_cons (pv 14) pa_nil)))) pa_nil)) (pe_slice sl_list (pv 3) (po_some pe_int) po_none)) (pa_cons (pe_op op_cat (pe_lst (pa_cons (pe_def DLP (hr.mono (by decide)) (by rfl) (pa_cons (pe_ix ix_list (pv 3) pe_int (fun _ _ => rfl)) (pa_cons pe_int (pa_cons (pe_lst (pa_cons pe_int (pa_cons pe_int (pa_cons pe_int (pa_cons pe_int pa_nil))))) pa_nil)))) pa_nil)) (pe_slice sl_list (pv 3) (po_some pe_int) po_none)) pa_nil)))))
      (pss_one (ps_ret (pe_cmpR (op_eqQ hr.units) (pe_lc (own := [("each", 8)]) (g := (gName 8)) (tt := tYes) (te := (tCall spRB [] E0 (tCons (tVar 8) (tCons (tVar 1) tNil)))) rfl scAB.nd (pi_list (pv 13)) (blkOk_by (own := [("each", 8)]) (N := nAB) (sc := defScope sAB) (by decide +kernel)) (fun _ _ _ _ _ => (pg_name (i := 8) scAB.nd rfl (Or.inl rfl))) (fun _ _ _ _ _ => pts_nil) (fun _ _ _ _ _ => (pe_def DRB (hr.mono (by decide)) (by rfl) (pa_cons (pv 8) (pa_cons (pv 1) pa_nil))))) (pe_lst (pa_cons pe_non (pa_cons pe_non (pa_cons pe_non (pa_cons pe_non pa_nil))))) (nomark _))))))))))))))))))))), ?_⟩
    refine ⟨.ref st, rfl, st, L, rfl, g, fun t H1 d1 t1 t2 => ?_⟩
    have t0 : 0 ≤ t := by omega
    have t6 : t < 256 ^ 6 := by
      have : (256 : Int) ^ 6 = 281474976710656 := by decide
      have : (2 : Int) ^ 47 = 140737488355328 := by decide
      omega
    refine ⟨.ref st, rfl, st, L, rfl, d1.good, fun pd d H2 d2 n2 e2 bd ld => ?_⟩
    have hd : d.length ≤ 10000 := by omega
    have hc : cnt d ≤ 20 := by unfold BK.cnt; rw [held_len]; omega
    have c1 := cnt_pos d
    have lb := blk_len t d
    have bS : ∀ s ∈ blk t d, Byts s ∧ s.length ≤ 100 := fun s m => ⟨(var_blk bd).byt s m, by rw [(var_blk bd).ln s m]; decide⟩
    have E2 : En st L H H2 [] [(pd, d)] := ⟨d1.trans d2, (fun _ m => nomatch m), fun f m => by rw [List.mem_singleton.mp m]; exact ⟨pd, rfl, e2⟩⟩
    refine ⟨.int t, rfl, .ref pd, rfl, t, pd, d, rfl, e2, t0, by omega, fun pb H3 s3 n3 l3 => ?_⟩
    have E3 := (E2.same s3).addL l3
    clear E2 e2 l3
    have gD : ∀ {H'}, En st L H H' [(pb, blk t d)] [(pd, d)] → H' pd = some (.lst (d.map V.int)) := fun e => by
      obtain ⟨p, z, e⟩ := e.il (pd, d) (List.mem_singleton.mpr rfl)
      cases z
      exact e
    refine ⟨.ref pd, rfl, pd, _, rfl, .inl (SqL.of (gD E3)), fun pp npp => ?_⟩
    generalize hG : upd _ pp _ = H4
    obtain ⟨s4, e4⟩ := gen_up hG npp
    clear hG
    have E4 := E3.same s4
    clear E3
    -- write_block
    refine ⟨.int t, rfl, .ref pp, rfl, t, pp, d, rfl, e4, t0, by omega, fun pw H5 s5 n5 l5 => ?_⟩
    have E5 := E4.same s5
    refine ⟨.ref pb, rfl, _, _, .list ((blk t d).map fun ns => PyData.list (intsD ns)), rfl, l5.dl, (E5.ll (pb, blk t d) (List.mem_singleton.mpr rfl)).dl, okD_lls (by omega) (fun ns m => Nat.le_trans (bS ns m).2 (by decide)), Nat.le_trans (depth_lls _) (by decide), true, rfl, iteF' rfl ?_⟩
    refine ⟨.ref pp, rfl, .ref pd, rfl, _, _, .lst (s5 _ _ e4) (dls_ints d), .lst (gD E5) (dls_ints d), Nat.le_trans (depth_ints d) (by decide), _, rfl, iteF' (by rw [eqv_il, decide_eq_true rfl]; rfl) ?_⟩
    clear E4 l5 e4 s4 npp
    -- others
    refine ⟨.int t, rfl, .int t, rfl, t, 1, rfl, rfl, (by show 2 ≤ sizeLine; exact small6 (by decide)), fun p6 np6 => ?_⟩
    generalize hG : upd _ p6 _ = H6
    obtain ⟨s6, e6⟩ := gen_up hG np6
    clear hG
    have E6 := E5.same s6
    refine ⟨.ref st, rfl, st, L, 2, rfl, E6.good, by decide, by decide, fun k H7 d7 k0 k1 => ?_⟩
    have E7 := E6.to d7
    have e7 := d7.at_ (fun z => by rw [z] at np6; exact E5.good.not_none np6) e6
    obtain ⟨z, mz, ez⟩ := lit_int (zs := [t, t + 1]) k0 k1
    refine ⟨p6, _, k, .int z, rfl, rfl, SqL.of e7, ez, ?_⟩
    have hz : 0 ≤ z := by
      simp only [List.mem_cons, List.not_mem_nil, or_false] at mz
      rcases mz with rfl | rfl <;> omega
    refine ⟨.ref st, rfl, st, L, rfl, E7.good, fun po od H8 d8 n8 e8 bo lo => ?_⟩
    have E8 := E7.to d8
    refine ⟨z, po, od, rfl, e8, hz, by omega, fun pr H9 s9 n9 l9 => ?_⟩
    have E9 := (E8.same s9)
    have oS : ∀ s ∈ blk z od, Byts s ∧ s.length ≤ 100 := fun s m => ⟨(var_blk bo).byt s m, by rw [(var_blk bo).ln s m]; decide⟩
    have lo20 : (blk z od).length ≤ 20 := by rw [blk_len]; unfold BK.cnt; rw [held_len]; omega
    generalize blk z od = OS at l9 oS lo20
    clear E5 E6 E7 E8 e7 e8 ez mz e6
    -- sectors
    have bB : ∀ {H'}, En st L H H' [(pb, blk t d)] [(pd, d)] → LL H' (.ref pb) (blk t d) := fun e => e.ll (pb, blk t d) (List.mem_singleton.mpr rfl)
    obtain ⟨_, xs, z, eb9, rb9⟩ := bB E9
    cases z
    obtain ⟨R, eR⟩ := blk_cons t d
    refine ⟨.ref pb, rfl, 1, rfl, ?_⟩
    refine sl_q eb9 (cut_to xs 1) fun p10 H10 s10 n10 e10 => ?_
    have E10 := E9.same s10
    refine ⟨.ref pb, rfl, 1, rfl, ?_⟩
    refine noP_q ?_
    refine sl_q (s10 _ _ eb9) (cut_from xs 1) fun p11 H11 s11 n11 e11 => ?_
    have E11 := E10.same s11
    have s911 := s10.trans s11
    have r11 := (rb9.mono s911).drop 1
    have l11 := l9.mono s911
    have e10' := s11 _ _ e10
    have t11 := (rb9.mono s911).take 1
    clear eb9 rb9 E10
    rw [eR] at r11 t11
    have r11 : Ils H11 (xs.drop 1) R := r11
    have t11 : Ils H11 (xs.take 1) [secOf t d 0] := t11
    have lR : R.length + 1 = cnt d := by rw [← lb, eR, List.length_cons]
    refine ⟨p11, rfl, ⟨_, SqL.of e11⟩, fun D nD => ?_⟩
    have nDs := E11.good.ne_new nD
    refine lc_list (K := K) (a := p11) (xs := xs.drop 1) (fun i H' => Dr st L H11 H' ∧ ∃ ys e, H' D = some (.lst ys) ∧ Ils H' ys e ∧ (∀ p, V.ref p ∈ ys → p ≠ D) ∧ e.length = i ∧ ∀ (j : Nat) (s : List Int), e[j]? = some s → ∃ r D, R[j]? = some r ∧ s = put r 6 D ∧ D.length = 4 ∧ Byts D) ⟨Dr.new E11.good nD, [], [], upd_same, .nil, (fun _ m => nomatch m), rfl, fun j s z => by simp at z⟩ (fun i H' _ hP => SqL.of (hP.1.at_ (E11.good.ne_ils e11 r11) e11)) (fun i x Hi hx hP => ?_) (fun H' hP => ?_)
    · obtain ⟨dd, ys, e, eD, ry, hn, le, he⟩ := hP
      obtain ⟨s, es, p, rfl, ep⟩ := (r11.dr E11.good dd).get hx
      refine ⟨rfl, ?_⟩
      refine iteT (B := True) ?_
      refine ⟨.ref p, rfl, .ref st, rfl, 2, 32, rfl, rfl, ⟨by decide, by decide, by decide⟩, st, L, _, rfl, dd.good, by decide, by decide, fun r H12 d12 r0 r1 => ?_⟩
      refine ⟨r, 4, rfl, r0, by decide, fun p13 H13 s13 n13 e13 => ?_⟩
      have ep12 := d12.at_ (dd.good.ne_ints ep) ep
      have ls : s.length = 64 := (var_blk bd).ln s (by rw [eR]; exact List.mem_cons_of_mem _ (List.mem_of_getElem? es))
      refine ⟨p, p13, s, fx r 4, 6, rfl, s13 _ _ ep12, e13, by omega, by rw [fx_len]; decide, fun p14 H14 s14 n14 e14 => ?_⟩
      have d14 := d12.trans (Dr.same d12.good (s13.trans s14))
      have eD14 := d14.at_ nDs eD
      have ly := ry.length
      have li : i < R.length := (List.getElem?_eq_some_iff.mp es).1
      have nD14 : p14 ≠ D := fun z => by
        subst z
        rw [s13 _ _ (d12.at_ nDs eD)] at n14
        cases n14
      have hn2 : ∀ p, V.ref p ∈ ys ++ [V.ref p14] → p ≠ D := fun p m => by
        rcases List.mem_append.mp m with m | m
        · exact hn p m
        · cases List.mem_singleton.mp m
          exact nD14
      refine ⟨ys, eD14, small7 (by omega), (dd.trans d14).put E11.good nD, ys ++ [.ref p14], e ++ [put s 6 (fx r 4)], upd_same, ((ry.dr dd.good d14).app (.one ⟨p14, rfl, e14⟩)).upd hn2, hn2, by rw [List.length_append, le]; rfl, fun j s' z => ?_⟩
      rcases Nat.lt_or_ge j e.length with c | c
      · rw [List.getElem?_append_left c] at z
        exact he j s' z
      · rw [List.getElem?_append_right c] at z
        have : j - e.length = 0 := by
          rcases Nat.eq_zero_or_pos (j - e.length) with h | h
          · exact h
          · rw [List.getElem?_eq_none (by rw [List.length_singleton]; exact h)] at z
            cases z
        rw [this] at z
        cases z
        exact ⟨s, fx r 4, by rw [show j = i by omega]; exact es, rfl, fx_len _ _, fx_bytes _ _⟩
    · obtain ⟨dd, ys, e, eD, ry, hn, le, he⟩ := hP
      have lxd : (xs.drop 1).length = R.length := r11.length
      rw [lxd] at le
      have E12 := E11.to dd
      have l12 := l11.dr E11.good dd
      have e10d := dd.at_ (E11.good.ne_ils e10' t11) e10'
      have t12 := t11.dr E11.good dd
      have ly := ry.length
      have lt := t12.length
      refine catV_q e10d eD (by rw [lt, ly]; show 1 + _ ≤ _; omega) fun ps H13 s13 n13 e13 => ?_
      have E13 := E12.same s13
      have l13 := l12.mono s13
      have V0 : Var t d (secOf t d 0 :: e) := var_nums bd e le he eR
      have r13 : Ils H13 (xs.take 1 ++ ys) (secOf t d 0 :: e) := (t12.app ry).mono s13
      have nps0 : H ps = none := KA.Dr.free E12.dr n13
      have npb : pb ≠ ps := fun z => by
        obtain ⟨_, _, z2, ez, _⟩ := bB E12
        cases z2
        rw [z, n13] at ez
        cases ez
      generalize secOf t d 0 :: e = S at V0 r13
      generalize xs.take 1 ++ ys = zs at e13 r13
      -- behind
      obtain ⟨_, bx, z, ebx, rbx⟩ := bB E13
      cases z
      have lbx : bx.length = cnt d := by rw [rbx.length, lb]
      have lz : zs.length = cnt d := by rw [r13.length, V0.len]
      refine ⟨.ref pb, rfl, pb, _, rfl, .inl (SqL.of ebx), 54, _, rfl, rfl, .inl ⟨by decide, by decide⟩, _, 4, rfl, rfl, .ref pd, rfl, pd, _, rfl, .inl (SqL.of (gD E13)), _, _, rfl, rfl, ?_⟩
      obtain ⟨b, hb⟩ : ∃ b : Nat, b = 54 * cnt d - (held d).length := ⟨_, rfl⟩
      have hld := held_len d
      have hb53 : b ≤ 53 := by rw [hb]; unfold BK.cnt; omega
      have hbc : (held d).length ≤ 54 * cnt d := by unfold BK.cnt; omega
      have eb : (54 : Int) * ((bx.length : Nat) : Int) - 4 - ((((d.map V.int).length) : Nat) : Int) = ((b : Nat) : Int) := by
        rw [lbx, List.length_map]
        omega
      show gName 7 (V.int ((54 : Int) * ((bx.length : Nat) : Int) - 4 - ((((d.map V.int).length) : Nat) : Int))) _ _ _
      rw [eb]
      refine ⟨fun σ H' => (σ = [some (.ref st), some (.int t), some (.ref pd), some (.ref pb), some (.ref pp), some (.ref pr), some (.ref ps), some (.int b), none, none, none, none, none, none, none, none]) ∧ ∃ S', En st L H H' [(pb, blk t d)] [(pd, d)] ∧ LL H' (.ref pr) OS ∧ LL H' (.ref ps) S' ∧ Rdb t d S', ?_, ?_⟩
      · -- other bytes behind
        refine ⟨.int b, rfl, _, 0, rfl, rfl, _, rfl, ite2 (fun c => ?_) (fun c => ?_)⟩
        · have lS := V0.len
          obtain ⟨l, hl⟩ : ∃ l, S[S.length - 1]? = some l := ⟨_, List.getElem?_eq_getElem (by omega)⟩
          obtain ⟨vl, evl, pl, rfl, epl⟩ := r13.at_ hl
          rw [lS] at evl
          have e1 : (((zs.length : Nat) : Int) - 1) = ((cnt d - 1 : Nat) : Int) := by rw [lz]; omega
          have ll := V0.ln l (List.mem_of_getElem? hl)
          refine ⟨.ref ps, rfl, .ref ps, rfl, ps, _, rfl, .inl (SqL.of e13), _, 1, rfl, rfl, ps, _, _, .ref pl, rfl, rfl, SqL.of e13, at_of e1 evl, ?_⟩
          refine noP_q ?_
          refine ⟨.int b, rfl, 64, _, rfl, rfl, _, rfl, ?_⟩
          have e64 : cutV (l.map V.int) none (some ((64 : Int) - ((b : Nat) : Int))) = (l.take (64 - b)).map V.int := by
            rw [show (64 : Int) - ((b : Nat) : Int) = ((64 - b : Nat) : Int) by omega]
            exact cut_ints_to l (64 - b)
          refine sl_q epl e64 fun p14 H14 s14 n14 e14 => ?_
          have E14 := E13.same s14
          refine ⟨.ref st, rfl, st, L, 256, rfl, E14.good, by decide, by decide, fun x H15 d15 x0 x1 => ⟨(by show 1 ≤ sizeLine; exact small6 (by decide)), fun p16 np16 => ?_⟩⟩
          generalize hG : upd _ p16 _ = H16
          obtain ⟨s16, e16⟩ := gen_up hG np16
          clear hG
          have e14' := d15.at_ (E14.good.ne_ints e14) e14
          refine ⟨.int b, rfl, ?_⟩
          refine rep_q e16 (by omega) fun p17 H17 s17 n17 e17 => ?_
          have d1417 := d15.trans (Dr.same d15.good (s16.trans s17))
          refine cat_q (ys := List.replicate b x) (s17 _ _ (s16 _ _ e14')) (by rw [List.map_replicate]; exact e17) (by rw [List.length_take, List.length_replicate]; omega) fun p18 H18 s18 n18 e18 => ?_
          have d1318 : Dr st L H13 H18 := (Dr.same E13.good s14).trans (d1417.trans (Dr.same d1417.good s18))
          have e13' := d1318.at_ (E13.good.ne_ils e13 r13) e13
          have r18 := r13.dr E13.good d1318
          have E18 := E13.to d1318
          have l18 := l13.dr E13.good d1318
          refine ⟨.ref ps, rfl, .ref ps, rfl, ps, _, rfl, .inl (SqL.of e13'), _, 1, rfl, rfl, ps, zs, _, cnt d - 1, rfl, rfl, e13', by rw [e1]; exact ixN_n (by omega), ?_⟩
          have n18ps : p18 ≠ ps := fun z => by
            subst z
            rw [(d1417.at_ (E14.good.ne_ils (s14 _ _ e13) (r13.mono s14)) (s14 _ _ e13))] at n18
            cases n18
          obtain ⟨p00, hz0⟩ : ∃ p, zs[0]? = some (.ref p) := by
            obtain ⟨v, ev, p, rfl, _⟩ := r13.at_ (List.getElem?_eq_getElem (show 0 < S.length by omega))
            exact ⟨p, ev⟩
          have npr : pr ≠ ps := fun z => by
            obtain ⟨_, _, z2, ez, _⟩ := l12
            cases z2
            rw [z, n13] at ez
            cases ez
          have inz : ∀ q, V.ref q ∈ zs.set (cnt d - 1) (.ref p18) → q ≠ ps := fun q m => by
            rcases List.mem_or_eq_of_mem_set m with m | m
            · obtain ⟨i, hi⟩ := List.getElem?_of_mem m
              obtain ⟨ns, _, q', eq', eq2⟩ := r13.get hi
              cases eq'
              exact ne_il eq2 e13 hz0
            · cases m
              exact n18ps
          refine ⟨rfl, S.set (S.length - 1) (l.take (64 - b) ++ List.replicate b x), ?_, ?_, ?_, ?_⟩
          · refine ⟨E18.dr.put g nps0, fun f m => ?_, fun f m => ?_⟩
            · rw [List.mem_singleton.mp m]
              exact (bB E18).upd' npb e13' hz0
            · rw [List.mem_singleton.mp m]
              exact ⟨pd, rfl, by rw [upd_ne (ne_il (gD E18) e13' hz0)]; exact gD E18⟩
          · exact l18.upd' npr e13' hz0
          · rw [lS]
            exact ⟨ps, _, rfl, upd_same, (r18.set (cnt d - 1) ⟨p18, rfl, e18⟩).upd inz⟩
          · obtain ⟨_, w1, w2, _⟩ := V0.behind hb hl x x0 (by omega)
            exact ⟨fun rest => w1 rest t0 t6 hd, fun s m => ⟨(w2 s m).1, by rw [(w2 s m).2]; decide⟩, by rw [List.length_set, lS]; omega⟩
        · exact ⟨rfl, S, E13, l13, ⟨ps, zs, rfl, e13, r13⟩, fun rest => V0.read t0 t6 hd rest, fun s m => ⟨V0.byt s m, by rw [V0.ln s m]; decide⟩, by rw [V0.len]; omega⟩
      · intro σ9 H14 hm
        obtain ⟨rfl, S', E14, lo14, ls14, rdb⟩ := hm
        clear rbx ebx lbx r13 lz e13 V0 E13 l13
        have rdb0 : Rdb t d (blk t d) := ⟨fun rest => (var_blk bd).read t0 t6 hd rest, bS, by omega⟩
        have E14 : En st L H H14 [(ps, S'), (pr, OS), (pb, blk t d)] [(pd, d)] := (E14.addL lo14).addL ls14
        have fB : ∀ {H'}, En st L H H' [(ps, S'), (pr, OS), (pb, blk t d)] [(pd, d)] → LL H' (.ref pb) (blk t d) := fun e => e.ll (pb, blk t d) (by simp)
        have fO : ∀ {H'}, En st L H H' [(ps, S'), (pr, OS), (pb, blk t d)] [(pd, d)] → LL H' (.ref pr) OS := fun e => e.ll (pr, OS) (by simp)
        have fS : ∀ {H'}, En st L H H' [(ps, S'), (pr, OS), (pb, blk t d)] [(pd, d)] → LL H' (.ref ps) S' := fun e => e.ll (ps, S') (by simp)
        have fD : ∀ {H'}, En st L H H' [(ps, S'), (pr, OS), (pb, blk t d)] [(pd, d)] → H' pd = some (.lst (d.map V.int)) := fun e => by
          obtain ⟨p, z, e⟩ := e.il (pd, d) (List.mem_singleton.mpr rfl)
          cases z
          exact e
        -- both are read back
        refine ⟨.ref pb, rfl, .ref ps, rfl, (by show 2 ≤ sizeLine; exact small6 (by decide)), fun p20 np20 => ?_⟩
        generalize hG : upd _ p20 _ = H20
        obtain ⟨s20, e20⟩ := gen_up hG np20
        clear hG
        have n20 := E14.good.ne_new np20
        have E20 := E14.same s20
        refine ⟨p20, rfl, ⟨_, SqL.of e20⟩, ?_⟩
        refine for_list (K := K) (a := p20) (xs := [.ref pb, .ref ps]) (fun i σ H' => (∃ x8 x9, σ = [some (.ref st), some (.int t), some (.ref pd), some (.ref pb), some (.ref pp), some (.ref pr), some (.ref ps), some (.int b), x8, x9, none, none, none, none, none, none]) ∧ H' p20 = some (.lst [.ref pb, .ref ps]) ∧ En st L H H' [(ps, S'), (pr, OS), (pb, blk t d)] [(pd, d)]) ⟨⟨none, none, rfl⟩, e20, E20⟩ (fun i σ H' _ hP => SqL.of hP.2.1) (fun i x σ Hi hx hP => ?_) (fun σ H' hP => ?_)
        · obtain ⟨⟨x8, x9, rfl⟩, e20, E20⟩ := hP
          obtain ⟨pe, Se, rfl, le, re⟩ : ∃ pe Se, x = .ref pe ∧ (∀ {H'}, En st L H H' [(ps, S'), (pr, OS), (pb, blk t d)] [(pd, d)] → LL H' (.ref pe) Se) ∧ Rdb t d Se := by
            rcases i with _ | _ | i
            · cases hx
              exact ⟨pb, _, rfl, fB, rdb0⟩
            · cases hx
              exact ⟨ps, _, rfl, fS, rdb⟩
            · cases hx
          refine ⟨.ref pe, rfl, .ref pr, rfl, .ref st, rfl, st, L, 2, rfl, E20.good, by decide, by decide, fun a H21 d21 a0 a1 => ?_⟩
          have E21 := E20.to d21
          obtain ⟨m, rfl⟩ : ∃ m : Nat, a = m := ⟨a.toNat, by omega⟩
          obtain ⟨_, ox, z, eo, ro⟩ := fO E21
          cases z
          have lox := ro.length
          have hm2 : m ≤ 1 := by omega
          refine repL_q eo (by rw [lox]; exact Nat.le_trans (Nat.mul_le_mul hm2 lo20) (by decide)) (by omega) fun p22 H22 s22 n22 e22 => ?_
          have E22 := E21.same s22
          obtain ⟨_, ex, z, ee, re22⟩ := le E22
          cases z
          have lex := re22.length
          have hln := re.ln
          have ro22 := (ro.mono s22).rep m
          have lro := ro22.length
          rw [rep_length, rep_length] at lro
          have lml : m * OS.length ≤ 20 := Nat.le_trans (Nat.mul_le_mul hm2 lo20) (by decide)
          refine catV_q ee e22 (by rw [rep_length, lox]; omega) fun p23 H23 s23 n23 e23 => ?_
          have r23 := (re22.app ro22).mono s23
          have E23 := E22.same s23
          refine ⟨(by show 1 ≤ sizeLine; exact small6 (by decide)), fun p24 np24 => ?_⟩
          generalize hG : upd _ p24 _ = H24
          obtain ⟨s24, e24⟩ := gen_up hG np24
          clear hG
          refine tC_q ?_
          refine rep_q (n := 64) e24 (by decide) fun p25 H25 s25 n25 e25 => ?_
          refine ⟨(by show 1 ≤ sizeLine; exact small6 (by decide)), fun p26 np26 => ?_⟩
          generalize hG : upd _ p26 _ = H26
          obtain ⟨s26, e26⟩ := gen_up hG np26
          clear hG
          have s2326 := (s24.trans s25).trans s26
          have E26 := E23.same s2326
          have rz : Ils H26 [.ref p25] [zeros 64] := .one ⟨p25, rfl, by rw [zeros_map]; exact s26 _ _ e25⟩
          refine ⟨.ref st, rfl, st, L, 3, rfl, E26.good, by decide, by decide, fun a2 H27 d27 a20 a21 => ?_⟩
          have E27 := E26.to d27
          obtain ⟨m2, rfl⟩ : ∃ m : Nat, a2 = m := ⟨a2.toNat, by omega⟩
          have e26' := d27.at_ (E26.good.ne_ils e26 rz) e26
          have rz' := rz.dr E26.good d27
          refine repL_q e26' (by show m2 * 1 ≤ 1000000; omega) (by omega) fun p28 H28 s28 n28 e28 => ?_
          have E28 := E27.same s28
          have e23' := s28 _ _ (d27.at_ (E26.good.ne_ils (s2326 _ _ e23) (r23.mono s2326)) (s2326 _ _ e23))
          have r23' := ((r23.mono s2326).dr E26.good d27).mono s28
          have rz28 := (rz'.mono s28).rep m2
          have lrz := rz28.length
          rw [rep_length, rep_length] at lrz
          refine catV_q e23' e28 (by rw [List.length_append, rep_length, rep_length, lox]; show _ + _ + m2 * 1 ≤ _; omega) fun p29 H29 s29 n29 e29 => ?_
          have E29 := E28.same s29
          have r29 := (r23'.app rz28).mono s29
          refine ⟨.int t, rfl, t, p29, _, _, rfl, e29, r29, by rw [List.length_append, List.length_append, rep_length, rep_length]; show _ + _ + m2 * 1 ≤ _; omega, fun s m => ?_, fun v H30 s30 hv => ?_⟩
          · rcases List.mem_append.mp m with m | m
            · rcases List.mem_append.mp m with m | m
              · exact re.ok s m
              · exact oS s (rep_mem m)
            · rw [List.mem_singleton.mp (rep_mem m)]
              exact ⟨zeros_bytes 64, by decide⟩
          · rw [List.append_assoc, re.rd] at hv
            obtain ⟨p30, q30, rfl, e30, eq30⟩ := hv
            have E30 := E29.same s30
            obtain ⟨_, bx, z, ebx, rbx⟩ := fB E30
            cases z
            have lbx : bx.length = cnt d := by rw [rbx.length, lb]
            refine ⟨.ref p30, rfl, .ref pd, rfl, .ref pb, rfl, pb, _, rfl, .inl (SqL.of ebx), (by show 2 ≤ sizeLine; exact small6 (by decide)), fun p31 np31 => ?_⟩
            generalize hG : upd _ p31 _ = H31
            obtain ⟨s31, e31⟩ := gen_up hG np31
            clear hG
            have E31 := E30.same s31
            rw [lbx] at e31
            refine ⟨_, _, .tuple [.list (intsD d), .int (cnt d : Nat)], rfl, .tup (s31 _ _ e30) (.cons (.lst (s31 _ _ eq30) (dls_ints d)) (.cons (.int _) .nil)), .tup e31 (.cons (.lst (fD E31) (dls_ints d)) (.cons (.int _) .nil)), ?_, ?_, true, rfl, iteF' rfl ⟨⟨_, _, rfl⟩, ?_, E31⟩⟩
            · rw [okD]
              refine ⟨by show 2 ≤ 1000000; decide, okDs_of fun x m => ?_⟩
              simp only [List.mem_cons, List.not_mem_nil, or_false] at m
              rcases m with rfl | rfl
              · exact okD_ints (by omega)
              · rw [okD]; trivial
            · have dp := depth_ints d
              show max (PyData.list (intsD d)).depth (max 0 0) + 1 ≤ 4
              omega
            · have k20 : ∀ {Ha Hb : Hp}, Same Ha Hb → Ha p20 = some (.lst [.ref pb, .ref ps]) → Hb p20 = some (.lst [.ref pb, .ref ps]) := fun s e => s _ _ e
              exact s31 _ _ (s30 _ _ (s29 _ _ (s28 _ _ (d27.at_ n20 (s2326 _ _ (s23 _ _ (s22 _ _ (d21.at_ n20 e20))))))))
        · obtain ⟨⟨x8, x9, rfl⟩, _, E32⟩ := hP
          clear e20 E20 s20 np20
          -- the next turn, and nothing
          obtain ⟨_, bx, z, ebx, rbx⟩ := fB E32
          cases z
          obtain ⟨_, ox, z, eox, rox⟩ := fO E32
          cases z
          have lbx : bx.length = cnt d := by rw [rbx.length, lb]
          have lox := rox.length
          refine ⟨.ref pb, rfl, .ref pr, rfl, ?_⟩
          refine catV_q ebx eox (by omega) fun p33 H33 s33 n33 e33 => ?_
          have E33 := E32.same s33
          refine ⟨.int t, rfl, t, 1, rfl, rfl, t + 1, p33, _, _, rfl, e33, (rbx.app rox).mono s33, by rw [List.length_append]; omega, fun s m => (List.mem_append.mp m).elim (bS s) (oS s), fun v H34 s34 hv => ?_⟩
          rw [rb_next t0 t6] at hv
          cases hv
          have E34 := E33.same s34
          refine ⟨rfl, _, rfl, iteF' (by decide) ?_⟩
          refine ⟨Nat.zero_le _, fun p35 np35 => ?_⟩
          generalize hG : upd _ p35 _ = H35
          obtain ⟨s35, e35⟩ := gen_up hG np35
          clear hG
          have E35 := E34.same s35
          refine ⟨.int t, rfl, t, p35, [], [], rfl, e35, .nil, Nat.zero_le _, (fun s m => nomatch m), fun v H36 s36 hv => ?_⟩
          cases hv
          have E36 := E35.same s36
          refine ⟨rfl, _, rfl, iteF' (by decide) ?_⟩
          clear e33 e35 np35 E33 E34 E35
          have s3236 := (s33.trans s34).trans (s35.trans s36)
          have ebx := s3236 _ _ ebx
          -- place, at
          have c200 : ((bx.length : Nat) : Int) < 2 ^ 200 := Int.lt_of_le_of_lt (b := 20) (by omega) (by decide)
          refine ⟨.ref st, rfl, .ref pb, rfl, pb, _, rfl, .inl (SqL.of ebx), st, L, _, rfl, E36.good, by omega, c200, fun pl H37 d37 pl0 pl1 => ?_⟩
          obtain ⟨kp, rfl⟩ : ∃ m : Nat, pl = m := ⟨pl.toNat, by omega⟩
          have hkp : kp < cnt d := by omega
          have E37 := E36.to d37
          refine ⟨.ref st, rfl, st, L, 6, rfl, E37.good, by decide, by decide, fun at_ H38 d38 at0 at1 => ?_⟩
          obtain ⟨ka, rfl⟩ : ∃ m : Nat, at_ = m := ⟨at_.toNat, by omega⟩
          have hka : ka < 6 := by omega
          have E38 := E37.to d38
          clear ebx rbx lbx c200
          -- wrong
          obtain ⟨_, bx, z, ebx, rbx⟩ := fB E38
          cases z
          have lbx : bx.length = cnt d := by rw [rbx.length, lb]
          obtain ⟨_, evk, pk, rfl, epk⟩ := rbx.at_ (blk_at hkp)
          have lsk := sec_len t d kp
          obtain ⟨b0, hb0⟩ : ∃ b0, (secOf t d kp)[ka]? = some b0 := ⟨_, List.getElem?_eq_getElem (by omega)⟩
          have bb := sec_bytes (t := t) bd kp b0 (List.mem_of_getElem? hb0)
          refine ⟨.ref pb, rfl, .int kp, rfl, pb, _, _, .ref pk, rfl, rfl, SqL.of ebx, atI_nat evk, .int ka, rfl, ?_⟩
          refine ⟨.ref pb, rfl, .int kp, rfl, pb, _, _, .ref pk, rfl, rfl, SqL.of ebx, atI_nat evk, .int ka, rfl, pk, _, _, .int b0, rfl, rfl, SqL.of epk, atI_nat (by rw [List.getElem?_map, hb0]; rfl), b0, 1, rfl, rfl, ?_⟩
          refine ⟨.ref st, rfl, st, L, 255, rfl, E38.good, by decide, by decide, fun r H39 d39 r0 r1 => ⟨_, r, rfl, rfl, _, 256, rfl, rfl, (by show (0 : Int) < 256; decide), (by show 1 ≤ sizeLine; exact small6 (by decide)), fun p40 np40 => ?_⟩⟩
          generalize hG : upd _ p40 _ = H40
          obtain ⟨s40, e40⟩ := gen_up hG np40
          clear hG
          obtain ⟨w1, w2, w3⟩ := bad_byte bb.1 bb.2 r0 r1
          have E40 := (E38.to d39).same s40
          have epk40 := s40 _ _ (d39.at_ (E38.good.ne_ints epk) epk)
          refine ⟨pk, p40, secOf t d kp, [(b0 + 1 + r) % 256], ka, rfl, epk40, e40, by omega, by show 1 ≤ 10000; decide, fun pz H41 s41 n41 e41 => ?_⟩
          have E41 := E40.same s41
          clear ebx rbx lbx evk epk epk40 e40 np40
          -- spoilt: the first two
          obtain ⟨_, bx, z, ebx, rbx⟩ := fB E41
          cases z
          have lbx : bx.length = cnt d := by rw [rbx.length, lb]
          refine ⟨.ref pb, rfl, ?_⟩
          refine noP_q ?_
          refine ⟨.int kp, rfl, _, rfl, ?_⟩
          refine sl_q ebx (cut_to bx kp) fun p42 H42 s42 n42 e42 => ?_
          refine ⟨.ref pz, rfl, (by show 1 ≤ sizeLine; exact small6 (by decide)), fun p43 np43 => ?_⟩
          generalize hG : upd _ p43 _ = H43
          obtain ⟨s43, e43⟩ := gen_up hG np43
          clear hG
          have lt : (bx.take kp).length ≤ cnt d := by rw [List.length_take]; omega
          have ld2 : (bx.drop (kp + 1)).length ≤ cnt d := by rw [List.length_drop]; omega
          refine catV_q (s43 _ _ e42) e43 (by show _ + 1 ≤ _; omega) fun p44 H44 s44 n44 e44 => ?_
          have s4144 := (s42.trans s43).trans s44
          refine ⟨.ref pb, rfl, .int kp, rfl, _, 1, rfl, rfl, _, rfl, ?_⟩
          refine noP_q ?_
          have ecd := cut_from bx (kp + 1)
          rw [Int.natCast_add] at ecd
          refine sl_q (s4144 _ _ ebx) ecd fun p45 H45 s45 n45 e45 => ?_
          refine catV_q (s45 _ _ e44) e45 (by rw [List.length_append]; show _ + 1 + _ ≤ _; omega) fun p46 H46 s46 n46 e46 => ?_
          have s4146 := s4144.trans (s45.trans s46)
          have r46 : Ils H46 (bx.take kp ++ [.ref pz] ++ bx.drop (kp + 1)) ((blk t d).take kp ++ [put (secOf t d kp) ka [(b0 + 1 + r) % 256]] ++ (blk t d).drop (kp + 1)) :=
            (((rbx.mono s4146).take kp).app (.one ⟨pz, rfl, s4146 _ _ e41⟩)).app ((rbx.mono s4146).drop (kp + 1))
          refine ⟨.ref pb, rfl, ?_⟩
          refine noP_q ?_
          refine ⟨.ref pb, rfl, pb, _, rfl, .inl (SqL.of (s4146 _ _ ebx)), _, 1, rfl, rfl, _, rfl, ?_⟩
          have ect : cutV bx none (some (((bx.length : Nat) : Int) - 1)) = bx.take (bx.length - 1) := by
            rw [show ((bx.length : Nat) : Int) - 1 = ((bx.length - 1 : Nat) : Int) by omega]
            exact cut_to bx (bx.length - 1)
          refine sl_q (s4146 _ _ ebx) ect fun p47 H47 s47 n47 e47 => ?_
          have r47 := ((rbx.mono s4146).mono s47).take (bx.length - 1)
          refine ⟨(by show 2 ≤ sizeLine; exact small6 (by decide)), fun p48 np48 => ?_⟩
          generalize hG : upd _ p48 _ = H48
          obtain ⟨s48, e48⟩ := gen_up hG np48
          clear hG
          have s4148 := (s4146.trans s47).trans s48
          have E48 := E41.same s4148
          have l46 : LL H48 (.ref p46) ((blk t d).take kp ++ [put (secOf t d kp) ka [(b0 + 1 + r) % 256]] ++ (blk t d).drop (kp + 1)) := ⟨p46, _, rfl, s48 _ _ (s47 _ _ e46), r46.mono (s47.trans s48)⟩
          have l47 : LL H48 (.ref p47) ((blk t d).take ((blk t d).length - 1)) := ⟨p47, _, rfl, s48 _ _ e47, by rw [lb, ← lbx]; exact r47.mono s48⟩
          have ebx48 := s4148 _ _ ebx
          -- more
          have m0 : 0 ≤ (54 : Int) * ((bx.length : Nat) : Int) - 3 := by omega
          refine ⟨.ref pb, rfl, pb, _, rfl, .inl (SqL.of ebx48), 54, _, rfl, rfl, .inl ⟨by decide, by decide⟩, _, 3, rfl, rfl, ?_⟩
          refine ⟨.ref st, rfl, st, L, 1000, rfl, E48.good, by decide, by decide, fun rm H49 d49 rm0 rm1 => ⟨_, rm, rfl, rfl, _, 4, rfl, by omega, by decide, fun p50 H50 s50 n50 e50 => ?_⟩⟩
          have dd50 := d49.trans (Dr.same d49.good s50)
          have E50 := E48.to dd50
          have l46 := l46.dr E48.good dd50
          have l47 := l47.dr E48.good dd50
          have e48 := dd50.at_ ((E41.same (s4146.trans s47)).good.ne_new np48) e48
          rw [lbx] at e50
          clear ebx rbx lbx ebx48 ect ecd e46 e47 e45 e44 e43 e42 r46 r47 lt ld2 m0 bx
          obtain ⟨_, bx, z, ebx, rbx⟩ := fB E50
          cases z
          have lbx : bx.length = cnt d := by rw [rbx.length, lb]
          have h0 : (blk t d)[0]? = some (secOf t d 0) := blk_at (by omega)
          obtain ⟨_, ev0, q0, rfl, eq0⟩ := rbx.at_ h0
          have at00 : atI bx 0 = some (.ref q0) := atI_nat (j := 0) ev0
          have ls0 := sec_len t d 0
          refine ⟨.ref p48, rfl, .ref pb, rfl, pb, _, 0, .ref q0, rfl, rfl, SqL.of ebx, at00, .ref p50, rfl, ?_⟩
          refine ⟨q0, p50, secOf t d 0, _, 10, rfl, eq0, e50, by omega, by rw [fx_len]; decide, fun p51 H51 s51 n51 e51 => ?_⟩
          refine ⟨(by show 1 ≤ sizeLine; exact small6 (by decide)), fun p52 np52 => ?_⟩
          generalize hG : upd _ p52 _ = H52
          obtain ⟨s52, e52⟩ := gen_up hG np52
          clear hG
          have s5052 := s51.trans s52
          refine ⟨.ref pb, rfl, 1, rfl, ?_⟩
          refine noP_q ?_
          refine sl_q (s5052 _ _ ebx) (cut_from bx 1) fun p53 H53 s53 n53 e53 => ?_
          have ld1 : (bx.drop 1).length ≤ cnt d := by rw [List.length_drop]; omega
          refine catV_q (s53 _ _ e52) e53 (by show 1 + _ ≤ _; omega) fun p54 H54 s54 n54 e54 => ?_
          have s5054 := s5052.trans (s53.trans s54)
          have rdrop : Ils H50 (bx.drop 1) R := by
            have := rbx.drop 1
            rw [eR] at this
            exact this
          have l54 : LL H54 (.ref p54) (put (secOf t d 0) 10 (fx (54 * (cnt d : Nat) - 3 + rm) 4) :: R) := ⟨p54, _, rfl, e54, .cons ⟨p51, rfl, s54 _ _ (s53 _ _ (s52 _ _ e51))⟩ (rdrop.mono s5054)⟩
          refine ⟨.ref pb, rfl, pb, _, 0, .ref q0, rfl, rfl, SqL.of (s5054 _ _ ebx), at00, (by show 4 ≤ sizeLine; exact small6 (by decide)), fun p55 np55 => ?_⟩
          generalize hG : upd _ p55 _ = H55
          obtain ⟨s55, e55⟩ := gen_up hG np55
          clear hG
          refine ⟨q0, p55, secOf t d 0, [0, 0, 0, 0], 6, rfl, s55 _ _ (s5054 _ _ eq0), e55, by omega, by show 4 ≤ 10000; decide, fun p56 H56 s56 n56 e56 => ?_⟩
          refine ⟨(by show 1 ≤ sizeLine; exact small6 (by decide)), fun p57 np57 => ?_⟩
          generalize hG : upd _ p57 _ = H57
          obtain ⟨s57, e57⟩ := gen_up hG np57
          clear hG
          have s5057 := (s5054.trans s55).trans (s56.trans s57)
          refine ⟨.ref pb, rfl, 1, rfl, ?_⟩
          refine noP_q ?_
          refine sl_q (s5057 _ _ ebx) (cut_from bx 1) fun p58 H58 s58 n58 e58 => ?_
          refine catV_q (s58 _ _ e57) e58 (by show 1 + _ ≤ _; omega) fun p59 H59 s59 n59 e59 => ?_
          have s5059 := s5057.trans (s58.trans s59)
          have l59 : LL H59 (.ref p59) (put (secOf t d 0) 6 [0, 0, 0, 0] :: R) := ⟨p59, _, rfl, e59, .cons ⟨p56, rfl, s59 _ _ (s58 _ _ (s57 _ _ e56))⟩ (rdrop.mono s5059)⟩
          refine ⟨(by show 2 ≤ sizeLine; exact small6 (by decide)), fun p60 np60 => ?_⟩
          generalize hG : upd _ p60 _ = H60
          obtain ⟨s60, e60⟩ := gen_up hG np60
          clear hG
          refine catV_q (s60 _ _ (s5059 _ _ e48)) e60 (by show 2 + 2 ≤ 1000000; decide) fun p61 H61 s61 n61 e61 => ?_
          have s5061 := s5059.trans (s60.trans s61)
          have s5461 : Same H54 H61 := (((s55.trans s56).trans (s57.trans s58)).trans s59).trans (s60.trans s61)
          have E61 := E50.same s5061
          have e61 : H61 p61 = some (.lst [.ref p46, .ref p47, .ref p54, .ref p59]) := e61
          have a1 := l46.mono s5061
          have a2 := l47.mono s5061
          have a3 := l54.mono s5461
          have a4 := l59.mono (s60.trans s61)
          -- each one is refused
          have okR : ∀ s ∈ R, Byts s ∧ s.length ≤ 100 := fun s m => bS s (by rw [eR]; exact List.mem_cons_of_mem _ m)
          have oks0 := bS (secOf t d 0) (by rw [eR]; exact List.mem_cons_self)
          have none4 : ∀ (i : Nat) (x : V), ([.ref p46, .ref p47, .ref p54, .ref p59] : List V)[i]? = some x → ∃ S, LL H61 x S ∧ rb S t = none ∧ S.length ≤ 5000 ∧ ∀ s ∈ S, Byts s ∧ s.length ≤ 100 := fun i x hx => by
            rcases i with _ | _ | _ | _ | i
            · cases hx
              refine ⟨_, a1, spoilt0 bd t0 t6 hd hkp hka hb0 ⟨w2, w3⟩ w1, by rw [List.length_append, List.length_append, List.length_take, List.length_drop, lb]; show _ + 1 + _ ≤ _; omega, fun s m => ?_⟩
              rcases List.mem_append.mp m with m | m
              · rcases List.mem_append.mp m with m | m
                · exact bS s (List.mem_of_mem_take m)
                · rw [List.mem_singleton.mp m]
                  exact ⟨put1_bytes (sec_bytes bd kp) ⟨w2, w3⟩, by rw [put1_len (by omega), lsk]; decide⟩
              · exact bS s (List.mem_of_mem_drop m)
            · cases hx
              exact ⟨_, a2, spoilt1 hd, by rw [List.length_take]; omega, fun s m => bS s (List.mem_of_mem_take m)⟩
            · cases hx
              refine ⟨_, a3, spoilt2 hd rm0 rm1 eR, by rw [List.length_cons]; omega, fun s m => ?_⟩
              rcases List.mem_cons.mp m with rfl | m
              · refine ⟨?_, ?_⟩
                · unfold put
                  exact ((oks0.1.take _).app (fx_bytes _ _)).app (oks0.1.drop _)
                · unfold put
                  rw [List.length_append, List.length_append, List.length_take, List.length_drop, fx_len]
                  omega
              · exact okR s m
            · cases hx
              refine ⟨_, a4, spoilt3 R, by rw [List.length_cons]; omega, fun s m => ?_⟩
              rcases List.mem_cons.mp m with rfl | m
              · have z4 : Byts [0, 0, 0, 0] := zeros_bytes 4
                obtain ⟨_, f2, _, _, f5⟩ := put6 ls0 [0, 0, 0, 0] rfl z4 oks0.1
                exact ⟨f5, by rw [f2]; decide⟩
              · exact okR s m
            · cases hx
          refine ⟨.ref p61, rfl, p61, rfl, ⟨_, SqL.of e61⟩, fun D2 nD2 => ?_⟩
          refine lc_list (K := K) (a := p61) (xs := [.ref p46, .ref p47, .ref p54, .ref p59]) (fun i H' => Same H61 H' ∧ i ≤ 4 ∧ H' D2 = some (.lst (List.replicate i .non))) ⟨same_new nD2, by decide, upd_same⟩ (fun i H' _ hP => SqL.of (hP.1 _ _ e61)) (fun i x Hi hx hP => ?_) (fun H' hP => ?_)
          · obtain ⟨sm, i4, eD2⟩ := hP
            obtain ⟨S, lS, rS, lnS, okS⟩ := none4 i x hx
            obtain ⟨px, sx, rfl, epx, rpx⟩ := lS.mono sm
            refine ⟨rfl, ?_⟩
            refine iteT (B := True) ?_
            refine ⟨.ref px, rfl, .int t, rfl, t, px, sx, S, rfl, epx, rpx, lnS, okS, fun v H' s' hv => ?_⟩
            rw [rS] at hv
            cases hv
            have hi : i < 4 := (List.getElem?_eq_some_iff.mp hx).1
            refine ⟨_, s' _ _ eD2, small7 (by rw [List.length_replicate]; omega), same_put (sm.trans s') nD2, by omega, ?_⟩
            rw [upd_same, ← List.replicate_succ']
          · obtain ⟨sm, _, eD2⟩ := hP
            refine ⟨(by show 4 ≤ sizeLine; exact small6 (by decide)), fun p62 np62 => ?_⟩
            generalize hG : upd _ p62 _ = H62
            obtain ⟨s62, e62⟩ := gen_up hG np62
            clear hG
            have nn : Dls H62 [.non, .non, .non, .non] [.none, .none, .none, .none] := .cons .non (.cons .non (.cons .non (.cons .non .nil)))
            refine ⟨.list [.none, .none, .none, .none], .list [.none, .none, .none, .none], .lst (s62 _ _ eD2) nn, .lst e62 nn, by show max 0 (max 0 (max 0 (max 0 0))) + 1 ≤ 64; decide, ?_⟩
            exact q H62 (E61.dr.trans (Dr.same E61.good (sm.trans s62)))
end
end LK

namespace LK
open PySem PySem.Spec PyProof.Rows L2 KA BK
section
variable {P : Program} {w : World} {K : PySem.W.Frag} {mg : Str → Option Value} {base h : Heap}
abbrev dAB (P : Program) (w : World) (K : PySem.W.Frag) (mg : Str → Option Value) (base : Heap) : Prop := Def P w K mg base "_law_asks_block" 6 ["state"] spAB
abbrev sLaw : Stmt := topS 29
abbrev nLaw : List Str := ["script", "state", "k"]
theorem scLaw : FnScope nLaw ["script"] (defScope sLaw) := ⟨rfl, rfl, rfl, by decide +kernel, rfl, by decide +kernel, by decide +kernel⟩
def spLaw (K : PySem.W.Frag) : Sp := fun vs H Q _ => ∃ (a : Addr) (ns : List Int), vs = [.ref a] ∧ SqL K H a (ns.map V.int) ∧ ns.length ≤ 63 ∧ ∀ H', Q (.bl true) H'
theorem ok_law {f : Addr} {fd : FuncData} (F : Fun K "law" "law" sLaw f fd) (B : Bt mg) (DNext : dNext P w K mg base) (DAB : dAB P w K mg base) (DAH : dAH P w K mg base) (DAP : dAP P w K mg base) : FnOk P w K mg base CX0 7 f fd ["script"] (spLaw K) := by
  refine F.ok scLaw (fun vs H Q E h => ?_) (fun cdv A outer s H vs Q E hr h => ?_)
  · obtain ⟨a, ns, rfl, _⟩ := h
    rfl
  · obtain ⟨sc, ns, rfl, hS, hlen, q⟩ := h
    refine ⟨_, (pss_cons (ps_set (i := 1) scLaw.nd rfl (.inl rfl) (pe_lst (pa_cons (pe_callTy call_list_of (by rfl) B.lst (by decide +kernel) (pa_cons (pv 0) pa_nil)) (pa_cons pe_int (pa_cons pe_int (pa_cons pe_int pa_nil))))))
      (pss_cons (ps_for PassesOwn.never rfl (pi_range1 (by rfl) B.rng (pa_cons pe_int pa_nil)) (pg_name (i := 2) scLaw.nd rfl (Or.inl rfl))
        (pss_one (ps_if (PW.pt (pw_or (pt_not (pt_val (pe_def DAB (hr.mono (by decide)) (by rfl) (pa_cons (pv 1) pa_nil)))) (pw_or (pt_not (pt_val (pe_def DAH (hr.mono (by decide)) (by rfl) (pa_cons (pv 1) pa_nil)))) (pw_or1 (pt_not (pt_val (pe_def DAP (hr.mono (by decide)) (by rfl) (pa_cons (pe_op op_add pe_int (pe_def DNext (hr.mono (by decide)) (by rfl) (pa_cons (pv 1) (pa_cons pe_int pa_nil)))) pa_nil))))))))
          (pss_one (ps_ret pe_bl))
          pss_nil)))
      (pss_one (ps_ret pe_bl)))), ?_⟩
    refine ⟨.ref sc, rfl, sc, _, rfl, .inl hS, fun L nL => ?_⟩
    generalize hG : upd _ L _ = H1
    obtain ⟨s1, e1⟩ := gen_up hG nL
    clear hG
    refine ⟨(by show 4 ≤ sizeLine; exact small6 (by decide)), fun st nst => ?_⟩
    generalize hG : upd _ st _ = H2
    obtain ⟨s2, e2⟩ := gen_up hG nst
    clear hG
    have g : Good st L H2 := ⟨ns, 0, 0, 1, e2, s2 _ _ e1, by decide, by decide⟩
    refine ⟨3, rfl, by decide, by decide, ?_⟩
    refine for_range (lo := 0) (n := (3 : Int).toNat) (fun i σ H' => (∃ x2, σ = [some (.ref sc), some (.ref st), x2]) ∧ Good st L H') ⟨⟨none, rfl⟩, g⟩ (fun i σ Hi hi hP => ?_) (fun σ H' hP => ?_)
    · obtain ⟨⟨x2, rfl⟩, g⟩ := hP
      refine ⟨.ref st, rfl, st, L, rfl, g, fun H3 d3 => ⟨true, rfl, iteF' rfl ?_⟩⟩
      refine ⟨.ref st, rfl, st, L, rfl, d3.good, fun H4 d4 => ⟨true, rfl, iteF' rfl ?_⟩⟩
      refine ⟨.ref st, rfl, st, L, 341, rfl, d4.good, by decide, by decide, fun v H5 d5 v0 v1 => ⟨60, v, rfl, rfl, _, rfl, fun H6 s6 => ⟨true, rfl, iteF' rfl ⟨⟨_, rfl⟩, ?_⟩⟩⟩⟩
      exact (Dr.same d5.good s6).good
    · exact q H'
/-- a def of the text stands behind the top under its name -/
def DefAt (K : PySem.W.Frag) (x : Str) (st : Stmt) : Prop :=
  ∃ (f : Addr) (od an : Option Addr) (sl : Array (Option Value)) (oc kV dc pm cd ct : Value),
    PySem.W.nsIn K mainGlobals x = some (some (.ref f)) ∧ K.lookup f = some ⟨oc, od, .func (PySem.W.fnOf x x (defArgs st) (defBody st) (defScope st) .none kV dc pm an cd ct), sl⟩ ∧
    PySem.W.codeIn K cd x = true ∧ PySem.W.keepIn K (.ref f) = true
theorem defAt {K : PySem.W.Frag} {x : Str} {st : Stmt} {f : Addr} {od an : Option Addr} {sl : Array (Option Value)} {oc kV dc pm cd ct : Value} (a : PySem.W.nsIn K mainGlobals x = some (some (.ref f)))
    (l : K.lookup f = some ⟨oc, od, .func (PySem.W.fnOf x x (defArgs st) (defBody st) (defScope st) .none kV dc pm an cd ct), sl⟩) (c : PySem.W.codeIn K cd x = true) (k : PySem.W.keepIn K (.ref f) = true) : DefAt K x st :=
  ⟨f, od, an, sl, oc, kV, dc, pm, cd, ct, a, l, c, k⟩
theorem mk_def {x : Str} {st : Stmt} {ps : List Str} {sp : Sp} {k : Nat} (T : DefAt K x st) (X : K.In h) (G : h.Ns mainGlobals mg)
    (bind : ∀ (kV doc pm : Value) (an : Option Addr) (cdv ct : Value) (us : List Value), us.length = ps.length → bindArgs (PySem.W.fnOf x x (defArgs st) (defBody st) (defScope st) .none kV doc pm an cdv ct) ⟨us, []⟩ = pure (ps.zip us))
    (ok : ∀ (f : Addr) (fd : FuncData), Fun K x x st f fd → FnOk P w K mg base CX0 k f fd ps sp) : Def P w K mg base x k ps sp := by
  obtain ⟨f, od, an, sl, oc, kV, dc, pm, cd, ct, a, l, c, kp⟩ := T
  have F := fun_mk l c kp
  exact ⟨f, _, ok f _ F, PySem.W.mg_of X G a, kp, F.binds bind⟩
/-- a whole number of the top -/
def ConAt (K : PySem.W.Frag) (x : Str) (i : Int) : Prop := ∃ t, PySem.W.nsIn K mainGlobals x = some (some (.int i t))
theorem conAt {K : PySem.W.Frag} {x : Str} {i : Int} {t : Tok} (a : PySem.W.nsIn K mainGlobals x = some (some (.int i t))) : ConAt K x i := ⟨t, a⟩
theorem mk_con {x : Str} {i : Int} (T : ConAt K x i) (X : K.In h) (G : h.Ns mainGlobals mg) : ∃ t, mg x = some (.int i t) := by
  obtain ⟨t, a⟩ := T
  exact ⟨t, PySem.W.mg_of X G a⟩
/-- the tuple of the mark -/
def MarkAt (K : PySem.W.Frag) (x : Str) (a b c d : Int) : Prop := ∃ (p : Addr) (od : Option Addr) (n : Nat) (t1 t2 t3 t4 : Tok) (sl : Array (Option Value)), PySem.W.nsIn K mainGlobals x = some (some (.ref p)) ∧ K.lookup p = some ⟨.type "tuple", od, .seq #[.int a t1, .int b t2, .int c t3, .int d t4] n, sl⟩
theorem markAt {K : PySem.W.Frag} {x : Str} {a b c d : Int} {p : Addr} {od : Option Addr} {n : Nat} {t1 t2 t3 t4 : Tok} {sl : Array (Option Value)} (e : PySem.W.nsIn K mainGlobals x = some (some (.ref p))) (l : K.lookup p = some ⟨.type "tuple", od, .seq #[.int a t1, .int b t2, .int c t3, .int d t4] n, sl⟩) : MarkAt K x a b c d := ⟨p, od, n, t1, t2, t3, t4, sl, e, l⟩
/-- what the top has written, and the built-in names that it has not -/
structure Top (K : PySem.W.Frag) : Prop where
  dFX : DefAt K "fixed" sFX
  dNO : DefAt K "number_of" sNO
  dPD : DefAt K "padded" sPD
  dTO : DefAt K "turn_of" sTO
  dCO : DefAt K "count_of" sCO
  dWB : DefAt K "write_block" sWB
  dRB : DefAt K "read_block" sRB
  dHD : DefAt K "head" sHD
  dRH : DefAt K "read_head" sRH
  dAZ : DefAt K "area_size" sAZ
  dAS : DefAt K "area_start" sAS
  dNext : DefAt K "_law_next" sNext
  dSM : DefAt K "_law_same" sSM
  dLF : DefAt K "_law_fixed" sLF
  dLB : DefAt K "_law_block" sLB
  dLT : DefAt K "_law_turn" sLT
  dLY : DefAt K "_law_bytes" sLY
  dLP : DefAt K "_law_put" sLP
  dAB : DefAt K "_law_asks_block" sAB
  dAH : DefAt K "_law_asks_head" sAH
  dAP : DefAt K "_law_asks_places" sAP
  dLaw : DefAt K "law" sLaw
  cTB : ConAt K "TURN_BYTES" 6
  cCB : ConAt K "COUNT_BYTES" 4
  cPB : ConAt K "PIECE_BYTES" 54
  cSB : ConAt K "SECTOR_BYTES" 64
  cHS : ConAt K "HEADS" 2
  cHM : MarkAt K "HEAD_MARK" 82 85 76 69
  z_len : PySem.W.nsIn K mainGlobals "len" = some none
  z_int : PySem.W.nsIn K mainGlobals "int" = some none
  z_isi : PySem.W.nsIn K mainGlobals "isinstance" = some none
  z_bool : PySem.W.nsIn K mainGlobals "bool" = some none
  z_str : PySem.W.nsIn K mainGlobals "str" = some none
  z_tup : PySem.W.nsIn K mainGlobals "tuple" = some none
  z_lst : PySem.W.nsIn K mainGlobals "list" = some none
  z_rng : PySem.W.nsIn K mainGlobals "range" = some none
  z_min : PySem.W.nsIn K mainGlobals "min" = some none
  z_rev : PySem.W.nsIn K mainGlobals "reversed" = some none
  z_any : PySem.W.nsIn K mainGlobals "any" = some none
theorem Top.bt (T : Top K) (X : K.In h) (G : h.Ns mainGlobals mg) : Bt mg :=
  ⟨PySem.W.mg_none_of X G T.z_len, PySem.W.mg_none_of X G T.z_int, PySem.W.mg_none_of X G T.z_isi, PySem.W.mg_none_of X G T.z_bool, PySem.W.mg_none_of X G T.z_str, PySem.W.mg_none_of X G T.z_tup, PySem.W.mg_none_of X G T.z_lst, PySem.W.mg_none_of X G T.z_rng, PySem.W.mg_none_of X G T.z_min, PySem.W.mg_none_of X G T.z_rev, PySem.W.mg_none_of X G T.z_any⟩
theorem Top.ct (T : Top K) (X : K.In h) (G : h.Ns mainGlobals mg) : Ct K mg := by
  refine ⟨mk_con T.cTB X G, mk_con T.cCB X G, mk_con T.cPB X G, mk_con T.cSB X G, mk_con T.cHS X G, ?_⟩
  obtain ⟨p, od, n, t1, t2, t3, t4, sl, e, l⟩ := T.cHM
  exact ⟨p, PySem.W.mg_of X G e, fun H => .inr ⟨_, _, n, l, rfl, rfl, (by show 4 ≤ sizeLine; exact small6 (by decide)), .cons ⟨t1, rfl⟩ (.cons ⟨t2, rfl⟩ (.cons ⟨t3, rfl⟩ (.cons ⟨t4, rfl⟩ .nil)))⟩⟩
theorem all_mk {l : PySem.W.OpenLaw} {fa : Addr} (T : Top K) (X : K.In h) (G : h.Ns mainGlobals mg) (hfa : mg "law" = some (.ref fa)) :
    ∃ fd : FuncData, (∀ (s : Shared) (v : Value), BindsTo s fd ⟨[v], []⟩ [("script", v)]) ∧ ∀ base : Heap, K.In base → base.Ns mainGlobals mg → FnOk l.prog w K mg base CX0 7 fa fd ["script"] (spLaw K) := by
  obtain ⟨f, od, an, sl, oc, kV, dc, pm, cd, ct, a, lk, c, kp⟩ := T.dLaw
  have e := hfa.symm.trans (PySem.W.mg_of X G a)
  cases e
  have F := fun_mk lk c kp
  refine ⟨PySem.W.fnOf "law" "law" (defArgs sLaw) (defBody sLaw) (defScope sLaw) .none kV dc pm an cd ct, fun s v => .of_eq rfl, fun base _ _ => ?_⟩
  have B := T.bt X G
  have C := T.ct X G
  have N : dNext l.prog w K mg base := mk_def T.dNext X G (fun _ _ _ _ _ _ us hl => match us, hl with | [_, _], _ => rfl) fun f fd F => ok_next F B
  have FX : dFX l.prog w K mg base := mk_def T.dFX X G (fun _ _ _ _ _ _ us hl => match us, hl with | [_, _], _ => rfl) fun f fd F => ok_fx F B
  have NO : dNO l.prog w K mg base := mk_def T.dNO X G (fun _ _ _ _ _ _ us hl => match us, hl with | [_], _ => rfl) fun f fd F => ok_no F
  have PD : dPD l.prog w K mg base := mk_def T.dPD X G (fun _ _ _ _ _ _ us hl => match us, hl with | [_, _], _ => rfl) fun f fd F => ok_pd F B
  have TO : dTO l.prog w K mg base := mk_def T.dTO X G (fun _ _ _ _ _ _ us hl => match us, hl with | [_], _ => rfl) fun f fd F => ok_to F B C NO
  have CO : dCO l.prog w K mg base := mk_def T.dCO X G (fun _ _ _ _ _ _ us hl => match us, hl with | [_], _ => rfl) fun f fd F => ok_co F B C NO
  have WB : dWB l.prog w K mg base := mk_def T.dWB X G (fun _ _ _ _ _ _ us hl => match us, hl with | [_, _], _ => rfl) fun f fd F => ok_wb F B C FX PD
  have RB : dRB l.prog w K mg base := mk_def T.dRB X G (fun _ _ _ _ _ _ us hl => match us, hl with | [_, _], _ => rfl) fun f fd F => ok_rb F B C NO TO CO
  have HD : dHD l.prog w K mg base := mk_def T.dHD X G (fun _ _ _ _ _ _ us hl => match us, hl with | [_, _], _ => rfl) fun f fd F => ok_hd F B C FX PD
  have RH : dRH l.prog w K mg base := mk_def T.dRH X G (fun _ _ _ _ _ _ us hl => match us, hl with | [_], _ => rfl) fun f fd F => ok_rh F B C NO HD
  have AZ : dAZ l.prog w K mg base := mk_def T.dAZ X G (fun _ _ _ _ _ _ us hl => match us, hl with | [_], _ => rfl) fun f fd F => ok_az F C
  have AS : dAS l.prog w K mg base := mk_def T.dAS X G (fun _ _ _ _ _ _ us hl => match us, hl with | [_, _], _ => rfl) fun f fd F => ok_as F C AZ
  have S0 : Def l.prog w K mg base "_law_same" 1 ["actual", "expected"] (spSQ 0) := mk_def T.dSM X G (fun _ _ _ _ _ _ us hl => match us, hl with | [_, _], _ => rfl) fun f fd F => ok_sq F B 0 (.inl rfl)
  have Sn : ∀ n, Def l.prog w K mg base "_law_same" (n + 1) ["actual", "expected"] (spSQ n) := fun n => by
    induction n with
    | zero => exact S0
    | succ n ih => exact mk_def T.dSM X G (fun _ _ _ _ _ _ us hl => match us, hl with | [_, _], _ => rfl) fun f fd F => ok_sq F B (n + 1) (.inr ⟨n, rfl, ih⟩)
  have SM : dSQ l.prog w K mg base := Sn 4
  have LF : dLF l.prog w K mg base := mk_def T.dLF X G (fun _ _ _ _ _ _ us hl => match us, hl with | [_, _], _ => rfl) fun f fd F => ok_lf F B
  have LBb : dLB l.prog w K mg base := mk_def T.dLB X G (fun _ _ _ _ _ _ us hl => match us, hl with | [_, _], _ => rfl) fun f fd F => ok_lb F B LF
  have LT : dLT l.prog w K mg base := mk_def T.dLT X G (fun _ _ _ _ _ _ us hl => match us, hl with | [_], _ => rfl) fun f fd F => ok_lt F N
  have LY : dLY l.prog w K mg base := mk_def T.dLY X G (fun _ _ _ _ _ _ us hl => match us, hl with | [_], _ => rfl) fun f fd F => ok_ly F B N
  have LP : dLP l.prog w K mg base := mk_def T.dLP X G (fun _ _ _ _ _ _ us hl => match us, hl with | [_, _, _], _ => rfl) fun f fd F => ok_lp F B
  have AP : dAP l.prog w K mg base := mk_def T.dAP X G (fun _ _ _ _ _ _ us hl => match us, hl with | [_], _ => rfl) fun f fd F => ok_ap F B AZ AS SM
  have AH : dAH l.prog w K mg base := mk_def T.dAH X G (fun _ _ _ _ _ _ us hl => match us, hl with | [_], _ => rfl) fun f fd F => ok_ah F B N LT LF LP HD RH SM
  have AB : dAB l.prog w K mg base := mk_def T.dAB X G (fun _ _ _ _ _ _ us hl => match us, hl with | [_], _ => rfl) fun f fd F => ok_ab F B N LT LF LP LY LBb WB RB SM
  exact ok_law F B N AB AH AP
end
end LK
open PySem PySem.W PyProof.Rows
set_option maxHeartbeats 0 in
theorem PySem.Challenge.cw_rulestead_k07_blocks_and_heads_holds : PySem.Challenge.rw_rulestead_k07_blocks_and_heads.Holds := by
  w_on; o_law; k_head; (case hw => w_witness2)
  k_fill
  refine L2.walk_of (l := PySem.Challenge.rw_rulestead_k07_blocks_and_heads) (n := 63) (k := 7) (x := "script") (CX := fun _ => L2.CX0) (sp := fun w => LK.spLaw _) rfl (by decide) rfl ⟨rfl, by decide, by decide⟩ (fun w h Y => PySem.W.kIn_of Y) ?F (fun _ _ a ns hl _ hS => ⟨a, ns, rfl, hS, hl, fun _ => rfl⟩) (fun _ _ _ _ _ h => h)
  case F =>
    intro w mg fa h KX G hmg
    refine LK.all_mk ?T KX G hmg
    case T =>
      constructor
      all_goals first
        | k_is
        | (refine' LK.defAt ?a ?l ?c ?k; (case a => k_is); (case l => k_is); (case c => k_is); (case k => k_is))
        | (refine' LK.conAt ?a; (case a => k_is))
        | (refine' LK.markAt ?e ?l; (case e => k_is); (case l => k_is))
