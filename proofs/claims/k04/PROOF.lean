import PyProof.Rows.All
import Wide.All
import OpenK.AllK
import Wide.FinOn
import HandS.Base
import HandS.Call
import HandS.List
import HandS.Comp
import HandS.Ends
import KE.DataEq
import KE.LtSeq
import HandS.ForMost
import HandS.IsInst
import HandS.Wide
import HandS.TupAny
import HandS.Codes
import HandS.SetKeys
import HandS.More
import HandS.Defaults
import HandS.DictComp
import HandS.Flow
import HandS.Conv
import HandS.Walk
import HandS.WordsDict
import HandS.RevRange
import HandS.Sort
import PyProof.Rows.Range3
import HandS.Strs
import HandS.Replace
import HandS.ForExc
import HandS.ExcIs
import PySem.Challenge.RW_rulestead_k04_bytes_of_data
set_option Elab.async false
set_option linter.all false
set_option maxRecDepth 100000
set_option maxHeartbeats 8000000
/-! Tuples compared by < and >, where only the first pair that differs need be comparable. -/
namespace KA
open PySem PySem.SeqAt
open PySem.AutoSeq1 (wpAny_loadPart')
open PySem.MeetsSeq PySem.MeetsSeq2 PySem.MeetsSeq3

/-- u op v gives k, nothing changes -/
def Rc (op : CmpOp) (A : Around) (s : Shared) (u v : Value) (k : Bool) : Prop :=
  ∀ (prog : Program) (w : World) (E : Value → Shared → Prop) (Q : Value → Shared → Prop), Q (.bool k) s → wpAny (model prog w) A (richCompare op u v) Q E s
theorem lt_mixed (p q : Addr) (as bs : Array Value) (m m2 : Nat) (da db : Option Addr) (sa sb : Array (Option Value)) (e r : Nat → Bool) :
    Meets (Builtin.«tuple.__lt__» ⟨[.ref p, .ref q], []⟩)
      (fun A R s => s.heap.get? p = some { cls := .type "tuple", dict := da, data := .seq as m, slots := sa } ∧ s.heap.get? q = some { cls := .type "tuple", dict := db, data := .seq bs m2, slots := sb } ∧
        (∀ j (h1 : j < as.size) (h2 : j < bs.size), EqAt A.in1 s as[j] bs[j] (e j)) ∧
        (∀ j (h1 : j < as.size) (h2 : j < bs.size), (∀ i, i < j → e i = true) → e j = false → Rc .Lt A.in1 s as[j] bs[j] (r j)) ∧
        R (.ok (.ret (.bool (firstLt e r (decide (as.size < bs.size)) (List.range (min as.size bs.size)))))) s) :=
  .of_wp fun prog w A R s hyp => by
    obtain ⟨hp, gg, dr, tks, ox⟩ := s
    obtain ⟨gp, gq, heq, hrc, hR0⟩ := hyp
    have isT := AutoSeq1.sub_tuple_tuple
    have zl : (as.toList.zip bs.toList).length = min as.size bs.size := by simp
    wp_walk using wpAny_loadPart' gp, wpAny_loadPart' gq, wpAny_forIn_list _ (fun rem st s' => st.1 = none ∧ s' = ⟨hp, gg, dr, tks, ox⟩ ∧ ∃ i, (∀ x, x < i → e x = true) ∧ rem = (as.toList.zip bs.toList).drop i ∧
      R (.ok (.ret (.bool (firstLt e r (decide (as.size < bs.size)) ((List.range (min as.size bs.size)).drop i))))) ⟨hp, gg, dr, tks, ox⟩) _
    case turn =>
      rintro ⟨u, v⟩ rem st s' ⟨st1, rfl, i, same, hz, hR⟩
      have il : i < (as.toList.zip bs.toList).length := by
        rcases Nat.lt_or_ge i (as.toList.zip bs.toList).length with c | c
        · exact c
        · rw [List.drop_of_length_le c] at hz
          cases hz
      have im : i < min as.size bs.size := zl ▸ il
      have ia : i < as.size := Nat.lt_of_lt_of_le im (Nat.min_le_left _ _)
      have ib : i < bs.size := Nat.lt_of_lt_of_le im (Nat.min_le_right _ _)
      rw [List.drop_eq_getElem_cons il] at hz
      injection hz with huv hrem
      have eu : u = as[i] := by
        have t := congrArg Prod.fst huv
        simpa using t
      have ev : v = bs[i] := by
        have t := congrArg Prod.snd huv
        simpa using t
      subst eu ev
      have hcut : (List.range (min as.size bs.size)).drop i = i :: (List.range (min as.size bs.size)).drop (i + 1) := by
        simp [List.drop_eq_getElem_cons, im]
      rw [hcut] at hR
      refine wpAny_bind (heq i ia ib prog w _ _ ?_)
      cases ei : e i with
      | true =>
        rw [firstLt_yes ei] at hR
        wp_walk
        refine ⟨rfl, rfl, i + 1, fun x hx => ?_, hrem, hR⟩
        rcases Nat.lt_or_ge x i with c | c
        · exact same x c
        · rw [show x = i by omega]
          exact ei
      | false =>
        rw [firstLt_no ei] at hR
        have step := hrc i ia ib same ei prog w
        wp_walk using step
        exact ⟨_, rfl, by simpa using hR⟩
    case fin =>
      rintro ⟨c1, c2⟩ s' ⟨st1, rfl, i, same, hz, hR⟩
      simp only at st1
      subst st1
      have hge : min as.size bs.size ≤ i := by
        rcases Nat.lt_or_ge i (as.toList.zip bs.toList).length with c | c
        · rw [List.drop_eq_getElem_cons c] at hz
          cases hz
        · exact zl ▸ c
      rw [List.drop_of_length_le (by simpa using hge)] at hR
      wp_walk
      exact ⟨_, rfl, by simpa [Builtin.Tuple.tupleCompareSizes, firstLt] using hR⟩
    case h =>
      exact ⟨rfl, rfl, 0, fun x hx => absurd hx (Nat.not_lt_zero x), rfl, by simpa using hR0⟩
theorem gt_mixed (p q : Addr) (as bs : Array Value) (m m2 : Nat) (da db : Option Addr) (sa sb : Array (Option Value)) (e r : Nat → Bool) :
    Meets (Builtin.«tuple.__gt__» ⟨[.ref p, .ref q], []⟩)
      (fun A R s => s.heap.get? p = some { cls := .type "tuple", dict := da, data := .seq as m, slots := sa } ∧ s.heap.get? q = some { cls := .type "tuple", dict := db, data := .seq bs m2, slots := sb } ∧
        (∀ j (h1 : j < as.size) (h2 : j < bs.size), EqAt A.in1 s as[j] bs[j] (e j)) ∧
        (∀ j (h1 : j < as.size) (h2 : j < bs.size), (∀ i, i < j → e i = true) → e j = false → Rc .Gt A.in1 s as[j] bs[j] (r j)) ∧
        R (.ok (.ret (.bool (firstLt e r (decide (as.size > bs.size)) (List.range (min as.size bs.size)))))) s) :=
  .of_wp fun prog w A R s hyp => by
    obtain ⟨hp, gg, dr, tks, ox⟩ := s
    obtain ⟨gp, gq, heq, hrc, hR0⟩ := hyp
    have isT := AutoSeq1.sub_tuple_tuple
    have zl : (as.toList.zip bs.toList).length = min as.size bs.size := by simp
    wp_walk using wpAny_loadPart' gp, wpAny_loadPart' gq, wpAny_forIn_list _ (fun rem st s' => st.1 = none ∧ s' = ⟨hp, gg, dr, tks, ox⟩ ∧ ∃ i, (∀ x, x < i → e x = true) ∧ rem = (as.toList.zip bs.toList).drop i ∧
      R (.ok (.ret (.bool (firstLt e r (decide (as.size > bs.size)) ((List.range (min as.size bs.size)).drop i))))) ⟨hp, gg, dr, tks, ox⟩) _
    case turn =>
      rintro ⟨u, v⟩ rem st s' ⟨st1, rfl, i, same, hz, hR⟩
      have il : i < (as.toList.zip bs.toList).length := by
        rcases Nat.lt_or_ge i (as.toList.zip bs.toList).length with c | c
        · exact c
        · rw [List.drop_of_length_le c] at hz
          cases hz
      have im : i < min as.size bs.size := zl ▸ il
      have ia : i < as.size := Nat.lt_of_lt_of_le im (Nat.min_le_left _ _)
      have ib : i < bs.size := Nat.lt_of_lt_of_le im (Nat.min_le_right _ _)
      rw [List.drop_eq_getElem_cons il] at hz
      injection hz with huv hrem
      have eu : u = as[i] := by
        have t := congrArg Prod.fst huv
        simpa using t
      have ev : v = bs[i] := by
        have t := congrArg Prod.snd huv
        simpa using t
      subst eu ev
      have hcut : (List.range (min as.size bs.size)).drop i = i :: (List.range (min as.size bs.size)).drop (i + 1) := by
        simp [List.drop_eq_getElem_cons, im]
      rw [hcut] at hR
      refine wpAny_bind (heq i ia ib prog w _ _ ?_)
      cases ei : e i with
      | true =>
        rw [firstLt_yes ei] at hR
        wp_walk
        refine ⟨rfl, rfl, i + 1, fun x hx => ?_, hrem, hR⟩
        rcases Nat.lt_or_ge x i with c | c
        · exact same x c
        · rw [show x = i by omega]
          exact ei
      | false =>
        rw [firstLt_no ei] at hR
        have step := hrc i ia ib same ei prog w
        wp_walk using step
        exact ⟨_, rfl, by simpa using hR⟩
    case fin =>
      rintro ⟨c1, c2⟩ s' ⟨st1, rfl, i, same, hz, hR⟩
      simp only at st1
      subst st1
      have hge : min as.size bs.size ≤ i := by
        rcases Nat.lt_or_ge i (as.toList.zip bs.toList).length with c | c
        · rw [List.drop_eq_getElem_cons c] at hz
          cases hz
        · exact zl ▸ c
      rw [List.drop_of_length_le (by simpa using hge)] at hR
      wp_walk
      exact ⟨_, rfl, by simpa [Builtin.Tuple.tupleCompareSizes, firstLt] using hR⟩
    case h =>
      exact ⟨rfl, rfl, 0, fun x hx => absurd hx (Nat.not_lt_zero x), rfl, by simpa using hR0⟩
section
variable {A : Around} {s : Shared} {p q : Addr} {as bs : Array Value} {e r : Nat → Bool}
theorem rc_lt_tups (hp : s.heap.IsTuple p as) (hq : s.heap.IsTuple q bs) (hu : A.units < cLine) (he : ∀ j (h1 : j < as.size) (h2 : j < bs.size), EqAt A.in1 s as[j] bs[j] (e j))
    (hr : ∀ j (h1 : j < as.size) (h2 : j < bs.size), (∀ i, i < j → e i = true) → e j = false → Rc .Lt A.in1 s as[j] bs[j] (r j)) :
    Rc .Lt A s (.ref p) (.ref q) (firstLt e r (decide (as.size < bs.size)) (List.range (min as.size bs.size))) := fun prog w E Q k => by
  obtain ⟨⟨c1, d1, x1, z1⟩, o1, k1, n1, w1⟩ := id hp
  obtain ⟨⟨c2, d2, x2, z2⟩, o2, k2, n2, w2⟩ := id hq
  simp only at k1 w1 k2 w2
  subst k1 w1 k2 w2
  refine richCompare_meets_room (op := .Lt) ⟨_, o1, rfl⟩ ⟨_, o2, rfl⟩ F.slot_tuple_lt F.entry_tuple_lt (F.args_tuple_lt_2 _ _) (lt_mixed p q as bs n1 n2 d1 d2 z1 z2 e r) ?_ hu
  exact ⟨o1, o2, he, hr, ⟨(fun x => nomatch x), k⟩⟩
theorem rc_gt_tups (hp : s.heap.IsTuple p as) (hq : s.heap.IsTuple q bs) (hu : A.units < cLine) (he : ∀ j (h1 : j < as.size) (h2 : j < bs.size), EqAt A.in1 s as[j] bs[j] (e j))
    (hr : ∀ j (h1 : j < as.size) (h2 : j < bs.size), (∀ i, i < j → e i = true) → e j = false → Rc .Gt A.in1 s as[j] bs[j] (r j)) :
    Rc .Gt A s (.ref p) (.ref q) (firstLt e r (decide (as.size > bs.size)) (List.range (min as.size bs.size))) := fun prog w E Q k => by
  obtain ⟨⟨c1, d1, x1, z1⟩, o1, k1, n1, w1⟩ := id hp
  obtain ⟨⟨c2, d2, x2, z2⟩, o2, k2, n2, w2⟩ := id hq
  simp only at k1 w1 k2 w2
  subst k1 w1 k2 w2
  refine richCompare_meets_room (op := .Gt) ⟨_, o1, rfl⟩ ⟨_, o2, rfl⟩ F.slot_tuple_gt F.entry_tuple_gt (F.args_tuple_gt_2 _ _) (gt_mixed p q as bs n1 n2 d1 d2 z1 z2 e r) ?_ hu
  exact ⟨o1, o2, he, hr, ⟨(fun x => nomatch x), k⟩⟩
end
end KA

/-! < and > of data whose items may be of unlike kinds behind the first difference. -/
namespace KA
open PySem PySem.SeqAt
mutual
/-- x < y as Python says; none: not comparable -/
def dlt : PyData → PyData → Option Bool
  | .int a, .int b => some (decide (a < b))
  | .str a, .str b => some (decide (a.cps.toList < b.cps.toList))
  | .tuple xs, .tuple ys => dltAll xs ys
  | _, _ => none
def dltAll : List PyData → List PyData → Option Bool
  | [], [] => some false
  | [], _ :: _ => some true
  | _ :: _, [] => some false
  | x :: xs, y :: ys => if PyData.eqv x y = true then dltAll xs ys else dlt x y
end
mutual
def dgt : PyData → PyData → Option Bool
  | .int a, .int b => some (decide (a > b))
  | .str a, .str b => some (decide (b.cps.toList < a.cps.toList))
  | .tuple xs, .tuple ys => dgtAll xs ys
  | _, _ => none
def dgtAll : List PyData → List PyData → Option Bool
  | [], [] => some false
  | [], _ :: _ => some false
  | _ :: _, [] => some true
  | x :: xs, y :: ys => if PyData.eqv x y = true then dgtAll xs ys else dgt x y
end
/-- what the first unequal pair gives, by place -/
def rAt (f : PyData → PyData → Option Bool) (xs ys : List PyData) (j : Nat) : Bool :=
  match xs[j]?, ys[j]? with
  | some x, some y => (f x y).getD false
  | _, _ => false
theorem scan_succ (e r : Nat → Bool) (z : Bool) : ∀ l : List Nat, firstLt e r z (l.map (· + 1)) = firstLt (fun j => e (j + 1)) (fun j => r (j + 1)) z l
  | [] => rfl
  | j :: t => by
    rw [List.map_cons]
    show (if e (j + 1) = true then firstLt e r z (t.map (· + 1)) else r (j + 1)) = _
    rw [scan_succ e r z t]
    rfl
theorem scan_lt : ∀ (xs ys : List PyData) (k : Bool), dltAll xs ys = some k → firstLt (pairEq xs ys) (rAt dlt xs ys) (decide (xs.length < ys.length)) (List.range (min xs.length ys.length)) = k
  | [], [], k, h => by
    rw [dltAll] at h
    exact (Option.some.inj h)
  | [], y :: ys, k, h => by
    rw [dltAll] at h
    rw [← Option.some.inj h]
    simp [firstLt]
  | x :: xs, [], k, h => by
    rw [dltAll] at h
    rw [← Option.some.inj h]
    simp [firstLt]
  | x :: xs, y :: ys, k, h => by
    rw [dltAll] at h
    have em : min (x :: xs).length (y :: ys).length = min xs.length ys.length + 1 := by
      rw [List.length_cons, List.length_cons]
      omega
    rw [em, List.range_succ_eq_map]
    by_cases hxy : PyData.eqv x y = true
    · rw [if_pos hxy] at h
      rw [firstLt_yes (show pairEq (x :: xs) (y :: ys) 0 = true from hxy), scan_succ, ← scan_lt xs ys k h]
      simp only [List.length_cons, Nat.add_lt_add_iff_right]
      rfl
    · rw [if_neg hxy] at h
      have hf : PyData.eqv x y = false := by
        cases c : PyData.eqv x y
        · rfl
        · exact absurd c hxy
      rw [firstLt_no (show pairEq (x :: xs) (y :: ys) 0 = false from hf)]
      show (dlt x y).getD false = k
      rw [h]
      rfl
theorem scan_gt : ∀ (xs ys : List PyData) (k : Bool), dgtAll xs ys = some k → firstLt (pairEq xs ys) (rAt dgt xs ys) (decide (xs.length > ys.length)) (List.range (min xs.length ys.length)) = k
  | [], [], k, h => by
    rw [dgtAll] at h
    exact (Option.some.inj h)
  | [], y :: ys, k, h => by
    rw [dgtAll] at h
    rw [← Option.some.inj h]
    simp [firstLt]
  | x :: xs, [], k, h => by
    rw [dgtAll] at h
    rw [← Option.some.inj h]
    simp [firstLt]
  | x :: xs, y :: ys, k, h => by
    rw [dgtAll] at h
    have em : min (x :: xs).length (y :: ys).length = min xs.length ys.length + 1 := by
      rw [List.length_cons, List.length_cons]
      omega
    rw [em, List.range_succ_eq_map]
    by_cases hxy : PyData.eqv x y = true
    · rw [if_pos hxy] at h
      rw [firstLt_yes (show pairEq (x :: xs) (y :: ys) 0 = true from hxy), scan_succ, ← scan_gt xs ys k h]
      simp only [List.length_cons, gt_iff_lt, Nat.add_lt_add_iff_right]
      rfl
    · rw [if_neg hxy] at h
      have hf : PyData.eqv x y = false := by
        cases c : PyData.eqv x y
        · rfl
        · exact absurd c hxy
      rw [firstLt_no (show pairEq (x :: xs) (y :: ys) 0 = false from hf)]
      show (dgt x y).getD false = k
      rw [h]
      rfl
mutual
theorem rc_lt : ∀ (d e : PyData) (k : Bool) (A : Around) (s : Shared) (a b : Value) (as bs : List Addr), Reads s.heap a d as → Reads s.heap b e bs → d.plain = true → e.plain = true → dlt d e = some k →
    A.units + min d.depth e.depth < cLine → Rc .Lt A s a b k
  | .int x, e, k, A, s, a, b, as, bs, ra, rb, pd, pe, h, hu => by
    cases e with
    | int y =>
      cases ra
      cases rb
      intro prog w E Q hq
      rw [dlt] at h
      cases h
      exact P.lt_int hq
    | _ => exact absurd h (by simp [dlt])
  | .str x, e, k, A, s, a, b, as, bs, ra, rb, pd, pe, h, hu => by
    cases e with
    | str y =>
      cases ra
      cases rb
      intro prog w E Q hq
      rw [dlt] at h
      cases h
      exact P.lt_str hq
    | _ => exact absurd h (by simp [dlt])
  | .tuple xs, e, k, A, s, a, b, as, bs, ra, rb, pd, pe, h, hu => by
    cases e with
    | tuple ys =>
      rw [dlt] at h
      cases ra with
      | @tuple l o vs n _ as1 h1 h2 h3 h4 =>
        cases rb with
        | @tuple l2 o2 vs2 n2 _ bs1 k1 k2 k3 k4 =>
          have z1 : vs.size = xs.length := by simpa using ReadsAll.length _ _ _ h4
          have z2 : vs2.size = ys.length := by simpa using ReadsAll.length _ _ _ k4
          have px : PyData.plainAll xs = true := pd
          have py : PyData.plainAll ys = true := pe
          have q := rc_lt_tups (A := A) (s := s) (e := pairEq xs ys) (r := rAt dlt xs ys) ⟨_, h1, h2, _, h3⟩ ⟨_, k1, k2, _, k3⟩ (room_here hu) (fun j j1 j2 => by
            have t := eqAt_plainAll xs ys A.in1 s vs.toList vs2.toList _ _ h4 k4 px py (room_in hu) j (by simpa using j1) (by simpa using j2)
            simpa using t) (fun j j1 j2 hb hj => by
            have t := rc_ltAll xs ys k A.in1 s vs.toList vs2.toList _ _ h4 k4 px py h (room_in hu) j (by simpa using j1) (by simpa using j2) hb hj
            simpa using t)
          rw [z1, z2, scan_lt xs ys k h] at q
          exact q
    | _ => exact absurd h (by simp [dlt])
  | .none, e, k, _, _, _, _, _, _, _, _, _, _, h, _ => absurd h (by cases e <;> simp [dlt])
  | .bool _, e, k, _, _, _, _, _, _, _, _, _, _, h, _ => absurd h (by cases e <;> simp [dlt])
  | .list _, e, k, _, _, _, _, _, _, _, _, _, _, h, _ => absurd h (by cases e <;> simp [dlt])
  | .dict _, e, k, _, _, _, _, _, _, _, _, _, _, h, _ => absurd h (by cases e <;> simp [dlt])
theorem rc_ltAll : ∀ (xs ys : List PyData) (k : Bool) (A : Around) (s : Shared) (vs ws : List Value) (as bs : List Addr), ReadsAll s.heap vs xs as → ReadsAll s.heap ws ys bs → PyData.plainAll xs = true → PyData.plainAll ys = true →
    dltAll xs ys = some k → A.units + min (PyData.depthAll xs) (PyData.depthAll ys) < cLine → ∀ j (h1 : j < vs.length) (h2 : j < ws.length), (∀ i, i < j → pairEq xs ys i = true) → pairEq xs ys j = false →
    Rc .Lt A s vs[j] ws[j] (rAt dlt xs ys j)
  | [], _, _, _, _, _, _, _, _, ra, _, _, _, _, _, j, h1, _, _, _ => by
    cases ra
    exact absurd h1 (Nat.not_lt_zero _)
  | _ :: _, [], _, _, _, _, _, _, _, _, rb, _, _, _, _, j, _, h2, _, _ => by
    cases rb
    exact absurd h2 (Nat.not_lt_zero _)
  | x :: xs, y :: ys, k, A, s, _, _, _, _, ra, rb, pa, pb, h, hu, j, h1, h2, hb, hj => by
    have pa2 : x.plain = true ∧ PyData.plainAll xs = true := by simpa [PyData.plainAll] using pa
    have pb2 : y.plain = true ∧ PyData.plainAll ys = true := by simpa [PyData.plainAll] using pb
    rw [dltAll] at h
    cases ra with
    | cons r rs =>
      cases rb with
      | cons t ts =>
        cases j with
        | zero =>
          have hf : PyData.eqv x y = false := hj
          rw [if_neg (by rw [hf]; exact Bool.false_ne_true)] at h
          have q := rc_lt x y k A s _ _ _ _ r t pa2.1 pb2.1 h (room_head hu)
          have ek : rAt dlt (x :: xs) (y :: ys) 0 = k := by
            show (dlt x y).getD false = k
            rw [h]
            rfl
          rw [ek]
          exact q
        | succ j =>
          have ht : PyData.eqv x y = true := hb 0 (Nat.zero_lt_succ j)
          rw [if_pos ht] at h
          exact rc_ltAll xs ys k A s _ _ _ _ rs ts pa2.2 pb2.2 h (room_tail hu) j (Nat.lt_of_succ_lt_succ h1) (Nat.lt_of_succ_lt_succ h2) (fun i hi => hb (i + 1) (Nat.succ_lt_succ hi)) hj
end
mutual
theorem rc_gt : ∀ (d e : PyData) (k : Bool) (A : Around) (s : Shared) (a b : Value) (as bs : List Addr), Reads s.heap a d as → Reads s.heap b e bs → d.plain = true → e.plain = true → dgt d e = some k →
    A.units + min d.depth e.depth < cLine → Rc .Gt A s a b k
  | .int x, e, k, A, s, a, b, as, bs, ra, rb, pd, pe, h, hu => by
    cases e with
    | int y =>
      cases ra
      cases rb
      intro prog w E Q hq
      rw [dgt] at h
      cases h
      exact P.gt_int hq
    | _ => exact absurd h (by simp [dgt])
  | .str x, e, k, A, s, a, b, as, bs, ra, rb, pd, pe, h, hu => by
    cases e with
    | str y =>
      cases ra
      cases rb
      intro prog w E Q hq
      rw [dgt] at h
      cases h
      exact P.gt_str hq
    | _ => exact absurd h (by simp [dgt])
  | .tuple xs, e, k, A, s, a, b, as, bs, ra, rb, pd, pe, h, hu => by
    cases e with
    | tuple ys =>
      rw [dgt] at h
      cases ra with
      | @tuple l o vs n _ as1 h1 h2 h3 h4 =>
        cases rb with
        | @tuple l2 o2 vs2 n2 _ bs1 k1 k2 k3 k4 =>
          have z1 : vs.size = xs.length := by simpa using ReadsAll.length _ _ _ h4
          have z2 : vs2.size = ys.length := by simpa using ReadsAll.length _ _ _ k4
          have px : PyData.plainAll xs = true := pd
          have py : PyData.plainAll ys = true := pe
          have q := rc_gt_tups (A := A) (s := s) (e := pairEq xs ys) (r := rAt dgt xs ys) ⟨_, h1, h2, _, h3⟩ ⟨_, k1, k2, _, k3⟩ (room_here hu) (fun j j1 j2 => by
            have t := eqAt_plainAll xs ys A.in1 s vs.toList vs2.toList _ _ h4 k4 px py (room_in hu) j (by simpa using j1) (by simpa using j2)
            simpa using t) (fun j j1 j2 hb hj => by
            have t := rc_gtAll xs ys k A.in1 s vs.toList vs2.toList _ _ h4 k4 px py h (room_in hu) j (by simpa using j1) (by simpa using j2) hb hj
            simpa using t)
          rw [z1, z2, scan_gt xs ys k h] at q
          exact q
    | _ => exact absurd h (by simp [dgt])
  | .none, e, k, _, _, _, _, _, _, _, _, _, _, h, _ => absurd h (by cases e <;> simp [dgt])
  | .bool _, e, k, _, _, _, _, _, _, _, _, _, _, h, _ => absurd h (by cases e <;> simp [dgt])
  | .list _, e, k, _, _, _, _, _, _, _, _, _, _, h, _ => absurd h (by cases e <;> simp [dgt])
  | .dict _, e, k, _, _, _, _, _, _, _, _, _, _, h, _ => absurd h (by cases e <;> simp [dgt])
theorem rc_gtAll : ∀ (xs ys : List PyData) (k : Bool) (A : Around) (s : Shared) (vs ws : List Value) (as bs : List Addr), ReadsAll s.heap vs xs as → ReadsAll s.heap ws ys bs → PyData.plainAll xs = true → PyData.plainAll ys = true →
    dgtAll xs ys = some k → A.units + min (PyData.depthAll xs) (PyData.depthAll ys) < cLine → ∀ j (h1 : j < vs.length) (h2 : j < ws.length), (∀ i, i < j → pairEq xs ys i = true) → pairEq xs ys j = false →
    Rc .Gt A s vs[j] ws[j] (rAt dgt xs ys j)
  | [], _, _, _, _, _, _, _, _, ra, _, _, _, _, _, j, h1, _, _, _ => by
    cases ra
    exact absurd h1 (Nat.not_lt_zero _)
  | _ :: _, [], _, _, _, _, _, _, _, _, rb, _, _, _, _, j, _, h2, _, _ => by
    cases rb
    exact absurd h2 (Nat.not_lt_zero _)
  | x :: xs, y :: ys, k, A, s, _, _, _, _, ra, rb, pa, pb, h, hu, j, h1, h2, hb, hj => by
    have pa2 : x.plain = true ∧ PyData.plainAll xs = true := by simpa [PyData.plainAll] using pa
    have pb2 : y.plain = true ∧ PyData.plainAll ys = true := by simpa [PyData.plainAll] using pb
    rw [dgtAll] at h
    cases ra with
    | cons r rs =>
      cases rb with
      | cons t ts =>
        cases j with
        | zero =>
          have hf : PyData.eqv x y = false := hj
          rw [if_neg (by rw [hf]; exact Bool.false_ne_true)] at h
          have q := rc_gt x y k A s _ _ _ _ r t pa2.1 pb2.1 h (room_head hu)
          have ek : rAt dgt (x :: xs) (y :: ys) 0 = k := by
            show (dgt x y).getD false = k
            rw [h]
            rfl
          rw [ek]
          exact q
        | succ j =>
          have ht : PyData.eqv x y = true := hb 0 (Nat.zero_lt_succ j)
          rw [if_pos ht] at h
          exact rc_gtAll xs ys k A s _ _ _ _ rs ts pa2.2 pb2.2 h (room_tail hu) j (Nat.lt_of_succ_lt_succ h1) (Nat.lt_of_succ_lt_succ h2) (fun i hi => hb (i + 1) (Nat.succ_lt_succ hi)) hj
end
end KA

/-! Rules over the layer: data of tuples read by values, their comparisons, items of lists. -/
namespace KA
open PySem PySem.Spec PyProof.Rows L2
mutual
/-- a value that reads as data over the tuples that stand at H -/
inductive Tp (H : Hp) : V → PyData → Prop
  | non : Tp H .non .none
  | bl (b : Bool) : Tp H (.bl b) (.bool b)
  | int (i : Int) : Tp H (.int i) (.int i)
  | str (x : Str) : Tp H (.str x) (.str x)
  | tup {a : Addr} {xs : List V} {ds : List PyData} : H a = some (.tup xs) → Tps H xs ds → Tp H (.ref a) (.tuple ds)
inductive Tps (H : Hp) : List V → List PyData → Prop
  | nil : Tps H [] []
  | cons {v : V} {vs : List V} {d : PyData} {ds : List PyData} : Tp H v d → Tps H vs ds → Tps H (v :: vs) (d :: ds)
end
/-- the tuples stay -/
def Tk (H H' : Hp) : Prop := ∀ a xs, H a = some (.tup xs) → H' a = some (.tup xs)
theorem Tk.refl (H : Hp) : Tk H H := fun _ _ h => h
theorem Tk.trans {H H1 H2 : Hp} (a : Tk H H1) (b : Tk H1 H2) : Tk H H2 := fun x o h => b x o (a x o h)
theorem Tk.of {H H' : Hp} (s : Same H H') : Tk H H' := fun a _ h => s a _ h
theorem Tk.new {H : Hp} {p : Addr} {o : HO} (h : H p = none) : Tk H (upd H p o) := fun a xs e => by
  rw [upd_ne (ne_of_none e h)]
  exact e
theorem Tk.lst {H : Hp} {p : Addr} {ys : List V} {o : HO} (h : H p = some (.lst ys)) : Tk H (upd H p o) := fun a xs e => by
  rw [upd_ne (ne_of e h (fun z => by cases z))]
  exact e
mutual
theorem Tp.mono {H H' : Hp} (k : Tk H H') : ∀ {d : PyData} {v : V}, Tp H v d → Tp H' v d
  | .none, _, h => by cases h; exact .non
  | .bool _, _, h => by cases h; exact .bl _
  | .int _, _, h => by cases h; exact .int _
  | .str _, _, h => by cases h; exact .str _
  | .tuple _, _, h => by
    cases h with
    | tup e r => exact .tup (k _ _ e) (Tps.mono k r)
  | .list _, _, h => nomatch h
  | .dict _, _, h => nomatch h
theorem Tps.mono {H H' : Hp} (k : Tk H H') : ∀ {ds : List PyData} {vs : List V}, Tps H vs ds → Tps H' vs ds
  | [], _, h => by cases h; exact .nil
  | _ :: _, _, h => by
    cases h with
    | cons a r => exact .cons (Tp.mono k a) (Tps.mono k r)
end
mutual
theorem Tp.dp {K : PySem.W.Frag} {H : Hp} : ∀ {d : PyData} {v : V}, Tp H v d → Dp K H v d
  | .none, _, h => by cases h; exact .non
  | .bool _, _, h => by cases h; exact .bl _
  | .int _, _, h => by cases h; exact .int _
  | .str _, _, h => by cases h; exact .str _
  | .tuple _, _, h => by
    cases h with
    | tup e r => exact .tup (SqT.of e) (Tps.dp r)
  | .list _, _, h => nomatch h
  | .dict _, _, h => nomatch h
theorem Tps.dp {K : PySem.W.Frag} {H : Hp} : ∀ {ds : List PyData} {vs : List V}, Tps H vs ds → DpAll K H vs ds
  | [], _, h => by cases h; exact .nil
  | _ :: _, _, h => by
    cases h with
    | cons a r => exact .cons (Tp.dp a) (Tps.dp r)
end
mutual
theorem Tp.plain {H : Hp} : ∀ {d : PyData} {v : V}, Tp H v d → d.plain = true
  | .none, _, _ => rfl
  | .bool _, _, _ => rfl
  | .int _, _, _ => rfl
  | .str _, _, _ => rfl
  | .tuple _, _, h => by
    cases h with
    | tup e r => exact Tps.plain r
  | .list _, _, h => nomatch h
  | .dict _, _, h => nomatch h
theorem Tps.plain {H : Hp} : ∀ {ds : List PyData} {vs : List V}, Tps H vs ds → PyData.plainAll ds = true
  | [], _, _ => rfl
  | _ :: _, _, h => by
    cases h with
    | cons a r =>
      rw [PyData.plainAll, Tp.plain a, Tps.plain r]
      rfl
end
theorem Tps.length {H : Hp} : ∀ {ds : List PyData} {vs : List V}, Tps H vs ds → vs.length = ds.length
  | [], _, h => by cases h; rfl
  | _ :: _, _, h => by
    cases h with
    | cons a r => rw [List.length_cons, List.length_cons, Tps.length r]
theorem Tps.get {H : Hp} : ∀ {ds : List PyData} {vs : List V} {i : Nat} {v : V}, Tps H vs ds → vs[i]? = some v → ∃ d, ds[i]? = some d ∧ Tp H v d
  | [], _, _, _, h, e => by
    cases h
    simp at e
  | d :: _, _, 0, _, h, e => by
    cases h with
    | cons a r =>
      cases e
      exact ⟨d, rfl, a⟩
  | _ :: _, _, i + 1, _, h, e => by
    cases h with
    | cons a r => exact Tps.get (i := i) r e
theorem Tps.at_ {H : Hp} : ∀ {ds : List PyData} {vs : List V} {i : Nat} {d : PyData}, Tps H vs ds → ds[i]? = some d → ∃ v, vs[i]? = some v ∧ Tp H v d
  | [], _, _, _, h, e => by
    simp at e
  | d :: _, _, 0, _, h, e => by
    cases h with
    | cons a r =>
      cases e
      exact ⟨_, rfl, a⟩
  | _ :: _, _, i + 1, _, h, e => by
    cases h with
    | cons a r => exact Tps.at_ (i := i) r e
theorem Tps.append {H : Hp} : ∀ {ds es : List PyData} {vs ws : List V}, Tps H vs ds → Tps H ws es → Tps H (vs ++ ws) (ds ++ es)
  | [], _, _, _, h, h2 => by cases h; exact h2
  | _ :: _, _, _, _, h, h2 => by
    cases h with
    | cons a r => exact .cons a (Tps.append r h2)

section
variable {X : Cx}
/-- the room that a comparison of data wants -/
def small (d : PyData) : Prop := d.depth ≤ 64
theorem room_d {X : Cx} {d e : PyData} (hu : X.A.units + 64 < cLine) (sd : small d) : X.A.units + min d.depth e.depth < cLine :=
  Nat.lt_of_le_of_lt (Nat.add_le_add_left (Nat.le_trans (Nat.min_le_left _ _) sd) _) hu
def rEqP : R2 := fun x y H Q => ∃ d e, Tp H x d ∧ Tp H y e ∧ small d ∧ Q (.bl (PyData.eqv d e)) H
def rNeP : R2 := fun x y H Q => ∃ d e, Tp H x d ∧ Tp H y e ∧ small d ∧ Q (.bl (!PyData.eqv d e)) H
def rLtP : R2 := fun x y H Q => ∃ d e k, Tp H x d ∧ Tp H y e ∧ small d ∧ dlt d e = some k ∧ Q (.bl k) H
def rGtP : R2 := fun x y H Q => ∃ d e k, Tp H x d ∧ Tp H y e ∧ small d ∧ dgt d e = some k ∧ Q (.bl k) H
theorem op_eqP (hu : X.A.units + 64 < cLine) : OpR X (compareOp .Eq) rEqP := by
  intro pins s σ H x y v u Q I rx ry h
  obtain ⟨d, e, hd, he, sd, q⟩ := h
  obtain ⟨as, r1⟩ := Dp.reads I d x v hd.dp rx
  obtain ⟨bs, r2⟩ := Dp.reads I e y u he.dp ry
  exact SeqAt.eq_plain r1 r2 hd.plain he.plain (room_d hu sd) ⟨.bl _, H, I, rfl, q⟩
theorem op_neP (hu : X.A.units + 64 < cLine) : OpR X (compareOp .NotEq) rNeP := by
  intro pins s σ H x y v u Q I rx ry h
  obtain ⟨d, e, hd, he, sd, q⟩ := h
  obtain ⟨as, r1⟩ := Dp.reads I d x v hd.dp rx
  obtain ⟨bs, r2⟩ := Dp.reads I e y u he.dp ry
  exact SeqAt.ne_plain r1 r2 hd.plain he.plain (room_d hu sd) ⟨.bl _, H, I, rfl, q⟩
theorem op_ltP (hu : X.A.units + 64 < cLine) : OpR X (compareOp .Lt) rLtP := by
  intro pins s σ H x y v u Q I rx ry h
  obtain ⟨d, e, k, hd, he, sd, hk, q⟩ := h
  obtain ⟨as, r1⟩ := Dp.reads I d x v hd.dp rx
  obtain ⟨bs, r2⟩ := Dp.reads I e y u he.dp ry
  exact rc_lt d e k _ _ _ _ _ _ r1 r2 hd.plain he.plain hk (room_d hu sd) _ _ _ _ ⟨.bl _, H, I, rfl, q⟩
theorem op_gtP (hu : X.A.units + 64 < cLine) : OpR X (compareOp .Gt) rGtP := by
  intro pins s σ H x y v u Q I rx ry h
  obtain ⟨d, e, k, hd, he, sd, hk, q⟩ := h
  obtain ⟨as, r1⟩ := Dp.reads I d x v hd.dp rx
  obtain ⟨bs, r2⟩ := Dp.reads I e y u he.dp ry
  exact rc_gt d e k _ _ _ _ _ _ r1 r2 hd.plain he.plain hk (room_d hu sd) _ _ _ _ ⟨.bl _, H, I, rfl, q⟩
/-- xs[i] of a list, the place not below 0, as an operator's left side asks it -/
def rGetN : V → V → Hp → VK → Prop := fun x y H Q => ∃ p xs, ∃ i : Nat, ∃ v, x = .ref p ∧ y = .int i ∧ H p = some (.lst xs) ∧ xs[i]? = some v ∧ Q v H
theorem get_list : PGet X rGetN := by
  intro pins s σ H o i ov iv Q I ro ri h
  obtain ⟨p, xs, n, v, rfl, rfl, hp, hv, q⟩ := h
  cases ro
  obtain ⟨t, rfl⟩ := ri
  obtain ⟨its, r, pl, hz⟩ := I.list (SqL.of hp)
  obtain ⟨w, ew, rw'⟩ := r.get hv
  have hl := r.length
  have hn := line63
  have hi : n < xs.length := by
    rcases Nat.lt_or_ge n xs.length with c | c
    · exact c
    · rw [List.getElem?_eq_none c] at hv
      cases hv
  exact wpAny_getItem_list pl.isList (by omega) (by omega) (by simpa using ew) ⟨v, H, I, rw', q⟩
end
/-- what a value is, for isinstance -/
theorem Tp.tyx {K : PySem.W.Frag} {H : Hp} {v : V} {d : PyData} (h : Tp H v d) : ∃ n, TyX K H v (.type n) ∧
    n = (match d with | .none => "NoneType" | .bool _ => "bool" | .int _ => "int" | .str _ => "str" | .tuple _ => "tuple" | .list _ => "list" | .dict _ => "dict") := by
  cases h with
  | non => exact ⟨_, .base .non, rfl⟩
  | bl b => exact ⟨_, .base (.bl b), rfl⟩
  | int i => exact ⟨_, .base (.int i), rfl⟩
  | str x => exact ⟨_, .base (.str x), rfl⟩
  | tup e r => exact ⟨_, .base (.tup e), rfl⟩
end KA

namespace KV
open PySem PySem.Spec PyProof.Rows L2 KA
/-! ### the text -/
def topS (i : Nat) : Stmt := PySem.Challenge.pw_rulestead_k04_bytes_of_data.main.body.getD i (.Pass ⟨0, 0, 0, 0⟩)
/-- the built-in names that are still the built-in ones -/
structure Bt (mg : Str → Option Value) : Prop where
  len : mg "len" = none
  int : mg "int" = none
  isi : mg "isinstance" = none
  bool : mg "bool" = none
  str : mg "str" = none
  tup : mg "tuple" = none
  lst : mg "list" = none
  rng : mg "range" = none
  min : mg "min" = none
/-! ### the drawing state -/
/-- all that is tracked but the state's own list stays -/
def Kp (st : Addr) (H H' : Hp) : Prop := ∀ a o, a ≠ st → H a = some o → H' a = some o
theorem Kp.refl (st : Addr) (H : Hp) : Kp st H H := fun _ _ _ h => h
theorem Kp.trans {st : Addr} {H H1 H2 : Hp} (a : Kp st H H1) (b : Kp st H1 H2) : Kp st H H2 := fun x o n h => b x o n (a x o n h)
theorem Kp.of {st : Addr} {H H' : Hp} (s : Same H H') : Kp st H H' := fun a o _ h => s a o h
theorem Kp.st {st : Addr} {H : Hp} {o : HO} : Kp st H (upd H st o) := fun a u n h => by
  rw [upd_ne n]
  exact h
theorem Kp.new {st p : Addr} {H : Hp} {o : HO} (h : H p = none) : Kp st H (upd H p o) := fun a u _ e => by
  rw [upd_ne (ne_of_none e h)]
  exact e
/-- the drawing state at st: the script's copy at L, the place, the rest of a great cell, the seed -/
def Good (st L : Addr) (H : Hp) : Prop := ∃ (ns : List Int) (i : Nat) (a b : Int), H st = some (.lst [.ref L, .int i, .int a, .int b]) ∧ H L = some (.lst (ns.map V.int)) ∧ 0 ≤ a ∧ 0 ≤ b
/-- from H on only drawing and new objects -/
structure Dr (st L : Addr) (H H' : Hp) : Prop where
  kp : Kp st H H'
  good : Good st L H'
theorem Dr.refl {st L : Addr} {H : Hp} (g : Good st L H) : Dr st L H H := ⟨Kp.refl st H, g⟩
theorem Dr.trans {st L : Addr} {H H1 H2 : Hp} (a : Dr st L H H1) (b : Dr st L H1 H2) : Dr st L H H2 := ⟨a.kp.trans b.kp, b.good⟩
theorem Good.tk {st L : Addr} {H H' : Hp} (g : Good st L H) (k : Kp st H H') : Tk H H' := fun a xs h => by
  obtain ⟨ns, i, c, b, e, _⟩ := g
  exact k a _ (ne_of h e (fun z => by cases z)) h
theorem Dr.tk {st L : Addr} {H H' : Hp} (d : Dr st L H H') (g : Good st L H) : Tk H H' := g.tk d.kp
/-- an object that H does not know is written -/
theorem Dr.put {st L D : Addr} {H H' : Hp} {o : HO} (d : Dr st L H H') (g : Good st L H) (n : H D = none) : Dr st L H (upd H' D o) := by
  refine ⟨fun a u h1 h2 => ?_, ?_⟩
  · rw [upd_ne (ne_of_none h2 n)]
    exact d.kp a u h1 h2
  · obtain ⟨ns0, i0, a0, b0, e0, l0, _⟩ := g
    obtain ⟨ns, i, a, b, e, l, r⟩ := d.good
    refine ⟨ns, i, a, b, ?_, ?_, r⟩
    · rw [upd_ne (ne_of_none e0 n)]
      exact e
    · rw [upd_ne (ne_of_none l0 n)]
      exact l
theorem Dr.new {st L p : Addr} {H : Hp} {o : HO} (g : Good st L H) (h : H p = none) : Dr st L H (upd H p o) := (Dr.refl g).put g h
theorem Dr.add {st L p : Addr} {H H' : Hp} {o : HO} (d : Dr st L H H') (h : H' p = none) : Dr st L H (upd H' p o) := d.trans (Dr.new d.good h)
theorem Dr.same {st L : Addr} {H H' : Hp} (g : Good st L H) (s : Same H H') : Dr st L H H' := by
  refine ⟨Kp.of s, ?_⟩
  obtain ⟨ns, i, a, b, e, l, r⟩ := g
  exact ⟨ns, i, a, b, s _ _ e, s _ _ l, r⟩
/-- what was there is there -/
theorem Dr.at_ {st L p : Addr} {H H' : Hp} {o : HO} (d : Dr st L H H') (n : p ≠ st) (h : H p = some o) : H' p = some o := d.kp p o n h
theorem Dr.tup {st L p : Addr} {H H' : Hp} {xs : List V} (d : Dr st L H H') (g : Good st L H) (h : H p = some (.tup xs)) : H' p = some (.tup xs) := d.tk g p xs h
/-- an address that is free behind is free ahead -/
theorem Dr.free {st L p : Addr} {H H' : Hp} (d : Dr st L H H') (h : H' p = none) : H p = none := by
  cases c : H p with
  | none => rfl
  | some o =>
    by_cases e : p = st
    · subst e
      obtain ⟨ns, i, a, b, e2, _⟩ := d.good
      rw [e2] at h
      cases h
    · rw [d.kp p o e c] at h
      cases h
theorem ref_ne_ints {L : Addr} {ns : List Int} {r : List V} : HO.lst (.ref L :: r) ≠ HO.lst (ns.map V.int) := by
  cases ns with
  | nil => intro e; cases e
  | cons x xs => intro e; cases e
section
variable {P : Program} {w : World} {K : PySem.W.Frag} {mg : Str → Option Value} {base : Heap}
theorem pM : (0 : Int) < 2147483647 := by decide
/-! ### _law_next -/
abbrev sNext : Stmt := topS 33
theorem scNext : FnScope ["state", "limit", "cell", "value"] ["state", "limit"] (defScope sNext) := ⟨rfl, rfl, rfl, by decide +kernel, rfl, by decide +kernel, by decide +kernel⟩
def spNext : Sp := fun vs H Q _ => ∃ (st L : Addr) (lim : Int), vs = [.ref st, .int lim] ∧ Good st L H ∧ 0 < lim ∧ lim < 2 ^ 200 ∧ ∀ (v : Int) H', Dr st L H H' → 0 ≤ v → v < lim → Q (.int v) H'
theorem ok_next {f : Addr} {fd : FuncData} {k : Nat} (F : Fun K "_law_next" "_law_next" sNext f fd) (B : Bt mg) : FnOk P w K mg base CX0 (k + 1) f fd ["state", "limit"] spNext := by
  refine F.ok scNext (fun vs H Q E h => ?_) (fun cdv A outer s H vs Q E hr h => ?_)
  · obtain ⟨st, L, lim, rfl, _⟩ := h
    rfl
  · obtain ⟨st, L, lim, rfl, g, l0, l1, q⟩ := h
    refine ⟨_, C8.pss_cut (ps_if (PW.pt (pw_and (pt_cmpR op_eq (pe_ix ix_list (pv 0) pe_int (fun _ _ => rfl)) pe_int (nomark _))
          (pw_and1 (pt_cmpR op_lt (pe_ix ix_list (pv 0) pe_int (fun _ _ => rfl)) (pe_callB call_len_seq (by rfl) B.len PySem.boot_len (pa_cons (pe_ix ix_list (pv 0) pe_int (fun _ _ => rfl)) pa_nil)) (nomark _)))))
        (pss_cons (ps_set (i := 2) scNext.nd rfl (.inl rfl) (pe_ix ix_list (pe_ix ix_list (pv 0) pe_int (fun _ _ => rfl)) (pe_ix ix_list (pv 0) pe_int (fun _ _ => rfl)) (fun _ _ => rfl)))
        (pss_cons (ps_augS (pv 0) pe_int get_list pe_int ip_add set_list)
        (pss_one (ps_if (pt_cmpR op_ge (pv 2) (pe_op op_pow pe_int pe_int) (nomark _))
          (pss_one (ps_asg (pv 2) (pg_sub (pv 0) pe_int set_list)))
          (pss_one (ps_asg (pe_op op_mod (pe_callTy call_int1 (by rfl) B.int (by decide +kernel) (pa_cons (pe_op op_add (pe_op op_add (pe_op op_mul (pe_ix ix_list (pv 0) pe_int (fun _ _ => rfl)) pe_int)
              (pe_op op_mod (pe_callTy call_int1 (by rfl) B.int (by decide +kernel) (pa_cons (pv 2) pa_nil)) pe_int)) pe_int) pa_nil)) pe_int) (pg_sub (pv 0) pe_int set_list)))))))
        pss_nil)
      (C8.pss_cut (ps_if (pt_cmpR op_gt (pe_ix ix_list (pv 0) pe_int (fun _ _ => rfl)) pe_int (nomark _))
        (pss_cons (ps_set (i := 3) scNext.nd rfl (.inl rfl) (pe_op op_mod (pe_callTy call_int1 (by rfl) B.int (by decide +kernel) (pa_cons (pe_ix ix_list (pv 0) pe_int (fun _ _ => rfl)) pa_nil)) (pv 1)))
        (pss_cons (ps_asg (pe_op op_fdivW (pe_ix ix_list (pv 0) pe_int (fun _ _ => rfl)) (pv 1)) (pg_sub (pv 0) pe_int set_list))
        (pss_one (ps_ret (pv 3)))))
        pss_nil)
      (pss_cons (ps_asg (pe_op op_mod (pe_callTy call_int1 (by rfl) B.int (by decide +kernel) (pa_cons (pe_op op_add (pe_op op_mul (pe_ix ix_list (pv 0) pe_int (fun _ _ => rfl)) pe_int) pe_int) pa_nil)) pe_int) (pg_sub (pv 0) pe_int set_list))
      (pss_one (ps_ret (pe_op op_mod (pe_callTy call_int1 (by rfl) B.int (by decide +kernel) (pa_cons (pe_op op_fdiv (pe_ix ix_list (pv 0) pe_int (fun _ _ => rfl)) pe_int) pa_nil)) (pv 1)))))), ?_⟩
    obtain ⟨ns, i, a, b, e, eL, a0, b0⟩ := g
    have nL : L ≠ st := fun z => by
      subst z
      rw [e] at eL
      exact ref_ne_ints (Option.some.inj eL)
    have put : ∀ {H1 : Hp} (i' : Nat) (a' b' : Int), Kp st H H1 → 0 ≤ a' → 0 ≤ b' → Dr st L H (upd H1 st (.lst [.ref L, .int i', .int a', .int b'])) := fun i' a' b' k ha hb =>
      ⟨k.trans Kp.st, ns, i', a', b', upd_same, by
        rw [upd_ne nL]
        exact k L _ nL eL, ha, hb⟩
    refine ⟨fun σ' H' => ∃ x2 x3 i' a' b', σ' = [some (.ref st), some (.int lim), x2, x3] ∧ Kp st H H' ∧ H' st = some (.lst [.ref L, .int ((i' : Nat) : Int), .int a', .int b']) ∧ 0 ≤ a' ∧ 0 ≤ b', ?_, ?_⟩
    · -- the first if
      refine ⟨.ref st, rfl, st, _, 2, .int a, rfl, rfl, SqL.of e, rfl, rfl, _, rfl, ite2 (fun z => ?_) (fun z => ?_)⟩
      · refine ⟨.ref st, rfl, st, _, 1, .int (i : Nat), rfl, rfl, SqL.of e, rfl, .ref st, rfl, st, _, 0, .ref L, rfl, rfl, SqL.of e, rfl, L, _, rfl, .inl (SqL.of eL), _, _, rfl, rfl, _, rfl, ite2 (fun hi => ?_) (fun hi => ?_)⟩
        · have hlt : i < ns.length := by
            have t := of_decide_eq_true hi
            rw [List.length_map] at t
            omega
          have gc : (ns.map V.int)[i]? = some (.int ns[i]) := by
            rw [List.getElem?_map, List.getElem?_eq_getElem hlt]
            rfl
          refine ⟨.ref st, rfl, st, _, 0, .ref L, rfl, rfl, SqL.of e, rfl, .ref st, rfl, st, _, 1, .int (i : Nat), rfl, rfl, SqL.of e, rfl, L, _, (i : Nat), .int ns[i], rfl, rfl, SqL.of eL, atI_nat gc, ?_⟩
          refine ⟨.ref st, rfl, st, _, 1, .int (i : Nat), rfl, rfl, e, rfl, _, _, rfl, rfl, st, _, 1, 1, rfl, rfl, e, rfl, ?_⟩
          have e1 : upd H st (.lst (([.ref L, .int (i : Nat), .int a, .int b] : List V).set 1 (.int ((i : Nat) + 1)))) st = some (.lst [.ref L, .int ((i + 1 : Nat) : Int), .int a, .int b]) := upd_same
          have k1 : Kp st H (upd H st (.lst (([.ref L, .int (i : Nat), .int a, .int b] : List V).set 1 (.int ((i : Nat) + 1))))) := Kp.st
          refine ⟨.int ns[i], rfl, 10, 18, rfl, rfl, ⟨by decide, by decide, by decide⟩, _, _, rfl, rfl, _, rfl, ite2 (fun hb => ?_) (fun hb => ?_)⟩
          · have hb2 : (10 : Int) ^ 18 ≤ ns[i] := of_decide_eq_true hb
            refine ⟨.int ns[i], rfl, .ref st, rfl, st, _, 2, 2, rfl, rfl, e1, rfl, ?_⟩
            exact ⟨some (.int ns[i]), none, i + 1, ns[i], b, rfl, k1.trans Kp.st, upd_same, by omega, b0⟩
          · refine ⟨.ref st, rfl, st, _, 3, .int b, rfl, rfl, SqL.of e1, rfl, b, 48271, rfl, rfl, .inr ⟨by decide, by decide⟩, .int ns[i], rfl, .inl ⟨_, rfl, _, _, rfl, rfl, pM, _, _, rfl, rfl, _, _, rfl, rfl, .inl ⟨_, rfl, _, _, rfl, rfl, pM, ?_⟩⟩⟩
            refine ⟨.ref st, rfl, st, _, 3, 3, rfl, rfl, e1, rfl, ?_⟩
            exact ⟨some (.int ns[i]), none, i + 1, a, _, rfl, k1.trans Kp.st, upd_same, a0, Int.emod_nonneg _ (by decide)⟩
        · exact ⟨none, none, i, a, b, rfl, Kp.refl st H, e, a0, b0⟩
      · exact iteF ⟨none, none, i, a, b, rfl, Kp.refl st H, e, a0, b0⟩
    · intro σ' H' hm
      obtain ⟨x2, x3, i', a', b', rfl, k', e', a0', b0'⟩ := hm
      refine ⟨fun σ2 H2 => ∃ x2 x3, σ2 = [some (.ref st), some (.int lim), x2, x3] ∧ H2 = H', ?_, ?_⟩
      · refine ⟨.ref st, rfl, st, _, 2, .int a', rfl, rfl, SqL.of e', rfl, _, _, rfl, rfl, _, rfl, ite2 (fun z => ?_) (fun z => ?_)⟩
        · have z2 : (0 : Int) < a' := of_decide_eq_true z
          refine ⟨.ref st, rfl, st, _, 2, .int a', rfl, rfl, SqL.of e', rfl, .inl ⟨_, rfl, .int lim, rfl, _, _, rfl, rfl, l0, ?_⟩⟩
          refine ⟨.ref st, rfl, st, _, 2, .int a', rfl, rfl, SqL.of e', rfl, .int lim, rfl, _, _, rfl, rfl, wide_div (b := 200) l0 (by omega) (by decide) (by decide), .ref st, rfl, st, _, 2, 2, rfl, rfl, e', rfl, ?_⟩
          refine ⟨.int (a' % lim), rfl, ?_⟩
          exact q _ _ (put i' (a' / lim) b' k' (Int.ediv_nonneg a0' (Int.le_of_lt l0)) b0') (Int.emod_nonneg _ (by omega)) (Int.emod_lt_of_pos _ l0)
        · exact ⟨x2, x3, rfl, rfl⟩
      · intro σ2 H2 hm2
        obtain ⟨y2, y3, rfl, rfl⟩ := hm2
        refine ⟨.ref st, rfl, st, _, 3, .int b', rfl, rfl, SqL.of e', rfl, _, _, rfl, rfl, .inr ⟨by decide, by decide⟩, _, _, rfl, rfl, .inl ⟨_, rfl, _, _, rfl, rfl, pM, ?_⟩⟩
        refine ⟨.ref st, rfl, st, _, 3, 3, rfl, rfl, e', rfl, ?_⟩
        refine ⟨.ref st, rfl, st, _, 3, .int ((b' * 69621 + 12345) % 2147483647), rfl, rfl, SqL.of upd_same, rfl, _, _, rfl, rfl, ⟨by decide, by decide⟩, .inl ⟨_, rfl, .int lim, rfl, _, _, rfl, rfl, l0, ?_⟩⟩
        exact q _ _ (put i' a' _ k' a0' (Int.emod_nonneg _ (by decide))) (Int.emod_nonneg _ (by omega)) (Int.emod_lt_of_pos _ l0)
end
end KV

namespace KV
open PySem PySem.Spec PyProof.Rows L2 KA
/-- a def of the text as its callers know it -/
structure Def (P : Program) (w : World) (K : PySem.W.Frag) (mg : Str → Option Value) (base : Heap) (x : Str) (k : Nat) (ps : List Str) (sp : Sp) : Prop where
  ex : ∃ (f : Addr) (fd : FuncData), FnOk P w K mg base CX0 k f fd ps sp ∧ mg x = some (.ref f) ∧ PySem.W.keepIn K (.ref f) = true ∧ Binds K fd ps []
section
variable {X : Cx} {k : Nat} {x : Str} {ps : List Str} {sp : Sp} {e : Expr} {es : List Expr} {t : TA} {p pos : Pos}
theorem pe_def (D : Def X.prog X.w X.K X.mg X.base x k ps sp) (hr : Room k X.A) (hg : Gl X x) (ha : PA X (e :: es) t) (hdb : (x == ("__debug__" : Str)) = false := by decide)
    (he : starEach (e :: es) X.env = (false, eval e X.env) :: starEach es X.env := by rfl) (hpl : (backTo pos (starEach es X.env)).any (·.1) = false := by rfl) : PE X (.Call (.Name x p) (e :: es) [] pos) (tCall sp [] E0 t) := by
  obtain ⟨f, fd, F, hm, hk, hb⟩ := D.ex
  exact pe_call F hr hg hm hk hb .nil pass0 ha hdb he hpl
theorem pe_def0 (D : Def X.prog X.w X.K X.mg X.base x k ps sp) (hr : Room k X.A) (hg : Gl X x) (hdb : (x == ("__debug__" : Str)) = false := by decide) : PE X (.Call (.Name x p) [] [] pos) (tCall sp [] E0 tNil) := by
  obtain ⟨f, fd, F, hm, hk, hb⟩ := D.ex
  exact pe_call0 F hr hg hm hk hb .nil pass0 hdb
end
section
variable {P : Program} {w : World} {K : PySem.W.Frag} {mg : Str → Option Value} {base : Heap}
abbrev dNext (P : Program) (w : World) (K : PySem.W.Frag) (mg : Str → Option Value) (base : Heap) : Prop := Def P w K mg base "_law_next" 1 ["state", "limit"] spNext
/-- an int or a text -/
def Atom (v : V) (d : PyData) : Prop := (∃ i, v = .int i ∧ d = .int i) ∨ ∃ z, v = .str z ∧ d = .str z
def isAtom : PyData → Prop
  | .int _ => True
  | .str _ => True
  | _ => False
theorem nat_of {i : Int} (h : 0 ≤ i) : ∃ n : Nat, i = n := ⟨i.toNat, by omega⟩
theorem lit4 {v : Int} {a b c d : V} (h0 : 0 ≤ v) (h4 : v < 4) : ∃ y, atI [a, b, c, d] v = some y ∧ (y = a ∨ y = b ∨ y = c ∨ y = d) := by
  have c4 : v = 0 ∨ v = 1 ∨ v = 2 ∨ v = 3 := by omega
  rcases c4 with rfl | rfl | rfl | rfl
  · exact ⟨a, rfl, .inl rfl⟩
  · exact ⟨b, rfl, .inr (.inl rfl)⟩
  · exact ⟨c, rfl, .inr (.inr (.inl rfl))⟩
  · exact ⟨d, rfl, .inr (.inr (.inr rfl))⟩
end
end KV

namespace KV
open PySem PySem.Spec PyProof.Rows L2 KA
theorem Good.not_none {st L : Addr} {H : Hp} (g : Good st L H) : H st ≠ none := by
  obtain ⟨_, _, _, _, e, _⟩ := g
  rw [e]
  exact fun z => nomatch z
theorem Dr.keep {st L p : Addr} {H H' : Hp} {o : HO} (g : Good st L H) (n : H p = none) (d : Dr st L (upd H p o) H') : H' p = some o :=
  d.at_ (fun z => g.not_none (by rw [← z]; exact n)) upd_same
section
variable {P : Program} {w : World} {K : PySem.W.Frag} {mg : Str → Option Value} {base : Heap}
theorem Tps.snoc_all {ys : List V} {ds : List PyData} {v : V} {d : PyData} (h : ∀ H2, Tps H2 ys ds) (h2 : ∀ H2, Tp H2 v d) : ∀ H2, Tps H2 (ys ++ [v]) (ds ++ [d]) := fun H2 => (h H2).append (.cons (h2 H2) .nil)
end
mutual
def nice : PyData → Prop
  | .int _ => True
  | .str _ => True
  | .tuple ds => ds.length ≤ 1000 ∧ niceAll ds
  | _ => False
def niceAll : List PyData → Prop
  | [] => True
  | d :: r => nice d ∧ niceAll r
end
theorem nice_int (i : Int) : nice (.int i) := by
  rw [nice]
  trivial
theorem nice_str (z : Str) : nice (.str z) := by
  rw [nice]
  trivial
theorem nice_atom {d : PyData} (h : isAtom d) : nice d := by
  cases d with
  | int i => exact nice_int i
  | str z => exact nice_str z
  | _ => exact h.elim
theorem nice_tup {ds : List PyData} (h : niceAll ds) (l : ds.length ≤ 1000) : nice (.tuple ds) := by
  rw [nice]
  exact ⟨l, h⟩
theorem niceAll_nil : niceAll [] := by
  rw [niceAll]
  trivial
theorem niceAll_cons {d : PyData} {ds : List PyData} (h : nice d) (h2 : niceAll ds) : niceAll (d :: ds) := by
  rw [niceAll]
  exact ⟨h, h2⟩
theorem niceAll_snoc : ∀ {ds : List PyData} {d : PyData}, niceAll ds → nice d → niceAll (ds ++ [d])
  | [], d, _, h => niceAll_cons h niceAll_nil
  | x :: r, d, h, h2 => by
    rw [niceAll] at h
    exact niceAll_cons h.1 (niceAll_snoc h.2 h2)
theorem niceAll_of : ∀ {ds : List PyData}, (∀ d ∈ ds, nice d) → niceAll ds
  | [], _ => niceAll_nil
  | x :: r, h => niceAll_cons (h x List.mem_cons_self) (niceAll_of fun d hd => h d (List.mem_cons_of_mem _ hd))
theorem niceAll_mem : ∀ {ds : List PyData} {d : PyData}, niceAll ds → d ∈ ds → nice d
  | x :: r, d, h, m => by
    rw [niceAll] at h
    rcases List.mem_cons.mp m with e | e
    · rw [e]
      exact h.1
    · exact niceAll_mem h.2 e
theorem depthAll_snoc : ∀ {ds : List PyData} {d : PyData} {k : Nat}, PyData.depthAll ds ≤ k → d.depth ≤ k → PyData.depthAll (ds ++ [d]) ≤ k
  | [], d, k, _, h => by
    show max d.depth 0 ≤ k
    omega
  | x :: r, d, k, h, h2 => by
    rw [PyData.depthAll] at h
    show max x.depth (PyData.depthAll (r ++ [d])) ≤ k
    have t := depthAll_snoc (ds := r) (d := d) (k := k) (by omega) h2
    omega
theorem atom_depth0 {d : PyData} (h : isAtom d) : d.depth = 0 := by
  cases d with
  | int _ => rfl
  | str _ => rfl
  | _ => exact h.elim
theorem dep1 {d : PyData} {k : Nat} (h : d.depth ≤ k) : (PyData.tuple [d]).depth ≤ k + 1 := by
  show max d.depth 0 + 1 ≤ k + 1
  omega
theorem dep2 {d e : PyData} {k : Nat} (h : d.depth ≤ k) (h2 : e.depth ≤ k) : (PyData.tuple [d, e]).depth ≤ k + 1 := by
  show max d.depth (max e.depth 0) + 1 ≤ k + 1
  omega
theorem dep3 {d e f : PyData} {k : Nat} (h : d.depth ≤ k) (h2 : e.depth ≤ k) (h3 : f.depth ≤ k) : (PyData.tuple [d, e, f]).depth ≤ k + 1 := by
  show max d.depth (max e.depth (max f.depth 0)) + 1 ≤ k + 1
  omega
theorem dep4 {d e f g : PyData} {k : Nat} (h : d.depth ≤ k) (h2 : e.depth ≤ k) (h3 : f.depth ≤ k) (h4 : g.depth ≤ k) : (PyData.tuple [d, e, f, g]).depth ≤ k + 1 := by
  show max d.depth (max e.depth (max f.depth (max g.depth 0))) + 1 ≤ k + 1
  omega
theorem dep5 {d e f g i : PyData} {k : Nat} (h : d.depth ≤ k) (h2 : e.depth ≤ k) (h3 : f.depth ≤ k) (h4 : g.depth ≤ k) (h5 : i.depth ≤ k) : (PyData.tuple [d, e, f, g, i]).depth ≤ k + 1 := by
  show max d.depth (max e.depth (max f.depth (max g.depth (max i.depth 0)))) + 1 ≤ k + 1
  omega
theorem n3 {a b c : PyData} (ha : nice a) (hb : nice b) (hc : nice c) : nice (.tuple [a, b, c]) := nice_tup (niceAll_cons ha (niceAll_cons hb (niceAll_cons hc niceAll_nil))) (by show 3 ≤ 1000; decide)
theorem n2 {a b : PyData} (ha : nice a) (hb : nice b) : nice (.tuple [a, b]) := nice_tup (niceAll_cons ha (niceAll_cons hb niceAll_nil)) (by show 2 ≤ 1000; decide)
theorem n4 {a b c d : PyData} (ha : nice a) (hb : nice b) (hc : nice c) (hd : nice d) : nice (.tuple [a, b, c, d]) := nice_tup (niceAll_cons ha (niceAll_cons hb (niceAll_cons hc (niceAll_cons hd niceAll_nil)))) (by show 4 ≤ 1000; decide)
theorem n5 {a b c d e : PyData} (ha : nice a) (hb : nice b) (hc : nice c) (hd : nice d) (he : nice e) : nice (.tuple [a, b, c, d, e]) := nice_tup (niceAll_cons ha (niceAll_cons hb (niceAll_cons hc (niceAll_cons hd (niceAll_cons he niceAll_nil))))) (by show 5 ≤ 1000; decide)
end KV

namespace KV
open PySem PySem.Spec PyProof.Rows L2 KA
def vk : PyData → PyData
  | .str z => .tuple [.int 1, .str z]
  | d => .tuple [.int 0, d]
def kd (s : Int) (nm : Str) (ds : List PyData) : PyData := .tuple [.int s, .str nm, .tuple ds]
def bf : PyData → PyData → Bool
  | .int a, .int b => decide (a < b)
  | .str a, .str b => decide (a.cps.toList < b.cps.toList)
  | .int _, .str _ => true
  | _, _ => false
def rord : List PyData → List PyData → Int
  | [], [] => 0
  | [], _ :: _ => -1
  | _ :: _, [] => 1
  | x :: xs, y :: ys => if bf x y = true then -1 else if bf y x = true then 1 else rord xs ys
def plt (s : Int) (nm : Str) (s2 : Int) (nm2 : Str) : Bool := if s = s2 then decide (nm.cps.toList < nm2.cps.toList) else decide (s < s2)
def kord (s : Int) (nm : Str) (ds : List PyData) (s2 : Int) (nm2 : Str) (es : List PyData) : Int := if s = s2 ∧ nm = nm2 then rord ds es else 1 - 2 * (if plt s nm s2 nm2 = true then 1 else 0)
abbrev Atoms (ds : List PyData) : Prop := ∀ d ∈ ds, isAtom d
theorem atom_depth {d : PyData} (h : isAtom d) : d.depth = 0 := by
  cases d with
  | int _ => rfl
  | str _ => rfl
  | _ => exact h.elim
theorem vk_depth {d : PyData} (h : isAtom d) : (vk d).depth = 1 := by
  cases d with
  | int _ => rfl
  | str _ => rfl
  | _ => exact h.elim
theorem atoms_depth : ∀ {ds : List PyData}, Atoms ds → PyData.depthAll ds = 0
  | [], _ => rfl
  | d :: r, h => by
    rw [PyData.depthAll, atom_depth (h d List.mem_cons_self), atoms_depth (fun x hx => h x (List.mem_cons_of_mem _ hx))]
    rfl
theorem vks_depth : ∀ {ds : List PyData}, Atoms ds → PyData.depthAll (ds.map vk) ≤ 1
  | [], _ => Nat.zero_le _
  | d :: r, h => by
    rw [List.map_cons, PyData.depthAll, vk_depth (h d List.mem_cons_self)]
    have t := vks_depth (ds := r) (fun x hx => h x (List.mem_cons_of_mem _ hx))
    exact Nat.max_le.mpr ⟨Nat.le_refl 1, t⟩
/-- an item -/
inductive It1 where
  | rel (nm : Str) (n : Int)
  | fact (nm : Str) (ds : List PyData)
  | rule (nm rl : Str) (ts body : PyData)
  | den (nm : Str) (body : PyData)
def itD : It1 → PyData
  | .rel nm n => .tuple [.str "relation", .str nm, .int n]
  | .fact nm ds => .tuple [.str "fact", .str nm, .tuple ds]
  | .rule nm rl ts body => .tuple [.str "rule", .str nm, .str rl, ts, body]
  | .den nm body => .tuple [.str "denial", .str nm, body]
def okI : It1 → Prop
  | .rel _ _ => True
  | .fact _ ds => Atoms ds ∧ ds.length ≤ 1000
  | .rule _ _ ts body => nice ts ∧ nice body ∧ ts.depth ≤ 4 ∧ body.depth ≤ 4
  | .den _ body => nice body ∧ body.depth ≤ 4
def keyI : It1 → Int × Str × List PyData
  | .rel nm _ => (0, nm, [])
  | .fact nm ds => (1, nm, ds)
  | .rule nm _ _ _ => (2, nm, [])
  | .den nm _ => (3, nm, [])
abbrev kdI (i : It1) : PyData := kd (keyI i).1 (keyI i).2.1 (keyI i).2.2
theorem okI_key {i : It1} (h : okI i) : Atoms (keyI i).2.2 ∧ (keyI i).2.2.length ≤ 1000 := by
  cases i with
  | rel nm n => exact ⟨(fun x hx => by cases hx), Nat.zero_le _⟩
  | fact nm ds => exact h
  | rule nm rl ts body => exact ⟨(fun x hx => by cases hx), Nat.zero_le _⟩
  | den nm body => exact ⟨(fun x hx => by cases hx), Nat.zero_le _⟩
theorem nice_row {ds : List PyData} (h : Atoms ds) (l : ds.length ≤ 1000) : nice (.tuple ds) := nice_tup (niceAll_of fun d hd => nice_atom (h d hd)) l
theorem okI_nice {i : It1} (h : okI i) : nice (itD i) ∧ (itD i).depth ≤ 5 := by
  cases i with
  | rel nm n => exact ⟨n3 (nice_str _) (nice_str _) (nice_int _), dep3 (k := 4) (Nat.zero_le _) (Nat.zero_le _) (Nat.zero_le _)⟩
  | fact nm ds =>
    refine ⟨n3 (nice_str _) (nice_str _) (nice_row h.1 h.2), dep3 (k := 4) (Nat.zero_le _) (Nat.zero_le _) ?_⟩
    have t := atoms_depth h.1
    show PyData.depthAll ds + 1 ≤ 4
    omega
  | rule nm rl ts body => exact ⟨n5 (nice_str _) (nice_str _) (nice_str _) h.1 h.2.1, dep5 (k := 4) (Nat.zero_le _) (Nat.zero_le _) (Nat.zero_le _) h.2.2.1 h.2.2.2⟩
  | den nm body => exact ⟨n3 (nice_str _) (nice_str _) h.1, dep3 (k := 4) (Nat.zero_le _) (Nat.zero_le _) h.2⟩
theorem small_row {ds : List PyData} (h : Atoms ds) : small (.tuple (ds.map vk)) := by
  show PyData.depthAll (ds.map vk) + 1 ≤ 64
  have t := vks_depth h
  omega
theorem same_new {H : Hp} {p : Addr} {o : HO} (h : H p = none) : Same H (upd H p o) := fun a u e => by
  rw [upd_ne (ne_of_none e h)]
  exact e
theorem same_add {H H' : Hp} {p : Addr} {o : HO} (s : Same H H') (h : H' p = none) : Same H (upd H' p o) := s.trans (same_new h)
theorem same_put {H H' : Hp} {p : Addr} {o : HO} (s : Same H H') (h : H p = none) : Same H (upd H' p o) := fun a u e => by
  rw [upd_ne (ne_of_none e h)]
  exact s a u e
section
variable {P : Program} {w : World} {K : PySem.W.Frag} {mg : Str → Option Value} {base : Heap}
abbrev sVK : Stmt := topS 4
theorem scVK : FnScope ["value"] ["value"] (defScope sVK) := ⟨rfl, rfl, rfl, by decide +kernel, rfl, by decide +kernel, by decide +kernel⟩
def spVK : Sp := fun vs H Q _ => ∃ (v : V) (d : PyData), vs = [v] ∧ Tp H v d ∧ isAtom d ∧ ∀ (p : Addr) H', Same H H' → Tp H' (.ref p) (vk d) → Q (.ref p) H'
theorem ok_vk {f : Addr} {fd : FuncData} (F : Fun K "value_key" "value_key" sVK f fd) (B : Bt mg) : FnOk P w K mg base CX0 1 f fd ["value"] spVK := by
  refine F.ok scVK (fun vs H Q E h => ?_) (fun cdv A outer s H vs Q E hr h => ?_)
  · obtain ⟨v, d, rfl, _⟩ := h
    rfl
  · obtain ⟨v, d, rfl, tv, ad, q⟩ := h
    refine ⟨_, pss_cons (ps_if (pt_val (pe_callB call_isi (by rfl) B.isi (by decide +kernel) (pa_cons (pv 0) (pa_cons (pe_bltn (v := .ty "str") (u := .type "str") (by rfl) B.str (by decide +kernel) rfl) pa_nil)))) (pss_one (ps_ret (pe_tup (pa_cons pe_int (pa_cons (pv 0) pa_nil))))) pss_nil)
      (pss_one (ps_ret (pe_tup (pa_cons pe_int (pa_cons (pv 0) pa_nil))))), ?_⟩
    cases tv with
    | int i =>
      refine ⟨.int i, rfl, .int i, .ty "str", _, _, false, rfl, .ty "str", .base (.int i), kit_ty (by decide +kernel), _, rfl, iteF ?_⟩
      exact ⟨.int i, rfl, (by show 2 ≤ sizeLine; decide), fun p np => q p _ (same_new np) (.tup upd_same (.cons (.int 0) (.cons (.int i) .nil)))⟩
    | str z =>
      refine ⟨.str z, rfl, .str z, .ty "str", _, _, true, rfl, .ty "str", .base (.str z), kit_ty (by decide +kernel), _, rfl, iteT ?_⟩
      exact ⟨.str z, rfl, (by show 2 ≤ sizeLine; decide), fun p np => q p _ (same_new np) (.tup upd_same (.cons (.int 1) (.cons (.str z) .nil)))⟩
    | non => exact ad.elim
    | bl b => exact ad.elim
    | tup e r => exact ad.elim
abbrev sRK : Stmt := topS 5
theorem scRK : FnScope ["row", "value"] ["row"] (defScope sRK) := ⟨rfl, rfl, rfl, by decide +kernel, rfl, by decide +kernel, by decide +kernel⟩
def spRK : Sp := fun vs H Q _ => ∃ (v : V) (ds : List PyData), vs = [v] ∧ Tp H v (.tuple ds) ∧ Atoms ds ∧ ds.length ≤ 1000 ∧ ∀ (p : Addr) H', Same H H' → Tp H' (.ref p) (.tuple (ds.map vk)) → Q (.ref p) H'
theorem ok_rk {f : Addr} {fd : FuncData} (F : Fun K "row_key" "row_key" sRK f fd) (B : Bt mg) (DV : Def P w K mg base "value_key" 1 ["value"] spVK) : FnOk P w K mg base CX0 2 f fd ["row"] spRK := by
  refine F.ok scRK (fun vs H Q E h => ?_) (fun cdv A outer s H vs Q E hr h => ?_)
  · obtain ⟨v, d, rfl, _⟩ := h
    rfl
  · obtain ⟨v, ds, rfl, tv, ad, ld, q⟩ := h
    refine ⟨_, pss_one (ps_ret (pe_callTy call_tuple_of (by rfl) B.tup (by decide +kernel) (pa_cons (pe_lc (own := [("value", 1)]) (g := gName 1) (tt := tYes) rfl scRK.nd (pi_tup (pv 0))
      (blkOk_by (own := [("value", 1)]) (N := ["row", "value"]) (sc := defScope sRK) (by decide +kernel)) (fun _ _ _ _ _ => pg_name (i := 1) scRK.nd rfl (Or.inl rfl)) (fun _ _ _ _ _ => pts_nil)
      (fun _ _ _ _ _ => pe_def DV hr (by rfl) (pa_cons (pv 1) pa_nil))) pa_nil))), ?_⟩
    cases tv with
    | @tup a xs _ e r =>
      have lx := r.length
      refine ⟨.ref a, rfl, a, rfl, ⟨xs, SqT.of e⟩, fun D nD => ?_⟩
      refine lc_tup (K := K) (a := a) (xs := xs) (fun i H' => Same H H' ∧ ∃ ys, H' D = some (.lst ys) ∧ Tps H' ys ((ds.take i).map vk)) ⟨same_new nD, [], upd_same, .nil⟩ (fun i H' _ hP => SqT.of (hP.1 _ _ e)) (fun i x H' hx hP => ?_) (fun H' hP => ?_)
      · obtain ⟨sm, ys, eD, ht⟩ := hP
        obtain ⟨d, ed, td⟩ := r.get hx
        have hi : i < xs.length := by
          rcases Nat.lt_or_ge i xs.length with c | c
          · exact c
          · rw [List.getElem?_eq_none c] at hx
            cases hx
        refine ⟨rfl, ?_⟩
        refine iteT (B := True) ?_
        refine ⟨x, rfl, x, d, rfl, td.mono (Tk.of sm), ad d (List.mem_of_getElem? ed), fun p H2 s2 tp => ?_⟩
        have ly : ys.length ≤ 1000 := by
          rw [ht.length, List.length_map, List.length_take]
          omega
        have eD2 := s2 _ _ eD
        have kk : Tk H2 (upd H2 D (.lst (ys ++ [.ref p]))) := Tk.lst eD2
        refine ⟨ys, eD2, small1000 ly, same_put (sm.trans s2) nD, ys ++ [.ref p], upd_same, ?_⟩
        rw [List.take_add_one, ed, List.map_append]
        exact ((ht.mono (Tk.of s2)).mono kk).append (.cons (tp.mono kk) .nil)
      · obtain ⟨sm, ys, eD, ht⟩ := hP
        rw [List.take_of_length_le (by omega)] at ht
        exact ⟨D, ys, rfl, .inl ⟨SqL.of eD, fun p np => q p _ (same_add sm np) (.tup upd_same (ht.mono (Tk.new np)))⟩⟩
abbrev dRK (P : Program) (w : World) (K : PySem.W.Frag) (mg : Str → Option Value) (base : Heap) : Prop := Def P w K mg base "row_key" 2 ["row"] spRK
abbrev sSR : Stmt := topS 6
theorem scSR : FnScope ["first", "second"] ["first", "second"] (defScope sSR) := ⟨rfl, rfl, rfl, by decide +kernel, rfl, by decide +kernel, by decide +kernel⟩
def spSR : Sp := fun vs H Q _ => ∃ (v u : V) (ds es : List PyData), vs = [v, u] ∧ Tp H v (.tuple ds) ∧ Tp H u (.tuple es) ∧ Atoms ds ∧ Atoms es ∧ ds.length ≤ 1000 ∧ es.length ≤ 1000 ∧
  ∀ H', Same H H' → Q (.bl (PyData.eqv (.tuple (ds.map vk)) (.tuple (es.map vk)))) H'
theorem ok_sr {f : Addr} {fd : FuncData} (F : Fun K "same_row" "same_row" sSR f fd) (DR : dRK P w K mg base) : FnOk P w K mg base CX0 3 f fd ["first", "second"] spSR := by
  refine F.ok scSR (fun vs H Q E h => ?_) (fun cdv A outer s H vs Q E hr h => ?_)
  · obtain ⟨v, u, ds, es, rfl, _⟩ := h
    rfl
  · obtain ⟨v, u, ds, es, rfl, tv, tu, ad, ae, ld, le, q⟩ := h
    refine ⟨_, pss_one (ps_ret (pe_cmpR (op_eqP hr.units) (pe_def DR hr (by rfl) (pa_cons (pv 0) pa_nil)) (pe_def DR hr (by rfl) (pa_cons (pv 1) pa_nil)) (nomark _))), ?_⟩
    refine ⟨v, rfl, v, ds, rfl, tv, ad, ld, fun p H1 s1 t1 => ⟨u, rfl, u, es, rfl, tu.mono (Tk.of s1), ae, le, fun p2 H2 s2 t2 => ?_⟩⟩
    exact ⟨_, _, t1.mono (Tk.of s2), t2, small_row ad, q _ (s1.trans s2)⟩
def spKO : Sp := fun vs H Q _ => ∃ (v : V) (i : It1), vs = [v] ∧ Tp H v (itD i) ∧ okI i ∧ ∀ (r : Addr) H', Same H H' → Tp H' (.ref r) (kdI i) → Q (.ref r) H'
theorem yes_if {A B : Prop} {x : V} (h : A) : if decide (x = x) = true then A else B := by
  rw [decide_eq_true rfl]
  exact iteT h
theorem no_if {A B : Prop} {x y : V} (n : x ≠ y) (h : B) : if decide (x = y) = true then A else B := by
  rw [decide_eq_false n]
  exact iteF h
theorem inv3 {H : Hp} {v : V} {a b : Str} {d : PyData} (t : Tp H v (.tuple [.str a, .str b, d])) : ∃ p, v = .ref p ∧ ∃ x, H p = some (.tup [.str a, .str b, x]) ∧ Tp H x d := by
  cases t with
  | tup e r =>
    cases r with
    | cons h1 r => cases r with
      | cons h2 r => cases r with
        | cons h3 r =>
          cases r
          cases h1
          cases h2
          exact ⟨_, rfl, _, e, h3⟩
theorem inv5 {H : Hp} {v : V} {a b c : Str} {d f : PyData} (t : Tp H v (.tuple [.str a, .str b, .str c, d, f])) : ∃ p, v = .ref p ∧ ∃ x y z, H p = some (.tup [.str a, .str b, x, y, z]) := by
  cases t with
  | tup e r =>
    cases r with
    | cons h1 r => cases r with
      | cons h2 r => cases r with
        | cons h3 r => cases r with
          | cons h4 r => cases r with
            | cons h5 r =>
              cases r
              cases h1
              cases h2
              exact ⟨_, rfl, _, _, _, e⟩
end
end KV

namespace KV
open PySem PySem.Spec PyProof.Rows L2 KA
section
variable {P : Program} {w : World} {K : PySem.W.Frag} {mg : Str → Option Value} {base : Heap}
/-! ### _law_before, _law_order -/
abbrev sBF : Stmt := topS 44
theorem scBF : FnScope ["first", "second"] ["first", "second"] (defScope sBF) := ⟨rfl, rfl, rfl, by decide +kernel, rfl, by decide +kernel, by decide +kernel⟩
def spBF : Sp := fun vs H Q _ => ∃ (v u : V) (d e : PyData), vs = [v, u] ∧ Tp H v d ∧ Tp H u e ∧ isAtom d ∧ isAtom e ∧ Q (.bl (bf d e)) H
theorem ok_bf {f : Addr} {fd : FuncData} (F : Fun K "_law_before" "_law_before" sBF f fd) (B : Bt mg) : FnOk P w K mg base CX0 1 f fd ["first", "second"] spBF := by
  refine F.ok scBF (fun vs H Q E h => ?_) (fun cdv A outer s H vs Q E hr h => ?_)
  · obtain ⟨v, u, d, e, rfl, _⟩ := h
    rfl
  · obtain ⟨v, u, d, e, rfl, tv, tu, ad, ae, q⟩ := h
    refine ⟨_, pss_cons (ps_if (pt_cmpR op_ne (pe_callB call_isi (by rfl) B.isi (by decide +kernel) (pa_cons (pv 0) (pa_cons (pe_bltn (v := .ty "str") (u := .type "str") (by rfl) B.str (by decide +kernel) rfl) pa_nil)))
          (pe_callB call_isi (by rfl) B.isi (by decide +kernel) (pa_cons (pv 1) (pa_cons (pe_bltn (v := .ty "str") (u := .type "str") (by rfl) B.str (by decide +kernel) rfl) pa_nil))) (nomark _))
        (pss_one (ps_ret (pe_callB call_isi (by rfl) B.isi (by decide +kernel) (pa_cons (pv 1) (pa_cons (pe_bltn (v := .ty "str") (u := .type "str") (by rfl) B.str (by decide +kernel) rfl) pa_nil))))) pss_nil)
      (pss_one (ps_ret (pe_cmpR (op_ltP hr.units) (pv 0) (pv 1) (nomark _)))), ?_⟩
    cases tv with
    | int i =>
      cases tu with
      | int j =>
        refine ⟨.int i, rfl, .int i, .ty "str", _, _, false, rfl, .ty "str", .base (.int i), kit_ty (by decide +kernel), .int j, rfl, .int j, .ty "str", _, _, false, rfl, .ty "str", .base (.int j), kit_ty (by decide +kernel), rfl, _, rfl, iteF ?_⟩
        exact ⟨_, rfl, _, rfl, .int i, .int j, _, .int i, .int j, Nat.zero_le _, rfl, q⟩
      | str z =>
        refine ⟨.int i, rfl, .int i, .ty "str", _, _, false, rfl, .ty "str", .base (.int i), kit_ty (by decide +kernel), .str z, rfl, .str z, .ty "str", _, _, true, rfl, .ty "str", .base (.str z), kit_ty (by decide +kernel), rfl, _, rfl, iteT ?_⟩
        exact ⟨.str z, rfl, .str z, .ty "str", _, _, true, rfl, .ty "str", .base (.str z), kit_ty (by decide +kernel), q⟩
      | non => exact ae.elim
      | bl b => exact ae.elim
      | tup e r => exact ae.elim
    | str y =>
      cases tu with
      | int j =>
        refine ⟨.str y, rfl, .str y, .ty "str", _, _, true, rfl, .ty "str", .base (.str y), kit_ty (by decide +kernel), .int j, rfl, .int j, .ty "str", _, _, false, rfl, .ty "str", .base (.int j), kit_ty (by decide +kernel), rfl, _, rfl, iteT ?_⟩
        exact ⟨.int j, rfl, .int j, .ty "str", _, _, false, rfl, .ty "str", .base (.int j), kit_ty (by decide +kernel), q⟩
      | str z =>
        refine ⟨.str y, rfl, .str y, .ty "str", _, _, true, rfl, .ty "str", .base (.str y), kit_ty (by decide +kernel), .str z, rfl, .str z, .ty "str", _, _, true, rfl, .ty "str", .base (.str z), kit_ty (by decide +kernel), rfl, _, rfl, iteF ?_⟩
        exact ⟨_, rfl, _, rfl, .str y, .str z, _, .str y, .str z, Nat.zero_le _, rfl, q⟩
      | non => exact ae.elim
      | bl b => exact ae.elim
      | tup e r => exact ae.elim
    | non => exact ad.elim
    | bl b => exact ad.elim
    | tup e r => exact ad.elim
abbrev dBF (P : Program) (w : World) (K : PySem.W.Frag) (mg : Str → Option Value) (base : Heap) : Prop := Def P w K mg base "_law_before" 1 ["first", "second"] spBF
abbrev sOR : Stmt := topS 45
theorem scOR : FnScope ["first", "second", "k"] ["first", "second"] (defScope sOR) := ⟨rfl, rfl, rfl, by decide +kernel, rfl, by decide +kernel, by decide +kernel⟩
def spOR : Sp := fun vs H Q _ => ∃ (v u : V) (ds es : List PyData), vs = [v, u] ∧ Tp H v (.tuple ds) ∧ Tp H u (.tuple es) ∧ Atoms ds ∧ Atoms es ∧ ds.length ≤ 1000 ∧ es.length ≤ 1000 ∧ Q (.int (rord ds es)) H
theorem rord_end : ∀ {ds es : List PyData}, min ds.length es.length = 0 → rord ds es = (if es.length < ds.length then (1 : Int) else 0) - (if ds.length < es.length then (1 : Int) else 0)
  | [], [], _ => rfl
  | [], e :: r, _ => by
    rw [rord, if_neg (by simp), if_pos (by simp)]
    rfl
  | d :: r, [], _ => by
    rw [rord, if_pos (by simp), if_neg (by simp)]
    rfl
  | d :: r, e :: t, h => by
    simp only [List.length_cons] at h
    omega
theorem drop_get {α : Type} {l : List α} {i : Nat} {x : α} (h : l[i]? = some x) : l.drop i = x :: l.drop (i + 1) := by
  obtain ⟨h1, h2⟩ := List.getElem?_eq_some_iff.mp h
  rw [List.drop_eq_getElem_cons h1, h2]
theorem ok_or {f : Addr} {fd : FuncData} (F : Fun K "_law_order" "_law_order" sOR f fd) (B : Bt mg) (DB : dBF P w K mg base) : FnOk P w K mg base CX0 2 f fd ["first", "second"] spOR := by
  refine F.ok scOR (fun vs H Q E h => ?_) (fun cdv A outer s H vs Q E hr h => ?_)
  · obtain ⟨v, u, d, e, rfl, _⟩ := h
    rfl
  · obtain ⟨v, u, ds, es, rfl, tv, tu, ad, ae, ld, le, q⟩ := h
    refine ⟨_, pss_cons (ps_for PassesOwn.never rfl (pi_range1 (by rfl) B.rng (pa_cons (pe_callB (call_min2 rfl) (by rfl) B.min (by decide +kernel) (pa_cons (pe_callB call_len_seq (by rfl) B.len PySem.boot_len (pa_cons (pv 0) pa_nil)) (pa_cons (pe_callB call_len_seq (by rfl) B.len PySem.boot_len (pa_cons (pv 1) pa_nil)) pa_nil))) pa_nil))
          (pg_name (i := 2) scOR.nd rfl (.inl rfl))
          (pss_cons (ps_if (pt_val (pe_def DB hr (by rfl) (pa_cons (pe_ix ix_tup (pv 0) (pv 2) (fun _ _ => rfl)) (pa_cons (pe_ix ix_tup (pv 1) (pv 2) (fun _ _ => rfl)) pa_nil)))) (pss_one (ps_ret (pe_un un_neg pe_int))) pss_nil)
          (pss_one (ps_if (pt_val (pe_def DB hr (by rfl) (pa_cons (pe_ix ix_tup (pv 1) (pv 2) (fun _ _ => rfl)) (pa_cons (pe_ix ix_tup (pv 0) (pv 2) (fun _ _ => rfl)) pa_nil)))) (pss_one (ps_ret pe_int)) pss_nil))))
      (pss_one (ps_ret (pe_op op_sub (pe_callTy call_int1 (by rfl) B.int (by decide +kernel) (pa_cons (pe_cmpR op_gt (pe_callB call_len_seq (by rfl) B.len PySem.boot_len (pa_cons (pv 0) pa_nil)) (pe_callB call_len_seq (by rfl) B.len PySem.boot_len (pa_cons (pv 1) pa_nil)) (nomark _)) pa_nil))
        (pe_callTy call_int1 (by rfl) B.int (by decide +kernel) (pa_cons (pe_cmpR op_lt (pe_callB call_len_seq (by rfl) B.len PySem.boot_len (pa_cons (pv 0) pa_nil)) (pe_callB call_len_seq (by rfl) B.len PySem.boot_len (pa_cons (pv 1) pa_nil)) (nomark _)) pa_nil))))), ?_⟩
    cases tv with
    | @tup a xs _ ea ra =>
      cases tu with
      | @tup b ys _ eb rb =>
        have lx := ra.length
        have ly := rb.length
        refine ⟨.ref a, rfl, a, xs, rfl, .inr (SqT.of ea), .ref b, rfl, b, ys, rfl, .inr (SqT.of eb), (xs.length : Int), (ys.length : Int), rfl, ?_⟩
        have em : (if (ys.length : Int) < (xs.length : Int) then (ys.length : Int) else (xs.length : Int)) = ((min ds.length es.length : Nat) : Int) := by
          rw [lx, ly]
          by_cases c : es.length < ds.length
          · rw [if_pos (by omega), Nat.min_eq_right (by omega)]
          · rw [if_neg (by omega), Nat.min_eq_left (by omega)]
        refine ⟨_, rfl, by rw [em]; omega, by rw [em]; omega, ?_⟩
        rw [em]
        refine for_range (lo := 0) (n := (((min ds.length es.length : Nat) : Int)).toNat) (fun i σ H' => H' = H ∧ rord ds es = rord (ds.drop i) (es.drop i) ∧ ∃ x2, σ = [some (.ref a), some (.ref b), x2]) ⟨rfl, rfl, none, rfl⟩ (fun i σ H' hi hP => ?_) (fun σ H' hP => ?_)
        · obtain ⟨rfl, ro, x2, rfl⟩ := hP
          rw [Int.toNat_natCast] at hi
          have i1 : i < ds.length := by omega
          have i2 : i < es.length := by omega
          have g1 := List.getElem?_eq_getElem i1
          have g2 := List.getElem?_eq_getElem i2
          obtain ⟨x, ex, tx⟩ := ra.at_ g1
          obtain ⟨y, ey, ty⟩ := rb.at_ g2
          have ax := ad _ (List.mem_of_getElem? g1)
          have ay := ae _ (List.mem_of_getElem? g2)
          have e0 : (0 : Int) + (i : Int) = ((i : Nat) : Int) := Int.zero_add _
          rw [drop_get g1, drop_get g2, rord] at ro
          refine ⟨.ref a, rfl, .int (0 + i), rfl, a, xs, 0 + i, x, rfl, rfl, SqT.of ea, at_of e0 ex, .ref b, rfl, .int (0 + i), rfl, b, ys, 0 + i, y, rfl, rfl, SqT.of eb, at_of e0 ey, x, y, _, _, rfl, tx, ty, ax, ay, _, rfl, ite2 (fun c => ?_) (fun c => ?_)⟩
          · rw [if_pos c] at ro
            rw [ro] at q
            exact ⟨1, rfl, q⟩
          · rw [if_neg c] at ro
            refine ⟨.ref b, rfl, .int (0 + i), rfl, b, ys, 0 + i, y, rfl, rfl, SqT.of eb, at_of e0 ey, .ref a, rfl, .int (0 + i), rfl, a, xs, 0 + i, x, rfl, rfl, SqT.of ea, at_of e0 ex, y, x, _, _, rfl, ty, tx, ay, ax, _, rfl, ite2 (fun c2 => ?_) (fun c2 => ?_)⟩
            · rw [if_pos c2] at ro
              rw [ro] at q
              exact q
            · rw [if_neg c2] at ro
              exact ⟨rfl, ro, _, rfl⟩
        · obtain ⟨rfl, ro, x2, rfl⟩ := hP
          rw [Int.toNat_natCast] at ro
          have re := rord_end (ds := ds.drop (min ds.length es.length)) (es := es.drop (min ds.length es.length)) (by
            rw [List.length_drop, List.length_drop]
            omega)
          rw [← ro] at re
          have q2 : (if es.length < ds.length then (1 : Int) else 0) - (if ds.length < es.length then (1 : Int) else 0) = rord ds es := by
            rw [re, List.length_drop, List.length_drop]
            clear re ro em
            (repeat' split) <;> omega
          refine ⟨.ref a, rfl, a, xs, rfl, .inr (SqT.of ea), .ref b, rfl, b, ys, rfl, .inr (SqT.of eb), _, _, rfl, rfl, .inr ⟨_, rfl, ?_⟩⟩
          refine ⟨.ref a, rfl, a, xs, rfl, .inr (SqT.of ea), .ref b, rfl, b, ys, rfl, .inr (SqT.of eb), _, _, rfl, rfl, .inr ⟨_, rfl, ?_⟩⟩
          refine ⟨_, _, rfl, rfl, ?_⟩
          have e1 : (if decide ((ys.length : Int) < (xs.length : Int)) = true then (1 : Int) else 0) = (if es.length < ds.length then (1 : Int) else 0) := by
            rw [lx, ly]
            by_cases c : es.length < ds.length
            · rw [if_pos c, decide_eq_true (show (es.length : Int) < ds.length by omega), if_pos rfl]
            · rw [if_neg c, decide_eq_false (show ¬ (es.length : Int) < ds.length by omega), if_neg Bool.false_ne_true]
          have e2 : (if decide ((xs.length : Int) < (ys.length : Int)) = true then (1 : Int) else 0) = (if ds.length < es.length then (1 : Int) else 0) := by
            rw [lx, ly]
            by_cases c : ds.length < es.length
            · rw [if_pos c, decide_eq_true (show (ds.length : Int) < es.length by omega), if_pos rfl]
            · rw [if_neg c, decide_eq_false (show ¬ (ds.length : Int) < es.length by omega), if_neg Bool.false_ne_true]
          rw [e1, e2]
          rw [← q2] at q
          exact q
abbrev dOR (P : Program) (w : World) (K : PySem.W.Frag) (mg : Str → Option Value) (base : Heap) : Prop := Def P w K mg base "_law_order" 2 ["first", "second"] spOR
/-! ### _law_key -/
abbrev sLK : Stmt := topS 46
theorem scLK : FnScope ["item", "sort"] ["item"] (defScope sLK) := ⟨rfl, rfl, rfl, by decide +kernel, rfl, by decide +kernel, by decide +kernel⟩
theorem ok_lk {f : Addr} {fd : FuncData} (F : Fun K "_law_key" "_law_key" sLK f fd) : FnOk P w K mg base CX0 1 f fd ["item"] spKO := by
  refine F.ok scLK (fun vs H Q E h => ?_) (fun cdv A outer s H vs Q E hr h => ?_)
  · obtain ⟨v, i, rfl, _⟩ := h
    rfl
  · obtain ⟨v, i, rfl, tv, oi, q⟩ := h
    refine ⟨_, pss_cons (ps_set (i := 1) scLK.nd rfl (.inl rfl) (pe_bm PySem.F.plainAttrs_list PySem.F.slot_list_index PySem.F.type_list_index mt_index (pe_lst (pa_cons pe_str (pa_cons pe_str (pa_cons pe_str (pa_cons pe_str pa_nil))))) (pa_cons (pe_ix ix_tup (pv 0) pe_int (fun _ _ => rfl)) pa_nil)))
      (pss_cons (ps_if (pt_cmpR op_eq (pv 1) pe_int (nomark _)) (pss_one (ps_ret (pe_tup (pa_cons pe_int (pa_cons (pe_ix ix_tup (pv 0) pe_int (fun _ _ => rfl)) (pa_cons (pe_ix ix_tup (pv 0) pe_int (fun _ _ => rfl)) pa_nil)))))) pss_nil)
      (pss_one (ps_ret (pe_tup (pa_cons (pv 1) (pa_cons (pe_ix ix_tup (pv 0) pe_int (fun _ _ => rfl)) (pa_cons (pe_tup pa_nil) pa_nil))))))), ?_⟩
    have s3 : 3 ≤ sizeLine := by decide
    have s4 : 4 ≤ sizeLine := by decide
    refine ⟨s4, fun l nl => ⟨.inl ⟨rfl, _, SqL.of upd_same⟩, ?_⟩⟩
    have k1 : Tk H (upd H l (.lst [.str "relation", .str "fact", .str "rule", .str "denial"])) := Tk.new nl
    have s1 : Same H (upd H l (.lst [.str "relation", .str "fact", .str "rule", .str "denial"])) := same_new nl
    cases i with
    | rel nm n =>
      obtain ⟨p, rfl, x3, e, t3⟩ := inv3 tv
      have e1 := k1 _ _ e
      refine ⟨.ref p, rfl, p, _, 0, .str "relation", rfl, rfl, SqT.of e1, rfl, l, _, _, 0, .str "relation", rfl, rfl, SqL.of upd_same, rfl, rfl, rfl, by decide +kernel, fun m z hm hz => absurd hm (Nat.not_lt_zero m), ?_⟩
      refine ⟨_, rfl, rfl, _, rfl, no_if (by decide +kernel) ?_⟩
      refine ⟨_, rfl, .ref p, rfl, p, _, 1, .str nm, rfl, rfl, SqT.of e1, rfl, Nat.zero_le _, fun t nt => ⟨s3, fun r nr => ?_⟩⟩
      exact q r _ (same_add (same_add s1 nt) nr) (.tup upd_same (.cons (.int 0) (.cons (.str nm) (.cons (.tup (by rw [upd_ne (ne_of_none upd_same nr)]; exact upd_same) .nil) .nil))))
    | fact nm ds =>
      obtain ⟨p, rfl, x3, e, tq⟩ := inv3 tv
      have e1 := k1 _ _ e
      refine ⟨.ref p, rfl, p, _, 0, .str "fact", rfl, rfl, SqT.of e1, rfl, l, _, _, 1, .str "fact", rfl, rfl, SqL.of upd_same, rfl, rfl, rfl, by decide +kernel, fun m z hm hz => ?_, ?_⟩
      · match m, hm with
        | 0, _ =>
          cases hz
          decide +kernel
      refine ⟨_, rfl, rfl, _, rfl, yes_if ?_⟩
      refine ⟨.ref p, rfl, p, _, 1, .str nm, rfl, rfl, SqT.of e1, rfl, .ref p, rfl, p, _, 2, x3, rfl, rfl, SqT.of e1, rfl, s3, fun r nr => ?_⟩
      exact q r _ (same_add s1 nr) (.tup upd_same (.cons (.int 1) (.cons (.str nm) (.cons ((tq.mono k1).mono (Tk.new nr)) .nil))))
    | rule nm rl ts bd =>
      obtain ⟨p, rfl, a, b, c, e⟩ := inv5 tv
      have e1 := k1 _ _ e
      refine ⟨.ref p, rfl, p, _, 0, .str "rule", rfl, rfl, SqT.of e1, rfl, l, _, _, 2, .str "rule", rfl, rfl, SqL.of upd_same, rfl, rfl, rfl, by decide +kernel, fun m z hm hz => ?_, ?_⟩
      · match m, hm with
        | 0, _ =>
          cases hz
          decide +kernel
        | 1, _ =>
          cases hz
          decide +kernel
      refine ⟨_, rfl, rfl, _, rfl, no_if (by decide +kernel) ?_⟩
      refine ⟨_, rfl, .ref p, rfl, p, _, 1, .str nm, rfl, rfl, SqT.of e1, rfl, Nat.zero_le _, fun t nt => ⟨s3, fun r nr => ?_⟩⟩
      exact q r _ (same_add (same_add s1 nt) nr) (.tup upd_same (.cons (.int 2) (.cons (.str nm) (.cons (.tup (by rw [upd_ne (ne_of_none upd_same nr)]; exact upd_same) .nil) .nil))))
    | den nm bd =>
      obtain ⟨p, rfl, b, e, tb⟩ := inv3 tv
      have e1 := k1 _ _ e
      refine ⟨.ref p, rfl, p, _, 0, .str "denial", rfl, rfl, SqT.of e1, rfl, l, _, _, 3, .str "denial", rfl, rfl, SqL.of upd_same, rfl, rfl, rfl, by decide +kernel, fun m z hm hz => ?_, ?_⟩
      · match m, hm with
        | 0, _ =>
          cases hz
          decide +kernel
        | 1, _ =>
          cases hz
          decide +kernel
        | 2, _ =>
          cases hz
          decide +kernel
      refine ⟨_, rfl, rfl, _, rfl, no_if (by decide +kernel) ?_⟩
      refine ⟨_, rfl, .ref p, rfl, p, _, 1, .str nm, rfl, rfl, SqT.of e1, rfl, Nat.zero_le _, fun t nt => ⟨s3, fun r nr => ?_⟩⟩
      exact q r _ (same_add (same_add s1 nt) nr) (.tup upd_same (.cons (.int 3) (.cons (.str nm) (.cons (.tup (by rw [upd_ne (ne_of_none upd_same nr)]; exact upd_same) .nil) .nil))))
end

end KV

namespace KV
open PySem PySem.Spec PyProof.Rows L2 KA
/-! ### the mathematics of the orders -/
theorem eqv_str (x y : Str) : PyData.eqv (.str x) (.str y) = decide (x = y) := by
  show (x == y) = decide (x = y)
  rw [← dec_str]
  by_cases c : x = y
  · subst c
    rw [decide_eq_true rfl, decide_eq_true rfl]
  · rw [decide_eq_false c, decide_eq_false (fun z => c (V.str.inj z))]
theorem eqv_int (x y : Int) : PyData.eqv (.int x) (.int y) = decide (x = y) := by
  show (x == y) = decide (x = y)
  rfl
theorem str_eq {x y : Str} (h : x.cps.toList = y.cps.toList) : x = y := by
  have hc : x.cps = y.cps := Array.toList_inj.mp h
  cases x
  cases y
  exact congrArg Str.mk hc
theorem str_tri (x y : Str) : (x.cps.toList < y.cps.toList ∧ ¬ y.cps.toList < x.cps.toList ∧ x ≠ y) ∨ (¬ x.cps.toList < y.cps.toList ∧ y.cps.toList < x.cps.toList ∧ x ≠ y) ∨ (x = y ∧ ¬ x.cps.toList < y.cps.toList ∧ ¬ y.cps.toList < x.cps.toList) := by
  by_cases h1 : x.cps.toList < y.cps.toList
  · refine .inl ⟨h1, List.lt_asymm h1, fun z => ?_⟩
    subst z
    exact List.lt_irrefl _ h1
  · by_cases h2 : y.cps.toList < x.cps.toList
    · refine .inr (.inl ⟨h1, h2, fun z => ?_⟩)
      subst z
      exact List.lt_irrefl _ h2
    · exact .inr (.inr ⟨str_eq (List.le_antisymm (List.not_lt.mp h2) (List.not_lt.mp h1)), h1, h2⟩)
/-- two atoms: less, greater, the same; and their keys -/
theorem atom_cmp : ∀ {d e : PyData}, isAtom d → isAtom e →
    (bf d e = true ∧ bf e d = false ∧ PyData.eqv (vk d) (vk e) = false ∧ dlt (vk d) (vk e) = some true ∧ dgt (vk d) (vk e) = some false) ∨
    (bf d e = false ∧ bf e d = true ∧ PyData.eqv (vk d) (vk e) = false ∧ dlt (vk d) (vk e) = some false ∧ dgt (vk d) (vk e) = some true) ∨
    (bf d e = false ∧ bf e d = false ∧ PyData.eqv (vk d) (vk e) = true ∧ dlt (vk d) (vk e) = some false ∧ dgt (vk d) (vk e) = some false)
  | .int a, .int b, _, _ => by
    rcases Int.lt_trichotomy a b with c | c | c
    · refine .inl ⟨decide_eq_true c, decide_eq_false (by omega), ?_, ?_, ?_⟩
      · simp [vk, PyData.eqv, PyData.eqvAll]
        omega
      · have n : ¬ a = b := by omega
        simp [vk, dlt, dltAll, PyData.eqv, c, n]
      · have n : ¬ a = b := by omega
        have n2 : ¬ b < a := by omega
        simp [vk, dgt, dgtAll, PyData.eqv, n, n2]
    · subst c
      refine .inr (.inr ⟨decide_eq_false (by omega), decide_eq_false (by omega), ?_, ?_, ?_⟩)
      · simp [vk, PyData.eqv, PyData.eqvAll]
      · simp [vk, dlt, dltAll, PyData.eqv]
      · simp [vk, dgt, dgtAll, PyData.eqv]
    · refine .inr (.inl ⟨decide_eq_false (by omega), decide_eq_true c, ?_, ?_, ?_⟩)
      · simp [vk, PyData.eqv, PyData.eqvAll]
        omega
      · have n : ¬ a = b := by omega
        have n2 : ¬ a < b := by omega
        simp [vk, dlt, dltAll, PyData.eqv, n, n2]
      · have n : ¬ a = b := by omega
        simp [vk, dgt, dgtAll, PyData.eqv, n, c]
  | .int a, .str z, _, _ => .inl ⟨rfl, rfl, by simp [vk, PyData.eqv, PyData.eqvAll], by simp [vk, dlt, dltAll, PyData.eqv], by simp [vk, dgt, dgtAll, PyData.eqv]⟩
  | .str z, .int a, _, _ => .inr (.inl ⟨rfl, rfl, by simp [vk, PyData.eqv, PyData.eqvAll], by simp [vk, dlt, dltAll, PyData.eqv], by simp [vk, dgt, dgtAll, PyData.eqv]⟩)
  | .str x, .str y, _, _ => by
    rcases str_tri x y with ⟨h1, h2, h3⟩ | ⟨h1, h2, h3⟩ | ⟨h3, h1, h2⟩
    · refine .inl ⟨decide_eq_true h1, decide_eq_false h2, ?_, ?_, ?_⟩
      · simp only [vk, PyData.eqv, PyData.eqvAll]
        rw [show (x == y) = false from (eqv_str x y).trans (decide_eq_false h3)]
        rfl
      · simp only [vk, dlt, dltAll, eqv_str, eqv_int, decide_eq_false h3, decide_eq_true h1]
        rfl
      · simp only [vk, dgt, dgtAll, eqv_str, eqv_int, decide_eq_false h3, decide_eq_false h2]
        rfl
    · refine .inr (.inl ⟨decide_eq_false h1, decide_eq_true h2, ?_, ?_, ?_⟩)
      · simp only [vk, PyData.eqv, PyData.eqvAll]
        rw [show (x == y) = false from (eqv_str x y).trans (decide_eq_false h3)]
        rfl
      · simp only [vk, dlt, dltAll, eqv_str, eqv_int, decide_eq_false h3, decide_eq_false h1]
        rfl
      · simp only [vk, dgt, dgtAll, eqv_str, eqv_int, decide_eq_false h3, decide_eq_true h2]
        rfl
    · subst h3
      refine .inr (.inr ⟨decide_eq_false h1, decide_eq_false h1, ?_, ?_, ?_⟩)
      · simp only [vk, PyData.eqv, PyData.eqvAll]
        rw [show (x == x) = true from (eqv_str x x).trans (decide_eq_true rfl)]
        rfl
      · simp only [vk, dlt, dltAll, eqv_str, eqv_int, decide_true]
        rfl
      · simp only [vk, dgt, dgtAll, eqv_str, eqv_int, decide_true]
        rfl
/-- what _law_agrees asks of two keys and a number -/
def Agree (d e : PyData) (o : Int) : Prop := dlt d e = some (decide (o < 0)) ∧ PyData.eqv d e = decide (o = 0) ∧ dgt d e = some (decide (0 < o))
theorem atom_agree {d e : PyData} (hd : isAtom d) (he : isAtom e) : Agree (vk d) (vk e) (rord [d] [e]) := by
  rcases atom_cmp hd he with ⟨h1, h2, h3, h4, h5⟩ | ⟨h1, h2, h3, h4, h5⟩ | ⟨h1, h2, h3, h4, h5⟩
  · have o : rord [d] [e] = -1 := by rw [rord, if_pos h1]
    rw [o]
    exact ⟨h4, h3, h5⟩
  · have o : rord [d] [e] = 1 := by rw [rord, if_neg (by rw [h1]; exact Bool.false_ne_true), if_pos h2]
    rw [o]
    exact ⟨h4, h3, h5⟩
  · have o : rord [d] [e] = 0 := by
      rw [rord, if_neg (by rw [h1]; exact Bool.false_ne_true), if_neg (by rw [h2]; exact Bool.false_ne_true)]
      rfl
    rw [o]
    exact ⟨h4, h3, h5⟩
theorem row_agree_all : ∀ {ds es : List PyData}, Atoms ds → Atoms es → dltAll (ds.map vk) (es.map vk) = some (decide (rord ds es < 0)) ∧ PyData.eqvAll (ds.map vk) (es.map vk) = decide (rord ds es = 0) ∧ dgtAll (ds.map vk) (es.map vk) = some (decide (0 < rord ds es))
  | [], [], _, _ => by
    refine ⟨?_, ?_, ?_⟩
    · rw [List.map_nil, dltAll]; rfl
    · rfl
    · rw [List.map_nil, dgtAll]; rfl
  | [], e :: r, _, _ => by
    refine ⟨?_, ?_, ?_⟩
    · rw [List.map_nil, List.map_cons, dltAll]; rfl
    · rfl
    · rw [List.map_nil, List.map_cons, dgtAll]; rfl
  | d :: r, [], _, _ => by
    refine ⟨?_, ?_, ?_⟩
    · rw [List.map_nil, List.map_cons, dltAll]; rfl
    · rfl
    · rw [List.map_nil, List.map_cons, dgtAll]; rfl
  | d :: r, e :: t, hd, he => by
    have ih := row_agree_all (ds := r) (es := t) (fun x hx => hd x (List.mem_cons_of_mem _ hx)) (fun x hx => he x (List.mem_cons_of_mem _ hx))
    rw [List.map_cons, List.map_cons, dltAll, dgtAll, PyData.eqvAll, rord]
    rcases atom_cmp (hd d List.mem_cons_self) (he e List.mem_cons_self) with ⟨h1, h2, h3, h4, h5⟩ | ⟨h1, h2, h3, h4, h5⟩ | ⟨h1, h2, h3, h4, h5⟩
    · rw [h1, h3, h4, h5]
      exact ⟨rfl, rfl, rfl⟩
    · rw [h1, h2, h3, h4, h5]
      exact ⟨rfl, rfl, rfl⟩
    · rw [h1, h2, h3, if_neg Bool.false_ne_true, if_neg Bool.false_ne_true, if_pos rfl, if_pos rfl, Bool.true_and]
      exact ih
theorem row_agree {ds es : List PyData} (hd : Atoms ds) (he : Atoms es) : Agree (.tuple (ds.map vk)) (.tuple (es.map vk)) (rord ds es) := by
  obtain ⟨h1, h2, h3⟩ := row_agree_all hd he
  refine ⟨?_, ?_, ?_⟩
  · rw [dlt]
    exact h1
  · exact h2
  · rw [dgt]
    exact h3
theorem pair_eqv (s : Int) (nm : Str) (s2 : Int) (nm2 : Str) : PyData.eqv (.tuple [.int s, .str nm]) (.tuple [.int s2, .str nm2]) = decide (s = s2 ∧ nm = nm2) := by
  show (PyData.eqv (.int s) (.int s2) && (PyData.eqv (.str nm) (.str nm2) && true)) = _
  rw [eqv_int, eqv_str, Bool.and_true, Bool.decide_and]
theorem pair_dlt {s : Int} {nm : Str} {s2 : Int} {nm2 : Str} (h : ¬ (s = s2 ∧ nm = nm2)) : dlt (.tuple [.int s, .str nm]) (.tuple [.int s2, .str nm2]) = some (plt s nm s2 nm2) := by
  rw [dlt, dltAll, dltAll, eqv_int, eqv_str, plt]
  by_cases c : s = s2
  · have n : nm ≠ nm2 := fun z => h ⟨c, z⟩
    rw [decide_eq_true c, decide_eq_false n, if_pos rfl, if_neg Bool.false_ne_true, if_pos c, dlt]
  · rw [decide_eq_false c, if_neg Bool.false_ne_true, if_neg c, dlt]
theorem key_agree {s : Int} {nm : Str} {ds : List PyData} {s2 : Int} {nm2 : Str} {es : List PyData} (hd : Atoms ds) (he : Atoms es) : Agree (kd s nm (ds.map vk)) (kd s2 nm2 (es.map vk)) (kord s nm ds s2 nm2 es) := by
  obtain ⟨h1, h2, h3⟩ := row_agree hd he
  unfold kord
  by_cases c : s = s2
  · subst c
    by_cases n : nm = nm2
    · subst n
      rw [if_pos ⟨rfl, rfl⟩]
      refine ⟨?_, ?_, ?_⟩
      · unfold kd
        rw [dlt, dltAll, dltAll, dltAll, dltAll, eqv_int, eqv_str, decide_eq_true rfl, decide_eq_true rfl, if_pos rfl, if_pos rfl, h1, h2]
        by_cases z : rord ds es = 0
        · rw [decide_eq_true z, if_pos rfl, z]
          rfl
        · rw [decide_eq_false z, if_neg Bool.false_ne_true]
      · show (PyData.eqv (.int s) (.int s) && (PyData.eqv (.str nm) (.str nm) && (PyData.eqv (.tuple (ds.map vk)) (.tuple (es.map vk)) && true))) = _
        rw [eqv_int, eqv_str, decide_eq_true rfl, decide_eq_true rfl, h2, Bool.true_and, Bool.true_and, Bool.and_true]
      · unfold kd
        rw [dgt, dgtAll, dgtAll, dgtAll, dgtAll, eqv_int, eqv_str, decide_eq_true rfl, decide_eq_true rfl, if_pos rfl, if_pos rfl, h3, h2]
        by_cases z : rord ds es = 0
        · rw [decide_eq_true z, if_pos rfl, z]
          rfl
        · rw [decide_eq_false z, if_neg Bool.false_ne_true]
    · rw [if_neg (fun z => n z.2)]
      have dn := decide_eq_false n
      rcases str_tri nm nm2 with ⟨g1, g2, g3⟩ | ⟨g1, g2, g3⟩ | ⟨g3, g1, g2⟩
      · have pl : plt s nm s nm2 = true := by rw [plt, if_pos rfl, decide_eq_true g1]
        rw [pl, if_pos rfl]
        refine ⟨?_, ?_, ?_⟩
        · unfold kd
          rw [dlt, dltAll, dltAll, eqv_int, eqv_str, decide_eq_true rfl, dn, if_pos rfl, if_neg Bool.false_ne_true, dlt, decide_eq_true g1]
          rfl
        · show (PyData.eqv (.int s) (.int s) && (PyData.eqv (.str nm) (.str nm2) && (PyData.eqv (.tuple (ds.map vk)) (.tuple (es.map vk)) && true))) = _
          rw [eqv_str, dn, Bool.false_and, Bool.and_false]
          rfl
        · unfold kd
          rw [dgt, dgtAll, dgtAll, eqv_int, eqv_str, decide_eq_true rfl, dn, if_pos rfl, if_neg Bool.false_ne_true, dgt, decide_eq_false g2]
          rfl
      · have pl : plt s nm s nm2 = false := by rw [plt, if_pos rfl, decide_eq_false g1]
        rw [pl, if_neg Bool.false_ne_true]
        refine ⟨?_, ?_, ?_⟩
        · unfold kd
          rw [dlt, dltAll, dltAll, eqv_int, eqv_str, decide_eq_true rfl, dn, if_pos rfl, if_neg Bool.false_ne_true, dlt, decide_eq_false g1]
          rfl
        · show (PyData.eqv (.int s) (.int s) && (PyData.eqv (.str nm) (.str nm2) && (PyData.eqv (.tuple (ds.map vk)) (.tuple (es.map vk)) && true))) = _
          rw [eqv_str, dn, Bool.false_and, Bool.and_false]
          rfl
        · unfold kd
          rw [dgt, dgtAll, dgtAll, eqv_int, eqv_str, decide_eq_true rfl, dn, if_pos rfl, if_neg Bool.false_ne_true, dgt, decide_eq_true g2]
          rfl
      · exact absurd g3 n
  · rw [if_neg (fun z => c z.1)]
    have dc := decide_eq_false c
    rcases Int.lt_or_gt_of_ne c with g1 | g1
    · have pl : plt s nm s2 nm2 = true := by rw [plt, if_neg c, decide_eq_true g1]
      rw [pl, if_pos rfl]
      refine ⟨?_, ?_, ?_⟩
      · unfold kd
        rw [dlt, dltAll, eqv_int, dc, if_neg Bool.false_ne_true, dlt, decide_eq_true g1]
        rfl
      · show (PyData.eqv (.int s) (.int s2) && (PyData.eqv (.str nm) (.str nm2) && (PyData.eqv (.tuple (ds.map vk)) (.tuple (es.map vk)) && true))) = _
        rw [eqv_int, dc, Bool.false_and]
        rfl
      · unfold kd
        rw [dgt, dgtAll, eqv_int, dc, if_neg Bool.false_ne_true, dgt, decide_eq_false (by omega)]
        rfl
    · have pl : plt s nm s2 nm2 = false := by rw [plt, if_neg c, decide_eq_false (by omega)]
      rw [pl, if_neg Bool.false_ne_true]
      refine ⟨?_, ?_, ?_⟩
      · unfold kd
        rw [dlt, dltAll, eqv_int, dc, if_neg Bool.false_ne_true, dlt, decide_eq_false (by omega)]
        rfl
      · show (PyData.eqv (.int s) (.int s2) && (PyData.eqv (.str nm) (.str nm2) && (PyData.eqv (.tuple (ds.map vk)) (.tuple (es.map vk)) && true))) = _
        rw [eqv_int, dc, Bool.false_and]
        rfl
      · unfold kd
        rw [dgt, dgtAll, eqv_int, dc, if_neg Bool.false_ne_true, dgt, decide_eq_true (show s > s2 from g1)]
        rfl

end KV

namespace KV
open PySem PySem.Spec PyProof.Rows L2 KA
section
variable {P : Program} {w : World} {K : PySem.W.Frag} {mg : Str → Option Value} {base : Heap}
theorem cut3 : ¬ (HT.sIx 3 0 none = 0 ∧ HT.sIx 3 3 (some 2) = 3) := by decide
theorem small_pair (a : Int) (z : Str) : small (.tuple [.int a, .str z]) := by
  show max 0 (max 0 0) + 1 ≤ 64
  decide
/-! ### _law_key_order -/
abbrev sLO : Stmt := topS 47
theorem scLO : FnScope ["first", "second"] ["first", "second"] (defScope sLO) := ⟨rfl, rfl, rfl, by decide +kernel, rfl, by decide +kernel, by decide +kernel⟩
def spLO : Sp := fun vs H Q _ => ∃ (v u : V) (s : Int) (nm : Str) (ds : List PyData) (s2 : Int) (nm2 : Str) (es : List PyData), vs = [v, u] ∧ Tp H v (kd s nm ds) ∧ Tp H u (kd s2 nm2 es) ∧ Atoms ds ∧ Atoms es ∧ ds.length ≤ 1000 ∧ es.length ≤ 1000 ∧
  ∀ H', Same H H' → Q (.int (kord s nm ds s2 nm2 es)) H'
theorem ok_lo {f : Addr} {fd : FuncData} (F : Fun K "_law_key_order" "_law_key_order" sLO f fd) (B : Bt mg) (DO : dOR P w K mg base) : FnOk P w K mg base CX0 3 f fd ["first", "second"] spLO := by
  refine F.ok scLO (fun vs H Q E h => ?_) (fun cdv A outer s H vs Q E hr h => ?_)
  · obtain ⟨v, u, _, _, _, _, _, _, rfl, _⟩ := h
    rfl
  · obtain ⟨v, u, a, nm, ds, b, nm2, es, rfl, tv, tu, ad, ae, ld, le, q⟩ := h
    refine ⟨_, pss_cons (ps_if (pt_cmpR (op_neP hr.units) (pe_slice sl_tup (pv 0) po_none (po_some pe_int)) (pe_slice sl_tup (pv 1) po_none (po_some pe_int)) (nomark _))
        (pss_one (ps_ret (pe_op op_sub pe_int (pe_op op_mul pe_int (pe_callTy call_int1 (by rfl) B.int (by decide +kernel) (pa_cons (pe_cmpR (op_ltP hr.units) (pe_slice sl_tup (pv 0) po_none (po_some pe_int)) (pe_slice sl_tup (pv 1) po_none (po_some pe_int)) (nomark _)) pa_nil)))))) pss_nil)
      (pss_one (ps_ret (pe_def DO hr (by rfl) (pa_cons (pe_ix ix_tup (pv 0) pe_int (fun _ _ => rfl)) (pa_cons (pe_ix ix_tup (pv 1) pe_int (fun _ _ => rfl)) pa_nil))))), ?_⟩
    cases tv with
    | @tup p xs _ e r =>
      cases r with
      | cons h1 r => cases r with
        | cons h2 r => cases r with
          | cons h3 r =>
            cases r
            cases h1
            cases h2
            cases tu with
            | @tup p2 xs2 _ e2 r =>
              cases r with
              | cons g1 r => cases r with
                | cons g2 r => cases r with
                  | cons g3 r =>
                    cases r
                    cases g1
                    cases g2
                    refine ⟨.ref p, rfl, 2, rfl, p, _, rfl, SqT.of e, cut3, fun t nt => ?_⟩
                    refine ⟨.ref p2, rfl, 2, rfl, p2, _, rfl, SqT.of (same_new nt _ _ e2), cut3, fun t2 nt2 => ?_⟩
                    have s2 := same_add (o := .tup [.int b, .str nm2]) (same_new (o := .tup [.int a, .str nm]) nt) nt2
                    refine ⟨.tuple [.int a, .str nm], .tuple [.int b, .str nm2], .tup (by rw [upd_ne (ne_of_none upd_same nt2)]; exact upd_same) (.cons (.int a) (.cons (.str nm) .nil)), .tup upd_same (.cons (.int b) (.cons (.str nm2) .nil)), small_pair a nm, _, rfl, ?_⟩
                    rw [pair_eqv]
                    by_cases c : a = b ∧ nm = nm2
                    · rw [decide_eq_true c]
                      refine iteF ?_
                      have o : kord a nm ds b nm2 es = rord ds es := by rw [kord, if_pos c]
                      refine ⟨.ref p, rfl, p, _, 2, _, rfl, rfl, SqT.of (s2 _ _ e), rfl, .ref p2, rfl, p2, _, 2, _, rfl, rfl, SqT.of (s2 _ _ e2), rfl, ?_⟩
                      refine ⟨_, _, ds, es, rfl, h3.mono (Tk.of s2), g3.mono (Tk.of s2), ad, ae, ld, le, ?_⟩
                      rw [← o]
                      exact q _ s2
                    · rw [decide_eq_false c]
                      refine iteT ?_
                      refine ⟨.ref p, rfl, 2, rfl, p, _, rfl, SqT.of (s2 _ _ e), cut3, fun t3 nt3 => ?_⟩
                      have s3 := same_add (o := .tup [.int a, .str nm]) s2 nt3
                      refine ⟨.ref p2, rfl, 2, rfl, p2, _, rfl, SqT.of (s3 _ _ e2), cut3, fun t4 nt4 => ?_⟩
                      have s4 := same_add (o := .tup [.int b, .str nm2]) s3 nt4
                      refine ⟨.tuple [.int a, .str nm], .tuple [.int b, .str nm2], _, .tup (by rw [upd_ne (ne_of_none upd_same nt4)]; exact upd_same) (.cons (.int a) (.cons (.str nm) .nil)), .tup upd_same (.cons (.int b) (.cons (.str nm2) .nil)), small_pair a nm, pair_dlt c, ?_⟩
                      refine .inr ⟨_, rfl, 2, _, rfl, rfl, .inl ⟨by decide, by decide⟩, 1, _, rfl, rfl, ?_⟩
                      have o : kord a nm ds b nm2 es = 1 - 2 * (if plt a nm b nm2 = true then 1 else 0) := by rw [kord, if_neg c]
                      have q2 := q _ s4
                      rw [o] at q2
                      exact q2
end

end KV

namespace KV
open PySem PySem.Spec PyProof.Rows L2 KA
/-! ### _law_same -/
abbrev sSM : Stmt := topS 34
theorem scSM : FnScope ["actual", "expected", "k"] ["actual", "expected"] (defScope sSM) := ⟨rfl, rfl, rfl, by decide +kernel, rfl, by decide +kernel, by decide +kernel⟩
/-- of two nice data -/
def spSM (n : Nat) : Sp := fun vs H Q _ => ∃ (v u : V) (d e : PyData), vs = [v, u] ∧ Tp H v d ∧ Tp H u e ∧ nice d ∧ nice e ∧ e.depth ≤ n ∧ Q (.bl (PyData.eqv d e)) H
/-- of two lists of nice data -/
def spSL (n : Nat) : Sp := fun vs H Q _ => ∃ (a b : Addr) (xs ys : List V) (ds es : List PyData), vs = [.ref a, .ref b] ∧ H a = some (.lst xs) ∧ H b = some (.lst ys) ∧ Tps H xs ds ∧ Tps H ys es ∧ niceAll ds ∧ niceAll es ∧ PyData.depthAll es ≤ n ∧ es.length ≤ 1000 ∧ Q (.bl (PyData.eqvAll ds es)) H
theorem depth_at : ∀ {ds : List PyData} {i : Nat} {d : PyData}, ds[i]? = some d → d.depth ≤ PyData.depthAll ds
  | [], _, _, e => by simp at e
  | _ :: _, 0, _, e => by
    cases e
    rw [PyData.depthAll]
    exact Nat.le_max_left _ _
  | _ :: _, i + 1, _, e => by
    rw [PyData.depthAll]
    exact Nat.le_trans (depth_at (i := i) e) (Nat.le_max_right _ _)
theorem eqvAll_len : ∀ {ds es : List PyData}, ds.length ≠ es.length → PyData.eqvAll ds es = false
  | [], [], h => absurd rfl h
  | [], _ :: _, _ => rfl
  | _ :: _, [], _ => rfl
  | d :: ds, e :: es, h => by
    rw [PyData.eqvAll, eqvAll_len (ds := ds) (es := es) (fun z => h (by rw [List.length_cons, List.length_cons, z])), Bool.and_false]
/-! ### == of nice data is being equal -/
mutual
theorem eqv_eq : ∀ {d e : PyData}, nice d → nice e → PyData.eqv d e = true → d = e
  | .int a, .int b, _, _, h => by
    rw [eqv_int] at h
    rw [of_decide_eq_true h]
  | .str a, .str b, _, _, h => by
    rw [eqv_str] at h
    rw [of_decide_eq_true h]
  | .tuple xs, .tuple ys, h1, h2, h => by
    rw [nice] at h1 h2
    rw [eqvAll_eq2 h1.2 h2.2 h]
  | .int _, .str _, _, _, h => nomatch h
  | .int _, .tuple _, _, _, h => nomatch h
  | .str _, .int _, _, _, h => nomatch h
  | .str _, .tuple _, _, _, h => nomatch h
  | .tuple _, .int _, _, _, h => nomatch h
  | .tuple _, .str _, _, _, h => nomatch h
  | .none, _, h1, _, _ => by simp [nice] at h1
  | .bool _, _, h1, _, _ => by simp [nice] at h1
  | .list _, _, h1, _, _ => by simp [nice] at h1
  | .dict _, _, h1, _, _ => by simp [nice] at h1
  | .int _, .none, _, h2, _ => by simp [nice] at h2
  | .int _, .bool _, _, h2, _ => by simp [nice] at h2
  | .int _, .list _, _, h2, _ => by simp [nice] at h2
  | .int _, .dict _, _, h2, _ => by simp [nice] at h2
  | .str _, .none, _, h2, _ => by simp [nice] at h2
  | .str _, .bool _, _, h2, _ => by simp [nice] at h2
  | .str _, .list _, _, h2, _ => by simp [nice] at h2
  | .str _, .dict _, _, h2, _ => by simp [nice] at h2
  | .tuple _, .none, _, h2, _ => by simp [nice] at h2
  | .tuple _, .bool _, _, h2, _ => by simp [nice] at h2
  | .tuple _, .list _, _, h2, _ => by simp [nice] at h2
  | .tuple _, .dict _, _, h2, _ => by simp [nice] at h2
theorem eqvAll_eq2 : ∀ {ds es : List PyData}, niceAll ds → niceAll es → PyData.eqvAll ds es = true → ds = es
  | [], [], _, _, _ => rfl
  | [], _ :: _, _, _, h => nomatch h
  | _ :: _, [], _, _, h => nomatch h
  | d :: ds, e :: es, h1, h2, h => by
    rw [niceAll] at h1 h2
    rw [PyData.eqvAll, Bool.and_eq_true] at h
    rw [eqv_eq h1.1 h2.1 h.1, eqvAll_eq2 h1.2 h2.2 h.2]
end
theorem nice_plain : ∀ {d : PyData}, nice d → PyData.eqv d d = true
  | .int a, _ => by
    rw [eqv_int]
    exact decide_eq_true rfl
  | .str a, _ => by
    rw [eqv_str]
    exact decide_eq_true rfl
  | .tuple xs, h => by
    rw [nice] at h
    exact all_plain h.2
  | .none, h => by simp [nice] at h
  | .bool _, h => by simp [nice] at h
  | .list _, h => by simp [nice] at h
  | .dict _, h => by simp [nice] at h
where
  all_plain : ∀ {ds : List PyData}, niceAll ds → PyData.eqvAll ds ds = true
    | [], _ => rfl
    | d :: r, h => by
      rw [niceAll] at h
      rw [PyData.eqvAll, nice_plain h.1, all_plain h.2]
      rfl
theorem eqv_dec {d e : PyData} (h1 : nice d) (h2 : nice e) : PyData.eqv d e = true ↔ d = e := ⟨eqv_eq h1 h2, fun z => by
  subst z
  exact nice_plain h1⟩
section
variable {P : Program} {w : World} {K : PySem.W.Frag} {mg : Str → Option Value} {base : Heap}
theorem isi_no {x : V} {t c : String} {H : Hp} {A B : Prop} (ty : TyX K H x (.type t)) (k : kitB t c = some false) (h : B) :
    ∃ (y d : V) (s u : Value) (b : Bool), [x, V.ty c] = [y, d] ∧ ClsV d u ∧ TyX K H y s ∧ PySem.W.kitOne K s u = some b ∧ ∃ z, V.bl b = .bl z ∧ if z = true then A else B :=
  ⟨x, .ty c, _, _, false, rfl, .ty c, ty, kit_ty k, false, rfl, iteF h⟩
theorem isi_yes {x : V} {t c : String} {H : Hp} {A B : Prop} (ty : TyX K H x (.type t)) (k : kitB t c = some true) (h : A) :
    ∃ (y d : V) (s u : Value) (b : Bool), [x, V.ty c] = [y, d] ∧ ClsV d u ∧ TyX K H y s ∧ PySem.W.kitOne K s u = some b ∧ ∃ z, V.bl b = .bl z ∧ if z = true then A else B :=
  ⟨x, .ty c, _, _, true, rfl, .ty c, ty, kit_ty k, true, rfl, iteT h⟩
theorem ok_sm {f : Addr} {fd : FuncData} (F : Fun K "_law_same" "_law_same" sSM f fd) (B : Bt mg) (n : Nat) (DS : n = 0 ∨ ∃ m, n = m + 1 ∧ Def P w K mg base "_law_same" (m + 1) ["actual", "expected"] (spSM m)) :
    FnOk P w K mg base CX0 (n + 1) f fd ["actual", "expected"] (spSM n) := by
  refine F.ok scSM (fun vs H Q E h => ?_) (fun cdv A outer s H vs Q E hr h => ?_)
  · obtain ⟨v, u, _, _, rfl, _⟩ := h
    rfl
  · obtain ⟨v, u, d, e, rfl, tv, tu, nd, ne, dn, q⟩ := h
    cases tu with
    | non => rw [nice] at ne; all_goals first | exact ne.elim | (intros; contradiction)
    | bl b => rw [nice] at ne; all_goals first | exact ne.elim | (intros; contradiction)
    | int i =>
      refine ⟨_, pss_cons (ps_if (pt_cmpR op_isN (pv 1) pe_non (nomark _)) pss_never pss_nil)
        (pss_cons (ps_if (pt_val (pe_callB call_isi (by rfl) B.isi (by decide +kernel) (pa_cons (pv 1) (pa_cons (pe_bltn (v := .ty "bool") (u := .type "bool") (by rfl) B.bool (by decide +kernel) rfl) pa_nil)))) pss_never pss_nil)
        (pss_cons (ps_if (pt_val (pe_callB call_isi (by rfl) B.isi (by decide +kernel) (pa_cons (pv 1) (pa_cons (pe_bltn (v := .ty "int") (u := .type "int") (by rfl) B.int (by decide +kernel) rfl) pa_nil))))
          (pss_one (ps_ret (pe_and (pe_callB call_isi (by rfl) B.isi (by decide +kernel) (pa_cons (pv 0) (pa_cons (pe_bltn (v := .ty "int") (u := .type "int") (by rfl) B.int (by decide +kernel) rfl) pa_nil))) (pe_and (pe_not (pe_callB call_isi (by rfl) B.isi (by decide +kernel) (pa_cons (pv 0) (pa_cons (pe_bltn (v := .ty "bool") (u := .type "bool") (by rfl) B.bool (by decide +kernel) rfl) pa_nil)))) (pe_one (pe_cmpR (op_eqP hr.units) (pv 0) (pv 1) (nomark _))))))) pss_nil)
        pss_never)), ?_⟩
      refine ⟨.int i, rfl, rfl, _, rfl, no_if (fun z => nomatch z) ?_⟩
      refine ⟨.int i, rfl, isi_no (.base (.int i)) (by decide +kernel) ?_⟩
      refine ⟨.int i, rfl, isi_yes (.base (.int i)) (by decide +kernel) ?_⟩
      cases tv with
      | non => rw [nice] at nd; all_goals first | exact nd.elim | (intros; contradiction)
      | bl b => rw [nice] at nd; all_goals first | exact nd.elim | (intros; contradiction)
      | int j =>
        refine ⟨.int j, rfl, isi_yes (.base (.int j)) (by decide +kernel) ?_⟩
        refine ⟨.int j, rfl, .int j, .ty "bool", _, _, false, rfl, .ty "bool", .base (.int j), kit_ty (by decide +kernel), false, rfl, true, rfl, iteT ?_⟩
        exact ⟨.int j, rfl, .int i, rfl, _, _, .int j, .int i, Nat.zero_le _, q⟩
      | str z => exact ⟨.str z, rfl, isi_no (.base (.str z)) (by decide +kernel) q⟩
      | tup ea ra => exact ⟨_, rfl, isi_no (.base (.tup ea)) (by decide +kernel) q⟩
    | str z =>
      refine ⟨_, pss_cons (ps_if (pt_cmpR op_isN (pv 1) pe_non (nomark _)) pss_never pss_nil)
        (pss_cons (ps_if (pt_val (pe_callB call_isi (by rfl) B.isi (by decide +kernel) (pa_cons (pv 1) (pa_cons (pe_bltn (v := .ty "bool") (u := .type "bool") (by rfl) B.bool (by decide +kernel) rfl) pa_nil)))) pss_never pss_nil)
        (pss_cons (ps_if (pt_val (pe_callB call_isi (by rfl) B.isi (by decide +kernel) (pa_cons (pv 1) (pa_cons (pe_bltn (v := .ty "int") (u := .type "int") (by rfl) B.int (by decide +kernel) rfl) pa_nil)))) pss_never pss_nil)
        (pss_cons (ps_if (pt_val (pe_callB call_isi (by rfl) B.isi (by decide +kernel) (pa_cons (pv 1) (pa_cons (pe_bltn (v := .ty "str") (u := .type "str") (by rfl) B.str (by decide +kernel) rfl) pa_nil))))
          (pss_one (ps_ret (pe_and (pe_callB call_isi (by rfl) B.isi (by decide +kernel) (pa_cons (pv 0) (pa_cons (pe_bltn (v := .ty "str") (u := .type "str") (by rfl) B.str (by decide +kernel) rfl) pa_nil))) (pe_one (pe_cmpR (op_eqP hr.units) (pv 0) (pv 1) (nomark _)))))) pss_nil)
        pss_never))), ?_⟩
      refine ⟨.str z, rfl, rfl, _, rfl, no_if (fun z => nomatch z) ?_⟩
      refine ⟨.str z, rfl, isi_no (.base (.str z)) (by decide +kernel) ?_⟩
      refine ⟨.str z, rfl, isi_no (.base (.str z)) (by decide +kernel) ?_⟩
      refine ⟨.str z, rfl, isi_yes (.base (.str z)) (by decide +kernel) ?_⟩
      cases tv with
      | non => rw [nice] at nd; all_goals first | exact nd.elim | (intros; contradiction)
      | bl b => rw [nice] at nd; all_goals first | exact nd.elim | (intros; contradiction)
      | int j => exact ⟨.int j, rfl, isi_no (.base (.int j)) (by decide +kernel) q⟩
      | str y =>
        refine ⟨.str y, rfl, isi_yes (.base (.str y)) (by decide +kernel) ?_⟩
        exact ⟨.str y, rfl, .str z, rfl, _, _, .str y, .str z, Nat.zero_le _, q⟩
      | tup ea ra => exact ⟨_, rfl, isi_no (.base (.tup ea)) (by decide +kernel) q⟩
    | @tup b ys es e2 r2 =>
      rcases DS with rfl | ⟨m, rfl, DS⟩
      · exact absurd dn (by
          show ¬ PyData.depthAll es + 1 ≤ 0
          omega)
      have ly := r2.length
      rw [nice] at ne
      have dm : PyData.depthAll es ≤ m := by
        have t : PyData.depthAll es + 1 ≤ m + 1 := dn
        omega
      refine ⟨_, pss_cons (ps_if (pt_cmpR op_isN (pv 1) pe_non (nomark _)) pss_never pss_nil)
        (pss_cons (ps_if (pt_val (pe_callB call_isi (by rfl) B.isi (by decide +kernel) (pa_cons (pv 1) (pa_cons (pe_bltn (v := .ty "bool") (u := .type "bool") (by rfl) B.bool (by decide +kernel) rfl) pa_nil)))) pss_never pss_nil)
        (pss_cons (ps_if (pt_val (pe_callB call_isi (by rfl) B.isi (by decide +kernel) (pa_cons (pv 1) (pa_cons (pe_bltn (v := .ty "int") (u := .type "int") (by rfl) B.int (by decide +kernel) rfl) pa_nil)))) pss_never pss_nil)
        (pss_cons (ps_if (pt_val (pe_callB call_isi (by rfl) B.isi (by decide +kernel) (pa_cons (pv 1) (pa_cons (pe_bltn (v := .ty "str") (u := .type "str") (by rfl) B.str (by decide +kernel) rfl) pa_nil)))) pss_never pss_nil)
        (pss_cons (ps_if (PW.pt (pw_and (pt_val (pe_callB call_isi (by rfl) B.isi (by decide +kernel) (pa_cons (pv 1) (pa_cons (pe_bltn (v := .ty "tuple") (u := .type "tuple") (by rfl) B.tup (by decide +kernel) rfl) pa_nil)))) (pw_and1 (pt_not (pt_val (pe_callB call_isi (by rfl) B.isi (by decide +kernel) (pa_cons (pv 0) (pa_cons (pe_bltn (v := .ty "tuple") (u := .type "tuple") (by rfl) B.tup (by decide +kernel) rfl) pa_nil)))))))) (pss_one (ps_ret pe_bl)) pss_nil)
        (pss_cons (ps_if (PW.pt (pw_and (pt_val (pe_callB call_isi (by rfl) B.isi (by decide +kernel) (pa_cons (pv 1) (pa_cons (pe_bltn (v := .ty "list") (u := .type "list") (by rfl) B.lst (by decide +kernel) rfl) pa_nil)))) (pw_and1 (pt_not (pt_val (pe_callB call_isi (by rfl) B.isi (by decide +kernel) (pa_cons (pv 0) (pa_cons (pe_bltn (v := .ty "list") (u := .type "list") (by rfl) B.lst (by decide +kernel) rfl) pa_nil)))))))) pss_never pss_nil)
        (pss_cons (ps_if (pt_cmpR op_ne (pe_callB call_len_seq (by rfl) B.len PySem.boot_len (pa_cons (pv 0) pa_nil)) (pe_callB call_len_seq (by rfl) B.len PySem.boot_len (pa_cons (pv 1) pa_nil)) (nomark _)) (pss_one (ps_ret pe_bl)) pss_nil)
        (pss_cons (ps_for PassesOwn.never rfl (pi_range1 (by rfl) B.rng (pa_cons (pe_callB call_len_seq (by rfl) B.len PySem.boot_len (pa_cons (pv 1) pa_nil)) pa_nil)) (pg_name (i := 2) scSM.nd rfl (.inl rfl))
            (pss_one (ps_if (pt_not (pt_val (pe_def DS hr (by rfl) (pa_cons (pe_ix ix_tup (pv 0) (pv 2) (fun _ _ => rfl)) (pa_cons (pe_ix ix_tup (pv 1) (pv 2) (fun _ _ => rfl)) pa_nil))))) (pss_one (ps_ret pe_bl)) pss_nil)))
        (pss_one (ps_ret pe_bl))))))))), ?_⟩
      refine ⟨.ref b, rfl, rfl, _, rfl, no_if (fun z => nomatch z) ?_⟩
      refine ⟨.ref b, rfl, isi_no (.base (.tup e2)) (by decide +kernel) ?_⟩
      refine ⟨.ref b, rfl, isi_no (.base (.tup e2)) (by decide +kernel) ?_⟩
      refine ⟨.ref b, rfl, isi_no (.base (.tup e2)) (by decide +kernel) ?_⟩
      refine ⟨.ref b, rfl, isi_yes (.base (.tup e2)) (by decide +kernel) ?_⟩
      cases tv with
      | non => rw [nice] at nd; all_goals first | exact nd.elim | (intros; contradiction)
      | bl b => rw [nice] at nd; all_goals first | exact nd.elim | (intros; contradiction)
      | int j => exact ⟨.int j, rfl, .int j, .ty "tuple", _, _, false, rfl, .ty "tuple", .base (.int j), kit_ty (by decide +kernel), false, rfl, iteT q⟩
      | str y => exact ⟨.str y, rfl, .str y, .ty "tuple", _, _, false, rfl, .ty "tuple", .base (.str y), kit_ty (by decide +kernel), false, rfl, iteT q⟩
      | @tup a xs ds e r =>
        have lx := r.length
        rw [nice] at nd
        refine ⟨.ref a, rfl, .ref a, .ty "tuple", _, _, true, rfl, .ty "tuple", .base (.tup e), kit_ty (by decide +kernel), true, rfl, iteF ?_⟩
        refine ⟨.ref b, rfl, .ref b, .ty "list", _, _, false, rfl, .ty "list", .base (.tup e2), kit_ty (by decide +kernel), false, rfl, iteF (iteF ?_)⟩
        refine ⟨.ref a, rfl, a, xs, rfl, .inr (SqT.of e), .ref b, rfl, b, ys, rfl, .inr (SqT.of e2), rfl, _, rfl, ?_⟩
        have q2 : Q (.bl (PyData.eqvAll ds es)) H := q
        by_cases cl : ds.length = es.length
        · rw [lx, ly, cl, decide_eq_true rfl]
          refine iteF ?_
          refine ⟨.ref b, rfl, b, ys, rfl, .inr (SqT.of e2), _, rfl, by omega, by omega, ?_⟩
          rw [ly, Int.toNat_natCast]
          refine for_range (lo := 0) (n := es.length) (fun i σ H' => H' = H ∧ PyData.eqvAll ds es = PyData.eqvAll (ds.drop i) (es.drop i) ∧ ∃ x2, σ = [some (.ref a), some (.ref b), x2]) ⟨rfl, rfl, none, rfl⟩ (fun i σ H' hi hP => ?_) (fun σ H' hP => ?_)
          · obtain ⟨rfl, eq1, x2, rfl⟩ := hP
            have g2 := List.getElem?_eq_getElem hi
            have g1 := List.getElem?_eq_getElem (l := ds) (i := i) (by omega)
            obtain ⟨x, ex, tx⟩ := r.at_ g1
            obtain ⟨y, ey, ty⟩ := r2.at_ g2
            have e0 : (0 : Int) + (i : Int) = ((i : Nat) : Int) := Int.zero_add _
            rw [drop_get g1, drop_get g2, PyData.eqvAll] at eq1
            refine ⟨.ref a, rfl, .int (0 + i), rfl, a, xs, 0 + i, x, rfl, rfl, SqT.of e, at_of e0 ex, .ref b, rfl, .int (0 + i), rfl, b, ys, 0 + i, y, rfl, rfl, SqT.of e2, at_of e0 ey, ?_⟩
            refine ⟨x, y, _, _, rfl, tx, ty, niceAll_mem nd.2 (List.mem_of_getElem? g1), niceAll_mem ne.2 (List.mem_of_getElem? g2), Nat.le_trans (depth_at g2) dm, _, rfl, ?_⟩
            cases c : PyData.eqv ds[i] es[i] with
            | true =>
              rw [c, Bool.true_and] at eq1
              exact iteF ⟨rfl, eq1, _, rfl⟩
            | false =>
              rw [c, Bool.false_and] at eq1
              rw [eq1] at q2
              exact iteT q2
          · obtain ⟨rfl, eq1, x2, rfl⟩ := hP
            rw [List.drop_of_length_le (by omega), List.drop_of_length_le (by omega)] at eq1
            rw [eq1] at q2
            exact q2
        · rw [lx, ly, decide_eq_false (fun z => cl (by have t := V.int.inj z; omega))]
          refine iteT ?_
          rw [eqvAll_len cl] at q2
          exact q2
theorem ok_sl {f : Addr} {fd : FuncData} (F : Fun K "_law_same" "_law_same" sSM f fd) (B : Bt mg) (m : Nat) (DS : Def P w K mg base "_law_same" (m + 1) ["actual", "expected"] (spSM m)) :
    FnOk P w K mg base CX0 (m + 2) f fd ["actual", "expected"] (spSL m) := by
  refine F.ok scSM (fun vs H Q E h => ?_) (fun cdv A outer s H vs Q E hr h => ?_)
  · obtain ⟨_, _, _, _, _, _, rfl, _⟩ := h
    rfl
  · obtain ⟨a, b, xs, ys, ds, es, rfl, e, e2, r, r2, nd, ne, dm, le, q2⟩ := h
    have ly := r2.length
    have lx := r.length
    refine ⟨_, pss_cons (ps_if (pt_cmpR op_isN (pv 1) pe_non (nomark _)) pss_never pss_nil)
        (pss_cons (ps_if (pt_val (pe_callB call_isi (by rfl) B.isi (by decide +kernel) (pa_cons (pv 1) (pa_cons (pe_bltn (v := .ty "bool") (u := .type "bool") (by rfl) B.bool (by decide +kernel) rfl) pa_nil)))) pss_never pss_nil)
        (pss_cons (ps_if (pt_val (pe_callB call_isi (by rfl) B.isi (by decide +kernel) (pa_cons (pv 1) (pa_cons (pe_bltn (v := .ty "int") (u := .type "int") (by rfl) B.int (by decide +kernel) rfl) pa_nil)))) pss_never pss_nil)
        (pss_cons (ps_if (pt_val (pe_callB call_isi (by rfl) B.isi (by decide +kernel) (pa_cons (pv 1) (pa_cons (pe_bltn (v := .ty "str") (u := .type "str") (by rfl) B.str (by decide +kernel) rfl) pa_nil)))) pss_never pss_nil)
        (pss_cons (ps_if (PW.pt (pw_and (pt_val (pe_callB call_isi (by rfl) B.isi (by decide +kernel) (pa_cons (pv 1) (pa_cons (pe_bltn (v := .ty "tuple") (u := .type "tuple") (by rfl) B.tup (by decide +kernel) rfl) pa_nil)))) (pw_and1 (pt_not (pt_val (pe_callB call_isi (by rfl) B.isi (by decide +kernel) (pa_cons (pv 0) (pa_cons (pe_bltn (v := .ty "tuple") (u := .type "tuple") (by rfl) B.tup (by decide +kernel) rfl) pa_nil)))))))) pss_never pss_nil)
        (pss_cons (ps_if (PW.pt (pw_and (pt_val (pe_callB call_isi (by rfl) B.isi (by decide +kernel) (pa_cons (pv 1) (pa_cons (pe_bltn (v := .ty "list") (u := .type "list") (by rfl) B.lst (by decide +kernel) rfl) pa_nil)))) (pw_and1 (pt_not (pt_val (pe_callB call_isi (by rfl) B.isi (by decide +kernel) (pa_cons (pv 0) (pa_cons (pe_bltn (v := .ty "list") (u := .type "list") (by rfl) B.lst (by decide +kernel) rfl) pa_nil)))))))) pss_never pss_nil)
        (pss_cons (ps_if (pt_cmpR op_ne (pe_callB call_len_seq (by rfl) B.len PySem.boot_len (pa_cons (pv 0) pa_nil)) (pe_callB call_len_seq (by rfl) B.len PySem.boot_len (pa_cons (pv 1) pa_nil)) (nomark _)) (pss_one (ps_ret pe_bl)) pss_nil)
        (pss_cons (ps_for PassesOwn.never rfl (pi_range1 (by rfl) B.rng (pa_cons (pe_callB call_len_seq (by rfl) B.len PySem.boot_len (pa_cons (pv 1) pa_nil)) pa_nil)) (pg_name (i := 2) scSM.nd rfl (.inl rfl))
            (pss_one (ps_if (pt_not (pt_val (pe_def DS hr (by rfl) (pa_cons (pe_ix ix_list (pv 0) (pv 2) (fun _ _ => rfl)) (pa_cons (pe_ix ix_list (pv 1) (pv 2) (fun _ _ => rfl)) pa_nil))))) (pss_one (ps_ret pe_bl)) pss_nil)))
        (pss_one (ps_ret pe_bl))))))))), ?_⟩
    refine ⟨.ref b, rfl, rfl, _, rfl, no_if (fun z => nomatch z) ?_⟩
    refine ⟨.ref b, rfl, isi_no (.base (.lst e2)) (by decide +kernel) ?_⟩
    refine ⟨.ref b, rfl, isi_no (.base (.lst e2)) (by decide +kernel) ?_⟩
    refine ⟨.ref b, rfl, isi_no (.base (.lst e2)) (by decide +kernel) ?_⟩
    refine ⟨.ref b, rfl, .ref b, .ty "tuple", _, _, false, rfl, .ty "tuple", .base (.lst e2), kit_ty (by decide +kernel), false, rfl, iteF (iteF ?_)⟩
    refine ⟨.ref b, rfl, .ref b, .ty "list", _, _, true, rfl, .ty "list", .base (.lst e2), kit_ty (by decide +kernel), true, rfl, iteT ?_⟩
    refine ⟨.ref a, rfl, .ref a, .ty "list", _, _, true, rfl, .ty "list", .base (.lst e), kit_ty (by decide +kernel), true, rfl, iteF ?_⟩
    refine ⟨.ref a, rfl, a, xs, rfl, .inl (SqL.of e), .ref b, rfl, b, ys, rfl, .inl (SqL.of e2), rfl, _, rfl, ?_⟩
    by_cases cl : ds.length = es.length
    · rw [lx, ly, cl, decide_eq_true rfl]
      refine iteF ?_
      refine ⟨.ref b, rfl, b, ys, rfl, .inl (SqL.of e2), _, rfl, by omega, by omega, ?_⟩
      rw [ly, Int.toNat_natCast]
      refine for_range (lo := 0) (n := es.length) (fun i σ H' => H' = H ∧ PyData.eqvAll ds es = PyData.eqvAll (ds.drop i) (es.drop i) ∧ ∃ x2, σ = [some (.ref a), some (.ref b), x2]) ⟨rfl, rfl, none, rfl⟩ (fun i σ H' hi hP => ?_) (fun σ H' hP => ?_)
      · obtain ⟨rfl, eq1, x2, rfl⟩ := hP
        have g2 := List.getElem?_eq_getElem hi
        have g1 := List.getElem?_eq_getElem (l := ds) (i := i) (by omega)
        obtain ⟨x, ex, tx⟩ := r.at_ g1
        obtain ⟨y, ey, ty⟩ := r2.at_ g2
        have e0 : (0 : Int) + (i : Int) = ((i : Nat) : Int) := Int.zero_add _
        rw [drop_get g1, drop_get g2, PyData.eqvAll] at eq1
        refine ⟨.ref a, rfl, .int (0 + i), rfl, a, xs, 0 + i, x, rfl, rfl, SqL.of e, at_of e0 ex, .ref b, rfl, .int (0 + i), rfl, b, ys, 0 + i, y, rfl, rfl, SqL.of e2, at_of e0 ey, ?_⟩
        refine ⟨x, y, _, _, rfl, tx, ty, niceAll_mem nd (List.mem_of_getElem? g1), niceAll_mem ne (List.mem_of_getElem? g2), Nat.le_trans (depth_at g2) dm, _, rfl, ?_⟩
        cases c : PyData.eqv ds[i] es[i] with
        | true =>
          rw [c, Bool.true_and] at eq1
          exact iteF ⟨rfl, eq1, _, rfl⟩
        | false =>
          rw [c, Bool.false_and] at eq1
          rw [eq1] at q2
          exact iteT q2
      · obtain ⟨rfl, eq1, x2, rfl⟩ := hP
        rw [List.drop_of_length_le (by omega), List.drop_of_length_le (by omega)] at eq1
        rw [eq1] at q2
        exact q2
    · rw [lx, ly, decide_eq_false (fun z => cl (by have t := V.int.inj z; omega))]
      refine iteT ?_
      rw [eqvAll_len cl] at q2
      exact q2
end

end KV

namespace KV
open PySem PySem.Spec PyProof.Rows L2 KA
theorem atom_tri : ∀ {d e : PyData}, isAtom d → isAtom e → (bf d e = true ∧ bf e d = false ∧ d ≠ e) ∨ (bf d e = false ∧ bf e d = true ∧ d ≠ e) ∨ (bf d e = false ∧ bf e d = false ∧ d = e)
  | .int a, .int b, _, _ => by
    rcases Int.lt_trichotomy a b with c | c | c
    · exact .inl ⟨decide_eq_true c, decide_eq_false (by omega), fun z => by injection z with z; omega⟩
    · exact .inr (.inr ⟨decide_eq_false (by omega), decide_eq_false (by omega), by rw [c]⟩)
    · exact .inr (.inl ⟨decide_eq_false (by omega), decide_eq_true c, fun z => by injection z with z; omega⟩)
  | .int a, .str z, _, _ => .inl ⟨rfl, rfl, fun z => nomatch z⟩
  | .str z, .int a, _, _ => .inr (.inl ⟨rfl, rfl, fun z => nomatch z⟩)
  | .str x, .str y, _, _ => by
    rcases str_tri x y with ⟨h1, h2, h3⟩ | ⟨h1, h2, h3⟩ | ⟨h3, h1, h2⟩
    · exact .inl ⟨decide_eq_true h1, decide_eq_false h2, fun z => by injection z with z; exact h3 z⟩
    · exact .inr (.inl ⟨decide_eq_false h1, decide_eq_true h2, fun z => by injection z with z; exact h3 z⟩)
    · exact .inr (.inr ⟨decide_eq_false h1, decide_eq_false h2, by rw [h3]⟩)
theorem bf_trans : ∀ {d e f : PyData}, bf d e = true → bf e f = true → bf d f = true
  | .int a, .int b, .int c, h1, h2 => by
    have h1 := of_decide_eq_true h1
    have h2 := of_decide_eq_true h2
    exact decide_eq_true (Int.lt_trans h1 h2)
  | .int a, .int b, .str c, h1, h2 => rfl
  | .int a, .str b, .str c, h1, h2 => rfl
  | .str a, .str b, .str c, h1, h2 => by
    have h1 := of_decide_eq_true h1
    have h2 := of_decide_eq_true h2
    exact decide_eq_true (List.lt_trans h1 h2)
theorem rord_step {d e : PyData} {ds es : List PyData} : rord (d :: ds) (e :: es) = if bf d e = true then -1 else if bf e d = true then 1 else rord ds es := by
  rw [rord]
theorem rord_neg : ∀ {ds es : List PyData}, Atoms ds → Atoms es → rord es ds = - rord ds es
  | [], [], _, _ => rfl
  | [], _ :: _, _, _ => rfl
  | _ :: _, [], _, _ => rfl
  | d :: ds, e :: es, hd, he => by
    have ih := rord_neg (ds := ds) (es := es) (fun x hx => hd x (List.mem_cons_of_mem _ hx)) (fun x hx => he x (List.mem_cons_of_mem _ hx))
    rw [rord_step, rord_step]
    rcases atom_tri (hd d List.mem_cons_self) (he e List.mem_cons_self) with ⟨h1, h2, _⟩ | ⟨h1, h2, _⟩ | ⟨h1, h2, _⟩
    · rw [h1, h2]; rfl
    · rw [h1, h2]; rfl
    · rw [h1, h2]
      simpa using ih
theorem rord_zero : ∀ {ds es : List PyData}, Atoms ds → Atoms es → (rord ds es = 0 ↔ ds = es)
  | [], [], _, _ => ⟨fun _ => rfl, fun _ => rfl⟩
  | [], _ :: _, _, _ => ⟨fun h => by rw [rord] at h; omega, fun h => nomatch h⟩
  | _ :: _, [], _, _ => ⟨fun h => by rw [rord] at h; omega, fun h => nomatch h⟩
  | d :: ds, e :: es, hd, he => by
    have ih := rord_zero (ds := ds) (es := es) (fun x hx => hd x (List.mem_cons_of_mem _ hx)) (fun x hx => he x (List.mem_cons_of_mem _ hx))
    rw [rord_step]
    rcases atom_tri (hd d List.mem_cons_self) (he e List.mem_cons_self) with ⟨h1, h2, h3⟩ | ⟨h1, h2, h3⟩ | ⟨h1, h2, h3⟩
    · rw [h1]
      exact ⟨fun h => by simp at h, fun h => absurd (List.cons.inj h).1 h3⟩
    · rw [h1, h2]
      exact ⟨fun h => by simp at h, fun h => absurd (List.cons.inj h).1 h3⟩
    · rw [h1, h2, h3]
      simp only [Bool.false_eq_true, if_false]
      exact ⟨fun h => by rw [ih.mp h], fun h => ih.mpr (List.cons.inj h).2⟩
theorem rord_trans : ∀ {as bs cs : List PyData}, Atoms as → Atoms bs → Atoms cs → rord as bs < 0 → rord bs cs < 0 → rord as cs < 0
  | [], [], _, _, _, _, h, _ => by rw [rord] at h; omega
  | [], _ :: _, [], _, _, _, _, h => by rw [rord] at h; omega
  | [], _ :: _, _ :: _, _, _, _, _, _ => by rw [rord]; omega
  | _ :: _, [], _, _, _, _, h, _ => by rw [rord] at h; omega
  | _ :: _, _ :: _, [], _, _, _, _, h => by rw [rord] at h; omega
  | a :: as, b :: bs, c :: cs, ha, hb, hc, h1, h2 => by
    have ih := rord_trans (as := as) (bs := bs) (cs := cs) (fun x hx => ha x (List.mem_cons_of_mem _ hx)) (fun x hx => hb x (List.mem_cons_of_mem _ hx)) (fun x hx => hc x (List.mem_cons_of_mem _ hx))
    rw [rord_step] at h1 h2 ⊢
    rcases atom_tri (ha a List.mem_cons_self) (hb b List.mem_cons_self) with ⟨u1, u2, u3⟩ | ⟨u1, u2, u3⟩ | ⟨u1, u2, u3⟩
    · rcases atom_tri (hb b List.mem_cons_self) (hc c List.mem_cons_self) with ⟨v1, v2, v3⟩ | ⟨v1, v2, v3⟩ | ⟨v1, v2, v3⟩
      · rw [bf_trans u1 v1]; simp
      · rw [v1, v2] at h2; simp at h2
      · rw [← v3, u1]; simp
    · rw [u1, u2] at h1; simp at h1
    · rw [u3]
      rcases atom_tri (hb b List.mem_cons_self) (hc c List.mem_cons_self) with ⟨v1, v2, v3⟩ | ⟨v1, v2, v3⟩ | ⟨v1, v2, v3⟩
      · rw [v1]; simp
      · rw [v1, v2] at h2; simp at h2
      · rw [v1, v2] at h2 ⊢
        rw [u1, u2] at h1
        simp only [Bool.false_eq_true, if_false] at h1 h2 ⊢
        exact ih h1 h2
theorem rord_vals : ∀ (ds es : List PyData), rord ds es = -1 ∨ rord ds es = 0 ∨ rord ds es = 1
  | [], [] => .inr (.inl rfl)
  | [], _ :: _ => .inl rfl
  | _ :: _, [] => .inr (.inr rfl)
  | d :: ds, e :: es => by
    rw [rord_step]
    by_cases c : bf d e = true
    · exact .inl (if_pos c)
    · rw [if_neg c]
      by_cases c2 : bf e d = true
      · exact .inr (.inr (if_pos c2))
      · rw [if_neg c2]
        exact rord_vals ds es
/-! ### keys -/
abbrev Ky := Int × Str × List PyData
def kc (a b : Ky) : Int := kord a.1 a.2.1 a.2.2 b.1 b.2.1 b.2.2
def okK (a : Ky) : Prop := Atoms a.2.2
theorem kc_cases {a b : Ky} (ha : okK a) (hb : okK b) : (kc a b < 0 ∧ kc b a > 0 ∧ a ≠ b) ∨ (kc a b > 0 ∧ kc b a < 0 ∧ a ≠ b) ∨ (kc a b = 0 ∧ kc b a = 0 ∧ a = b) := by
  obtain ⟨s, n, ds⟩ := a
  obtain ⟨t, m, es⟩ := b
  unfold kc kord
  simp only []
  by_cases c : s = t ∧ n = m
  · obtain ⟨rfl, rfl⟩ := c
    rw [if_pos ⟨rfl, rfl⟩, if_pos ⟨rfl, rfl⟩]
    have neg := rord_neg (ds := ds) (es := es) ha hb
    have zer := rord_zero (ds := ds) (es := es) ha hb
    rcases rord_vals ds es with h | h | h
    · exact .inl ⟨by omega, by omega, fun z => by
        injection z with z1 z2
        injection z2 with z2 z3
        rw [zer.mpr z3] at h
        omega⟩
    · exact .inr (.inr ⟨h, by omega, by rw [zer.mp h]⟩)
    · exact .inr (.inl ⟨by omega, by omega, fun z => by
        injection z with z1 z2
        injection z2 with z2 z3
        rw [zer.mpr z3] at h
        omega⟩)
  · have c' : ¬ (t = s ∧ m = n) := fun z => c ⟨z.1.symm, z.2.symm⟩
    rw [if_neg c, if_neg c']
    have ne : ((s, n, ds) : Ky) ≠ (t, m, es) := fun z => c (by
      injection z with z1 z2
      injection z2 with z2 z3
      exact ⟨z1, z2⟩)
    unfold plt
    by_cases st : s = t
    · subst st
      rw [if_pos rfl, if_pos rfl]
      rcases str_tri n m with ⟨h1, h2, _⟩ | ⟨h1, h2, _⟩ | ⟨h3, _, _⟩
      · rw [decide_eq_true h1, decide_eq_false h2]
        exact .inl ⟨by decide, by decide, ne⟩
      · rw [decide_eq_false h1, decide_eq_true h2]
        exact .inr (.inl ⟨by decide, by decide, ne⟩)
      · exact absurd ⟨rfl, h3⟩ c
    · have ts : ¬ t = s := fun z => st z.symm
      rw [if_neg st, if_neg ts]
      rcases Int.lt_or_gt_of_ne st with h | h
      · rw [decide_eq_true h, decide_eq_false (by omega)]
        exact .inl ⟨by decide, by decide, ne⟩
      · rw [decide_eq_false (by omega), decide_eq_true (show t < s from h)]
        exact .inr (.inl ⟨by decide, by decide, ne⟩)
theorem kc_lt_iff {a b : Ky} : kc a b < 0 ↔ (a.1 < b.1 ∨ (a.1 = b.1 ∧ (a.2.1.cps.toList < b.2.1.cps.toList ∨ (a.2.1 = b.2.1 ∧ rord a.2.2 b.2.2 < 0)))) := by
  obtain ⟨s, n, ds⟩ := a
  obtain ⟨t, m, es⟩ := b
  unfold kc kord
  simp only []
  by_cases c : s = t ∧ n = m
  · obtain ⟨rfl, rfl⟩ := c
    rw [if_pos ⟨rfl, rfl⟩]
    exact ⟨fun h => .inr ⟨rfl, .inr ⟨rfl, h⟩⟩, fun h => by
      rcases h with h | ⟨_, h | ⟨_, h⟩⟩
      · omega
      · exact absurd h (List.lt_irrefl _)
      · exact h⟩
  · rw [if_neg c]
    unfold plt
    by_cases st : s = t
    · subst st
      rw [if_pos rfl]
      by_cases h : n.cps.toList < m.cps.toList
      · rw [decide_eq_true h, if_pos rfl]
        exact ⟨fun _ => .inr ⟨rfl, .inl h⟩, fun _ => by decide⟩
      · rw [decide_eq_false h, if_neg Bool.false_ne_true]
        exact ⟨fun z => absurd z (by decide), fun z => by
          rcases z with z | ⟨_, z | ⟨z, _⟩⟩
          · omega
          · exact absurd z h
          · exact absurd ⟨rfl, z⟩ c⟩
    · rw [if_neg st]
      by_cases h : s < t
      · rw [decide_eq_true h, if_pos rfl]
        exact ⟨fun _ => .inl h, fun _ => by decide⟩
      · rw [decide_eq_false h, if_neg Bool.false_ne_true]
        exact ⟨fun z => absurd z (by decide), fun z => by
          rcases z with z | ⟨z, _⟩
          · exact absurd z h
          · exact absurd z st⟩
theorem kc_trans {a b c : Ky} (ha : okK a) (hb : okK b) (hc : okK c) (h1 : kc a b < 0) (h2 : kc b c < 0) : kc a c < 0 := by
  rw [kc_lt_iff] at h1 h2 ⊢
  rcases h1 with h1 | ⟨e1, h1⟩
  · rcases h2 with h2 | ⟨e2, _⟩
    · exact .inl (Int.lt_trans h1 h2)
    · exact .inl (by rw [← e2]; exact h1)
  · rcases h2 with h2 | ⟨e2, h2⟩
    · exact .inl (by rw [e1]; exact h2)
    · refine .inr ⟨e1.trans e2, ?_⟩
      rcases h1 with h1 | ⟨m1, h1⟩
      · rcases h2 with h2 | ⟨m2, _⟩
        · exact .inl (List.lt_trans h1 h2)
        · exact .inl (by rw [← m2]; exact h1)
      · rcases h2 with h2 | ⟨m2, h2⟩
        · exact .inl (by rw [m1]; exact h2)
        · exact .inr ⟨m1.trans m2, rord_trans ha hb hc h1 h2⟩
/-! ### sorted lists of items -/
abbrev ltI (a b : It1) : Prop := kc (keyI a) (keyI b) < 0
def SortedI (l : List It1) : Prop := l.Pairwise ltI
def OkL (l : List It1) : Prop := ∀ i ∈ l, okI i
theorem okK_of {i : It1} (h : okI i) : okK (keyI i) := (okI_key h).1
theorem ltI_irrefl {i : It1} (h : okI i) : ¬ ltI i i := fun z => by
  rcases kc_cases (okK_of h) (okK_of h) with ⟨_, _, c⟩ | ⟨_, _, c⟩ | ⟨c, _, _⟩
  · exact c rfl
  · exact c rfl
  · unfold ltI at z
    omega
/-- two sorted lists with the same members are one -/
theorem sorted_ext : ∀ {l m : List It1}, SortedI l → SortedI m → OkL l → OkL m → (∀ i, i ∈ l ↔ i ∈ m) → l = m
  | [], [], _, _, _, _, _ => rfl
  | [], x :: m, _, _, _, _, h => absurd ((h x).mpr List.mem_cons_self) (fun z => by cases z)
  | x :: l, [], _, _, _, _, h => absurd ((h x).mp List.mem_cons_self) (fun z => by cases z)
  | x :: l, y :: m, sl, sm, ol, om, h => by
    obtain ⟨x1, x2⟩ := List.pairwise_cons.mp sl
    obtain ⟨y1, y2⟩ := List.pairwise_cons.mp sm
    have ox := ol x List.mem_cons_self
    have oy := om y List.mem_cons_self
    have exy : x = y := by
      rcases List.mem_cons.mp ((h x).mp List.mem_cons_self) with e | e
      · exact e
      · rcases List.mem_cons.mp ((h y).mpr List.mem_cons_self) with e2 | e2
        · exact e2.symm
        · have a := y1 x e
          have b := x1 y e2
          exact absurd (kc_trans (okK_of ox) (okK_of oy) (okK_of ox) b a) (ltI_irrefl ox)
    subst exy
    rw [sorted_ext (l := l) (m := m) x2 y2 (fun i hi => ol i (List.mem_cons_of_mem _ hi)) (fun i hi => om i (List.mem_cons_of_mem _ hi)) (fun i => ?_)]
    constructor
    · intro hi
      rcases List.mem_cons.mp ((h i).mp (List.mem_cons_of_mem _ hi)) with e | e
      · subst e
        exact absurd (x1 i hi) (ltI_irrefl ox)
      · exact e
    · intro hi
      rcases List.mem_cons.mp ((h i).mpr (List.mem_cons_of_mem _ hi)) with e | e
      · subst e
        exact absurd (y1 i hi) (ltI_irrefl ox)
      · exact e
theorem sorted_key {l : List It1} (s : SortedI l) (o : OkL l) {i j : It1} (hi : i ∈ l) (hj : j ∈ l) (e : keyI i = keyI j) : i = j := by
  induction l with
  | nil => cases hi
  | cons x l ih =>
    obtain ⟨x1, x2⟩ := List.pairwise_cons.mp s
    have no : ∀ k ∈ l, keyI x ≠ keyI k := fun k hk z => by
      have a := x1 k hk
      unfold ltI at a
      rw [← z] at a
      exact ltI_irrefl (o x List.mem_cons_self) a
    rcases List.mem_cons.mp hi with h1 | h1
    · rcases List.mem_cons.mp hj with h2 | h2
      · rw [h1, h2]
      · exact absurd (h1 ▸ e) (no j h2)
    · rcases List.mem_cons.mp hj with h2 | h2
      · exact absurd (h2 ▸ e.symm) (no i h1)
      · exact ih x2 (fun k hk => o k (List.mem_cons_of_mem _ hk)) h1 h2
/-- an item in the place of the one with its key -/
def putI (l : List It1) (i : It1) : List It1 := (l.filter fun x => decide (kc (keyI x) (keyI i) < 0)) ++ [i] ++ l.filter fun x => decide (kc (keyI x) (keyI i) > 0)
def takeI (l : List It1) (k : Ky) : List It1 := l.filter fun x => decide (kc (keyI x) k ≠ 0)
theorem mem_putI {l : List It1} {i : It1} (o : OkL l) (oi : okI i) (x : It1) : x ∈ putI l i ↔ x = i ∨ (x ∈ l ∧ keyI x ≠ keyI i) := by
  unfold putI
  rw [List.mem_append, List.mem_append, List.mem_filter, List.mem_filter, List.mem_singleton]
  constructor
  · intro h
    rcases h with (⟨h, c⟩ | h) | ⟨h, c⟩
    · rcases kc_cases (okK_of (o x h)) (okK_of oi) with ⟨_, _, n⟩ | ⟨_, _, n⟩ | ⟨z, _, _⟩
      · exact .inr ⟨h, n⟩
      · exact .inr ⟨h, n⟩
      · have c := of_decide_eq_true c
        omega
    · exact .inl h
    · rcases kc_cases (okK_of (o x h)) (okK_of oi) with ⟨_, _, n⟩ | ⟨_, _, n⟩ | ⟨z, _, _⟩
      · exact .inr ⟨h, n⟩
      · exact .inr ⟨h, n⟩
      · have c := of_decide_eq_true c
        omega
  · intro h
    rcases h with h | ⟨h, n⟩
    · exact .inl (.inr h)
    · rcases kc_cases (okK_of (o x h)) (okK_of oi) with ⟨z, _, _⟩ | ⟨z, _, _⟩ | ⟨_, _, z⟩
      · exact .inl (.inl ⟨h, decide_eq_true z⟩)
      · exact .inr ⟨h, decide_eq_true z⟩
      · exact absurd z n
theorem ok_putI {l : List It1} {i : It1} (o : OkL l) (oi : okI i) : OkL (putI l i) := fun x hx => by
  rcases (mem_putI o oi x).mp hx with h | h
  · rw [h]
    exact oi
  · exact o x h.1
theorem sorted_putI {l : List It1} {i : It1} (s : SortedI l) (o : OkL l) (oi : okI i) : SortedI (putI l i) := by
  unfold SortedI putI
  rw [List.append_assoc, List.pairwise_append]
  refine ⟨List.Pairwise.filter _ s, ?_, fun a ha b hb => ?_⟩
  · rw [List.singleton_append, List.pairwise_cons]
    refine ⟨fun b hb => ?_, List.Pairwise.filter _ s⟩
    obtain ⟨hb, c⟩ := List.mem_filter.mp hb
    have c := of_decide_eq_true c
    rcases kc_cases (okK_of (o b hb)) (okK_of oi) with ⟨z, _, _⟩ | ⟨_, z, _⟩ | ⟨z, _, _⟩
    · omega
    · exact z
    · omega
  · obtain ⟨ha, c⟩ := List.mem_filter.mp ha
    have c := of_decide_eq_true c
    rcases List.mem_append.mp hb with hb | hb
    · rw [List.mem_singleton.mp hb]
      exact c
    · obtain ⟨hb, c2⟩ := List.mem_filter.mp hb
      have c2 := of_decide_eq_true c2
      have c3 : kc (keyI i) (keyI b) < 0 := by
        rcases kc_cases (okK_of (o b hb)) (okK_of oi) with ⟨z, _, _⟩ | ⟨_, z, _⟩ | ⟨z, _, _⟩
        · omega
        · exact z
        · omega
      exact kc_trans (okK_of (o a ha)) (okK_of oi) (okK_of (o b hb)) c c3
theorem mem_takeI {l : List It1} {k : Ky} (o : OkL l) (ok : okK k) (x : It1) : x ∈ takeI l k ↔ x ∈ l ∧ keyI x ≠ k := by
  unfold takeI
  rw [List.mem_filter]
  constructor
  · intro h
    refine ⟨h.1, fun z => ?_⟩
    have t := of_decide_eq_true h.2
    rcases kc_cases (okK_of (o x h.1)) ok with ⟨_, _, n⟩ | ⟨_, _, n⟩ | ⟨e, _, _⟩
    · exact n z
    · exact n z
    · exact t e
  · intro h
    refine ⟨h.1, decide_eq_true fun z => ?_⟩
    rcases kc_cases (okK_of (o x h.1)) ok with ⟨e, _, _⟩ | ⟨e, _, _⟩ | ⟨_, _, n⟩
    · omega
    · omega
    · exact h.2 n
theorem sorted_takeI {l : List It1} {k : Ky} (s : SortedI l) : SortedI (takeI l k) := List.Pairwise.filter _ s
theorem ok_takeI {l : List It1} {k : Ky} (o : OkL l) : OkL (takeI l k) := fun x hx => o x (List.mem_filter.mp hx).1
/-! ### sorted rows -/
def SortedR (rs : List (List PyData)) : Prop := rs.Pairwise fun a b => rord a b < 0
theorem rows_split {rs : List (List PyData)} {row : List PyData} (s : SortedR rs) (ha : ∀ r ∈ rs, Atoms r) (hr : Atoms row) {p : Nat} (hp : p ≤ rs.length) (h1 : ∀ j (hj : j < rs.length), j < p → rord rs[j] row < 0) (h2 : ∀ j (hj : j < rs.length), p ≤ j → ¬ rord rs[j] row < 0) :
    (row ∈ rs ↔ ∃ h : p < rs.length, rs[p] = row) ∧ (row ∉ rs → SortedR (rs.take p ++ row :: rs.drop p)) := by
  have pos : ∀ j (hj : j < rs.length), p ≤ j → row ∉ rs → rord row rs[j] < 0 := fun j hj h nm => by
    have a := h2 j hj h
    have n := rord_neg (ds := rs[j]) (es := row) (ha _ (List.getElem_mem hj)) hr
    have z := rord_zero (ds := rs[j]) (es := row) (ha _ (List.getElem_mem hj)) hr
    rcases rord_vals rs[j] row with c | c | c
    · omega
    · exact absurd (z.mp c ▸ List.getElem_mem hj) nm
    · omega
  refine ⟨⟨fun hm => ?_, fun ⟨h, e⟩ => e ▸ List.getElem_mem h⟩, fun nm => ?_⟩
  · obtain ⟨j, hj, e⟩ := List.getElem_of_mem hm
    have zj : rord rs[j] row = 0 := (rord_zero (ha _ (List.getElem_mem hj)) hr).mpr e
    have hpj : p ≤ j := by
      rcases Nat.lt_or_ge j p with c | c
      · have t := h1 j hj c
        omega
      · exact c
    have hpl : p < rs.length := Nat.lt_of_le_of_lt hpj hj
    refine ⟨hpl, ?_⟩
    rcases Nat.lt_or_ge p j with c | c
    · have t := List.pairwise_iff_getElem.mp s p j hpl hj c
      rw [e] at t
      exact absurd t (h2 p hpl (Nat.le_refl p))
    · have ej : p = j := by omega
      subst ej
      exact e
  · unfold SortedR
    rw [List.pairwise_append]
    refine ⟨List.Pairwise.sublist (List.take_sublist _ _) s, ?_, fun a ha' b hb' => ?_⟩
    · rw [List.pairwise_cons]
      refine ⟨fun b hb => ?_, List.Pairwise.sublist (List.drop_sublist _ _) s⟩
      obtain ⟨j, hj, e⟩ := List.getElem_of_mem hb
      rw [List.getElem_drop] at e
      rw [← e]
      exact pos _ _ (Nat.le_add_right _ _) nm
    · obtain ⟨i, hi, e⟩ := List.getElem_of_mem ha'
      rw [List.length_take] at hi
      rw [List.getElem_take] at e
      have a1 : rord a row < 0 := by
        rw [← e]
        exact h1 i (by omega) (by omega)
      rcases List.mem_cons.mp hb' with hb | hb
      · rw [hb]
        exact a1
      · obtain ⟨j, hj, e2⟩ := List.getElem_of_mem hb
        rw [List.getElem_drop] at e2
        have b1 : rord row b < 0 := by
          rw [← e2]
          exact pos _ _ (Nat.le_add_right _ _) nm
        have aa : Atoms a := by
          rw [← e]
          exact ha _ (List.getElem_mem _)
        have ab : Atoms b := by
          rw [← e2]
          exact ha _ (List.getElem_mem _)
        exact rord_trans aa hr ab a1 b1

end KV

namespace KV
open PySem PySem.Spec PyProof.Rows L2 KA
/-- a list of sorted rows -/
structure RowsAt (H : Hp) (l : Addr) (rs : List (List PyData)) (N : Nat) : Prop where
  ex : ∃ ys, H l = some (.lst ys) ∧ Tps H ys (rs.map PyData.tuple)
  srt : SortedR rs
  ok : ∀ r ∈ rs, Atoms r ∧ r.length ≤ 1000
  len : rs.length ≤ N
section
variable {P : Program} {w : World} {K : PySem.W.Frag} {mg : Str → Option Value} {base : Heap}
abbrev sPO : Stmt := topS 8
theorem scPO : FnScope ["rows", "row", "wanted", "low", "high", "middle"] ["rows", "row"] (defScope sPO) := ⟨rfl, rfl, rfl, by decide +kernel, rfl, by decide +kernel, by decide +kernel⟩
def spPO : Sp := fun vs H Q _ => ∃ (l : Addr) (v : V) (rs : List (List PyData)) (row : List PyData) (N : Nat), vs = [.ref l, v] ∧ RowsAt H l rs N ∧ N ≤ 100000 ∧ Tp H v (.tuple row) ∧ Atoms row ∧ row.length ≤ 1000 ∧
  ∀ (p : Nat) H', Same H H' → p ≤ rs.length → (∀ j (hj : j < rs.length), j < p → rord rs[j] row < 0) → (∀ j (hj : j < rs.length), p ≤ j → ¬ rord rs[j] row < 0) → Q (.int (p : Nat)) H'
theorem ok_po {f : Addr} {fd : FuncData} (F : Fun K "place_of" "place_of" sPO f fd) (B : Bt mg) (DR : dRK P w K mg base) : FnOk P w K mg base CX0 3 f fd ["rows", "row"] spPO := by
  refine F.ok scPO (fun vs H Q E h => ?_) (fun cdv A outer s H vs Q E hr h => ?_)
  · obtain ⟨l, v, _, _, _, rfl, _⟩ := h
    rfl
  · obtain ⟨l, v, rs, row, N, rfl, ⟨⟨ys, el, tr⟩, srt, okr, hN⟩, hN2, tv, ar, lr, q⟩ := h
    refine ⟨_, pss_cons (ps_set (i := 2) scPO.nd rfl (.inl rfl) (pe_def DR hr (by rfl) (pa_cons (pv 1) pa_nil)))
      (pss_cons (ps_set (i := 3) scPO.nd rfl (.inl rfl) pe_int)
      (pss_cons (ps_set (i := 4) scPO.nd rfl (.inl rfl) (pe_callB call_len_seq (by rfl) B.len PySem.boot_len (pa_cons (pv 0) pa_nil)))
      (pss_cons (ps_while PassesOwn.never (pt_cmpR op_lt (pv 3) (pv 4) (nomark _))
        (pss_cons (ps_set (i := 5) scPO.nd rfl (.inl rfl) (pe_op op_fdiv (pe_op op_add (pv 3) (pv 4)) pe_int))
        (pss_one (ps_if (pt_cmpR (op_ltP hr.units) (pe_def DR hr (by rfl) (pa_cons (pe_ix ix_list (pv 0) (pv 5) (fun _ _ => rfl)) pa_nil)) (pv 2) (nomark _))
          (pss_one (ps_set (i := 3) scPO.nd rfl (.inl rfl) (pe_op op_add (pv 5) pe_int)))
          (pss_one (ps_set (i := 4) scPO.nd rfl (.inl rfl) (pv 5)))))))
      (pss_one (ps_ret (pv 3)))))), ?_⟩
    have ly : ys.length = rs.length := by rw [tr.length, List.length_map]
    refine ⟨v, rfl, v, row, rfl, tv, ar, lr, fun wa H1 s1 tw => ?_⟩
    refine ⟨.ref l, rfl, l, ys, rfl, .inl (SqL.of (s1 _ _ el)), ?_⟩
    refine ⟨fun m σ H' => ∃ lo hi : Nat, ∃ x5, σ = [some (.ref l), some v, some (.ref wa), some (.int (lo : Int)), some (.int (hi : Int)), x5] ∧ Same H1 H' ∧ lo ≤ hi ∧ hi ≤ rs.length ∧ m = hi - lo ∧
      (∀ j (hj : j < rs.length), j < lo → rord rs[j] row < 0) ∧ (∀ j (hj : j < rs.length), hi ≤ j → ¬ rord rs[j] row < 0), ⟨rs.length, 0, rs.length, none, by rw [← ly]; rfl, Same.refl _, Nat.zero_le _, Nat.le_refl _, rfl, fun j hj h => absurd h (Nat.not_lt_zero j), fun j hj h => absurd hj (Nat.not_lt.mpr h)⟩, fun m σ H' hW => ?_⟩
    obtain ⟨lo, hi, x5, rfl, s2, h1, h2, em, h3, h4⟩ := hW
    refine ⟨_, rfl, _, rfl, _, _, rfl, rfl, _, rfl, ite2 (fun c => ?_) (fun c => ?_)⟩
    · have c1 : (lo : Int) < hi := of_decide_eq_true c
      refine ⟨fun σ' H' => ∃ m', m' < m ∧ ∃ lo hi : Nat, ∃ x5, σ' = [some (.ref l), some v, some (.ref wa), some (.int (lo : Int)), some (.int (hi : Int)), x5] ∧ Same H1 H' ∧ lo ≤ hi ∧ hi ≤ rs.length ∧ m' = hi - lo ∧
        (∀ j (hj : j < rs.length), j < lo → rord rs[j] row < 0) ∧ (∀ j (hj : j < rs.length), hi ≤ j → ¬ rord rs[j] row < 0), fun σ' H' h => h, ?_⟩
      refine ⟨_, rfl, _, rfl, _, _, rfl, rfl, _, 2, rfl, rfl, ⟨by decide, by decide⟩, ?_⟩
      obtain ⟨mid, hmid⟩ : ∃ mid : Nat, ((lo : Int) + hi) / 2 = mid := nat_of (by omega)
      rw [show ((fun (i j : Int) => V.int (i / j)) ((lo : Int) + hi) 2 : V) = V.int (mid : Int) from congrArg V.int hmid]
      have m1 : lo ≤ mid := by omega
      have m2 : mid < hi := by omega
      have m3 : mid < rs.length := by omega
      have gm : (rs.map PyData.tuple)[mid]? = some (.tuple rs[mid]) := by
        rw [List.getElem?_map, List.getElem?_eq_getElem m3]
        rfl
      obtain ⟨x, ex, tx⟩ := tr.at_ gm
      obtain ⟨am, lm⟩ := okr _ (List.getElem_mem m3)
      have s12 : Same H H' := s1.trans s2
      refine ⟨.ref l, rfl, .int (mid : Int), rfl, l, ys, mid, x, rfl, rfl, SqL.of (s12 _ _ el), atI_nat ex, x, rs[mid], rfl, tx.mono (Tk.of s12), am, lm, fun k H2 s3 tk => ?_⟩
      refine ⟨.ref wa, rfl, _, _, _, tk, (tw.mono (Tk.of s2)).mono (Tk.of s3), small_row am, (row_agree am ar).1, _, rfl, ite2 (fun c2 => ?_) (fun c2 => ?_)⟩
      · have c3 : rord rs[mid] row < 0 := of_decide_eq_true c2
        refine ⟨.int (mid : Int), rfl, _, _, rfl, rfl, hi - (mid + 1), by omega, mid + 1, hi, some (.int (mid : Int)), rfl, s2.trans s3, by omega, h2, rfl, fun j hj hlt => ?_, h4⟩
        rcases Nat.lt_or_ge j mid with z | z
        · exact rord_trans (okr _ (List.getElem_mem hj)).1 am ar (List.pairwise_iff_getElem.mp srt j mid hj m3 z) c3
        · have ej : j = mid := by omega
          subst ej
          exact c3
      · have c3 : ¬ rord rs[mid] row < 0 := fun z => c2 (decide_eq_true z)
        refine ⟨.int (mid : Int), rfl, mid - lo, by omega, lo, mid, some (.int (mid : Int)), rfl, s2.trans s3, m1, by omega, rfl, h3, fun j hj hge => ?_⟩
        rcases Nat.lt_or_ge mid j with z | z
        · exact fun y => c3 (rord_trans am (okr _ (List.getElem_mem hj)).1 ar (List.pairwise_iff_getElem.mp srt mid j m3 hj z) y)
        · have ej : j = mid := by omega
          subst ej
          exact c3
    · have c1 : ¬ (lo : Int) < hi := fun z => c (decide_eq_true z)
      have elh : lo = hi := by omega
      subst elh
      exact ⟨.int (lo : Int), rfl, q lo H' (s1.trans s2) h2 h3 h4⟩
abbrev dPO (P : Program) (w : World) (K : PySem.W.Frag) (mg : Str → Option Value) (base : Heap) : Prop := Def P w K mg base "place_of" 3 ["rows", "row"] spPO
abbrev dSR (P : Program) (w : World) (K : PySem.W.Frag) (mg : Str → Option Value) (base : Heap) : Prop := Def P w K mg base "same_row" 3 ["first", "second"] spSR
abbrev sSA : Stmt := topS 9
theorem scSA : FnScope ["rows", "at", "row"] ["rows", "at", "row"] (defScope sSA) := ⟨rfl, rfl, rfl, by decide +kernel, rfl, by decide +kernel, by decide +kernel⟩
def spSA : Sp := fun vs H Q _ => ∃ (l : Addr) (v : V) (rs : List (List PyData)) (row : List PyData) (N p : Nat), vs = [.ref l, .int (p : Nat), v] ∧ RowsAt H l rs N ∧ N ≤ 100000 ∧ Tp H v (.tuple row) ∧ Atoms row ∧ row.length ≤ 1000 ∧
  ∀ (b : Bool) H', Same H H' → (b = true ↔ ∃ h : p < rs.length, rs[p] = row) → Q (.bl b) H'
theorem ok_sa {f : Addr} {fd : FuncData} (F : Fun K "stands_at" "stands_at" sSA f fd) (B : Bt mg) (DS : dSR P w K mg base) : FnOk P w K mg base CX0 4 f fd ["rows", "at", "row"] spSA := by
  refine F.ok scSA (fun vs H Q E h => ?_) (fun cdv A outer s H vs Q E hr h => ?_)
  · obtain ⟨_, _, _, _, _, _, rfl, _⟩ := h
    rfl
  · obtain ⟨l, v, rs, row, N, p, rfl, ⟨⟨ys, el, tr⟩, srt, okr, hN⟩, hN2, tv, ar, lr, q⟩ := h
    refine ⟨_, pss_one (ps_ret (pe_and (pe_cmpR op_lt (pv 1) (pe_callB call_len_seq (by rfl) B.len PySem.boot_len (pa_cons (pv 0) pa_nil)) (nomark _)) (pe_one (pe_def DS hr (by rfl) (pa_cons (pe_ix ix_list (pv 0) (pv 1) (fun _ _ => rfl)) (pa_cons (pv 2) pa_nil)))))), ?_⟩
    have ly : ys.length = rs.length := by rw [tr.length, List.length_map]
    refine ⟨_, rfl, .ref l, rfl, l, ys, rfl, .inl (SqL.of el), _, _, rfl, rfl, _, rfl, ite2 (fun c => ?_) (fun c => ?_)⟩
    · have c1 : (p : Int) < ys.length := of_decide_eq_true c
      have hp : p < rs.length := by omega
      have gm : (rs.map PyData.tuple)[p]? = some (.tuple rs[p]) := by
        rw [List.getElem?_map, List.getElem?_eq_getElem hp]
        rfl
      obtain ⟨x, ex, tx⟩ := tr.at_ gm
      obtain ⟨am, lm⟩ := okr _ (List.getElem_mem hp)
      refine ⟨.ref l, rfl, _, rfl, l, ys, p, x, rfl, rfl, SqL.of el, atI_nat ex, v, rfl, x, v, rs[p], row, rfl, tx, tv, am, ar, lm, lr, fun H' s' => q _ H' s' ?_⟩
      rw [(row_agree am ar).2.1]
      constructor
      · intro h
        exact ⟨hp, (rord_zero am ar).mp (of_decide_eq_true h)⟩
      · intro ⟨_, h⟩
        exact decide_eq_true ((rord_zero am ar).mpr h)
    · have c1 : ¬ (p : Int) < ys.length := fun z => c (decide_eq_true z)
      exact q false H (Same.refl _) ⟨(fun h => by cases h), fun ⟨h, _⟩ => absurd h (by omega)⟩
end

end KV

namespace KV
open PySem PySem.Spec PyProof.Rows L2 KA
/-! ### tables by membership -/
section
variable {κ : Type} [DecidableEq κ]
abbrev nd (kvs : List (κ × V)) : Prop := (kvs.map (·.1)).Nodup
theorem mem_val {kvs : List (κ × V)} (h : nd kvs) {k : κ} {v : V} : valV kvs k = some v ↔ (k, v) ∈ kvs := by
  induction kvs with
  | nil => exact ⟨fun z => by simp [valV] at z, fun z => by cases z⟩
  | cons p r ih =>
    have h1 : p.1 ∉ r.map (·.1) ∧ nd r := List.nodup_cons.mp h
    by_cases e : p.1 = k
    · rw [valV_pos e]
      constructor
      · intro z
        have z := Option.some.inj z
        rw [← z, ← e]
        exact List.mem_cons_self
      · intro z
        rcases List.mem_cons.mp z with z | z
        · rw [← z]
        · exact absurd (List.mem_map.mpr ⟨_, z, rfl⟩) (by rw [← e]; exact h1.1)
    · rw [valV_neg e, ih h1.2]
      constructor
      · exact fun z => List.mem_cons_of_mem _ z
      · intro z
        rcases List.mem_cons.mp z with z | z
        · exact absurd (by rw [← z]) e
        · exact z
theorem val_none {kvs : List (κ × V)} (h : nd kvs) {k : κ} : valV kvs k = none ↔ ∀ v, (k, v) ∉ kvs := by
  constructor
  · intro z v m
    rw [(mem_val h).mpr m] at z
    cases z
  · intro z
    cases c : valV kvs k with
    | none => rfl
    | some v => exact absurd ((mem_val h).mp c) (z v)
theorem mem_put {kvs : List (κ × V)} (h : nd kvs) {k k' : κ} {v v' : V} : (k', v') ∈ putK kvs k v ↔ (k' = k ∧ v' = v) ∨ (k' ≠ k ∧ (k', v') ∈ kvs) := by
  unfold putK
  by_cases c : (kvs.any fun kv => decide (kv.1 = k)) = true
  · rw [if_pos c, List.mem_map]
    constructor
    · rintro ⟨⟨a, b⟩, m, e⟩
      by_cases z : a = k
      · rw [if_pos z] at e
        cases e
        exact .inl ⟨z, rfl⟩
      · rw [if_neg z] at e
        cases e
        exact .inr ⟨z, m⟩
    · rintro (⟨e1, e2⟩ | ⟨n, m⟩)
      · obtain ⟨⟨a, b⟩, m, z⟩ := List.any_eq_true.mp c
        have z := of_decide_eq_true z
        refine ⟨(a, b), m, ?_⟩
        rw [if_pos z, e1, e2, ← z]
      · exact ⟨(k', v'), m, if_neg n⟩
  · rw [if_neg c, List.mem_append, List.mem_singleton]
    constructor
    · rintro (m | e)
      · refine .inr ⟨fun z => c (List.any_eq_true.mpr ⟨_, m, decide_eq_true z⟩), m⟩
      · cases e
        exact .inl ⟨rfl, rfl⟩
    · rintro (⟨e1, e2⟩ | ⟨_, m⟩)
      · rw [e1, e2]
        exact .inr rfl
      · exact .inl m
theorem nd_put {kvs : List (κ × V)} (h : nd kvs) (k : κ) (v : V) : nd (putK kvs k v) := by
  cases c : valV kvs k with
  | none => exact nd_putK v h c
  | some x =>
    have t : (kvs.any fun kv => decide (kv.1 = k)) = true := by
      rw [valV_any, c]
      rfl
    show ((putK kvs k v).map (·.1)).Nodup
    unfold putK
    rw [if_pos t, List.map_map]
    have e : (kvs.map ((·.1) ∘ fun kv => if kv.1 = k then (kv.1, v) else kv)) = kvs.map (·.1) := by
      apply List.map_congr_left
      intro p _
      show (if p.1 = k then (p.1, v) else p).1 = p.1
      by_cases z : p.1 = k
      · rw [if_pos z]
      · rw [if_neg z]
    rw [e]
    exact h
theorem mem_dropK {kvs : List (κ × V)} {k k' : κ} {v' : V} : (k', v') ∈ dropK kvs k ↔ k' ≠ k ∧ (k', v') ∈ kvs := by
  unfold dropK
  rw [List.mem_filter]
  exact ⟨fun h => ⟨of_decide_eq_true h.2, h.1⟩, fun h => ⟨h.2, decide_eq_true h.1⟩⟩
end
/-! ### which items are there behind a put, a take -/
theorem put_rel {l : List It1} {nm : Str} {n : Int} (o : OkL l) (a : Str) (m : Int) : It1.rel a m ∈ putI l (.rel nm n) ↔ (a = nm ∧ m = n) ∨ (a ≠ nm ∧ It1.rel a m ∈ l) := by
  rw [mem_putI o (show okI (.rel nm n) from trivial)]
  constructor
  · rintro (e | ⟨h, k⟩)
    · cases e
      exact .inl ⟨rfl, rfl⟩
    · exact .inr ⟨fun z => k (by rw [z]; rfl), h⟩
  · rintro (⟨rfl, rfl⟩ | ⟨k, h⟩)
    · exact .inl rfl
    · exact .inr ⟨h, fun z => k (by injection z with _ z; injection z)⟩
theorem put_fact {l : List It1} {nm : Str} {row : List PyData} (o : OkL l) (oi : okI (.fact nm row)) (a : Str) (ds : List PyData) : It1.fact a ds ∈ putI l (.fact nm row) ↔ (a = nm ∧ ds = row) ∨ It1.fact a ds ∈ l := by
  rw [mem_putI o oi]
  constructor
  · rintro (e | ⟨h, k⟩)
    · cases e
      exact .inl ⟨rfl, rfl⟩
    · exact .inr h
  · rintro (⟨rfl, rfl⟩ | h)
    · exact .inl rfl
    · by_cases c : a = nm ∧ ds = row
      · obtain ⟨rfl, rfl⟩ := c
        exact .inl rfl
      · exact .inr ⟨h, fun z => c (by injection z with _ z; injection z with z1 z2; exact ⟨z1, z2⟩)⟩
theorem put_rule {l : List It1} {nm rl : Str} {ts bd : PyData} (o : OkL l) (oi : okI (.rule nm rl ts bd)) (a rl' : Str) (ts' bd' : PyData) : It1.rule a rl' ts' bd' ∈ putI l (.rule nm rl ts bd) ↔ (a = nm ∧ rl' = rl ∧ ts' = ts ∧ bd' = bd) ∨ (a ≠ nm ∧ It1.rule a rl' ts' bd' ∈ l) := by
  rw [mem_putI o oi]
  constructor
  · rintro (e | ⟨h, k⟩)
    · cases e
      exact .inl ⟨rfl, rfl, rfl, rfl⟩
    · exact .inr ⟨fun z => k (by rw [z]; rfl), h⟩
  · rintro (⟨rfl, rfl, rfl, rfl⟩ | ⟨k, h⟩)
    · exact .inl rfl
    · exact .inr ⟨h, fun z => k (by injection z with _ z; injection z)⟩
theorem put_den {l : List It1} {nm : Str} {bd : PyData} (o : OkL l) (oi : okI (.den nm bd)) (a : Str) (bd' : PyData) : It1.den a bd' ∈ putI l (.den nm bd) ↔ (a = nm ∧ bd' = bd) ∨ (a ≠ nm ∧ It1.den a bd' ∈ l) := by
  rw [mem_putI o oi]
  constructor
  · rintro (e | ⟨h, k⟩)
    · cases e
      exact .inl ⟨rfl, rfl⟩
    · exact .inr ⟨fun z => k (by rw [z]; rfl), h⟩
  · rintro (⟨rfl, rfl⟩ | ⟨k, h⟩)
    · exact .inl rfl
    · exact .inr ⟨h, fun z => k (by injection z with _ z; injection z)⟩
/-- an item of another sort -/
theorem put_other {l : List It1} {i j : It1} (o : OkL l) (oi : okI i) (n : (keyI j).1 ≠ (keyI i).1) : j ∈ putI l i ↔ j ∈ l := by
  rw [mem_putI o oi]
  constructor
  · rintro (e | h)
    · exact absurd (by rw [e]) n
    · exact h.1
  · exact fun h => .inr ⟨h, fun z => n (by rw [z])⟩
/-! ### a State -/
def flds (r f u d : Addr) : List (Str × V) := [("relations", .ref r), ("facts", .ref f), ("rules", .ref u), ("denials", .ref d)]
def RelOk (kr : List (Key × V)) (its : List It1) (N : Nat) : Prop := nd kr ∧ kr.length ≤ N ∧ ∀ k v, (k, v) ∈ kr ↔ ∃ nm n, k = Sum.inr nm ∧ v = .int n ∧ It1.rel nm n ∈ its
def hasNm (its : List It1) (nm : Str) : Prop := (∃ n, It1.rel nm n ∈ its) ∨ ∃ ds, It1.fact nm ds ∈ its
def FacOk (H : Hp) (kf : List (Key × V)) (its : List It1) (F : Addr → Prop) (N : Nat) (B : Str → Prop) : Prop := nd kf ∧ kf.length ≤ N ∧
  (∀ k v, (k, v) ∈ kf → ∃ nm l rs, k = Sum.inr nm ∧ v = .ref l ∧ F l ∧ RowsAt H l rs N ∧ ∀ ds, ds ∈ rs ↔ It1.fact nm ds ∈ its) ∧
  (∀ nm, (∃ v, ((Sum.inr nm : Key), v) ∈ kf) ↔ B nm) ∧
  (∀ k k' v, (k, v) ∈ kf → (k', v) ∈ kf → k = k')
def RulOk (H : Hp) (ku : List (Key × V)) (its : List It1) (N : Nat) : Prop := nd ku ∧ ku.length ≤ N ∧
  (∀ k v, (k, v) ∈ ku → ∃ nm rl ts bd, k = Sum.inr nm ∧ Tp H v (.tuple [.str rl, ts, bd]) ∧ It1.rule nm rl ts bd ∈ its) ∧
  ∀ nm rl ts bd, It1.rule nm rl ts bd ∈ its → ∃ v, ((Sum.inr nm : Key), v) ∈ ku
def DenOk (H : Hp) (kd : List (Key × V)) (its : List It1) (N : Nat) : Prop := nd kd ∧ kd.length ≤ N ∧
  (∀ k v, (k, v) ∈ kd → ∃ nm bd, k = Sum.inr nm ∧ Tp H v bd ∧ It1.den nm bd ∈ its) ∧
  ∀ nm bd, It1.den nm bd ∈ its → ∃ v, ((Sum.inr nm : Key), v) ∈ kd
structure StB (C : Addr) (H : Hp) (s dx r f u d : Addr) (kr kf ku kd : List (Key × V)) (its : List It1) (F : Addr → Prop) (N : Nat) (B : Str → Prop) : Prop where
  hs : H s = some (.ins C dx (flds r f u d))
  hr : H r = some (.dK kr)
  hf : H f = some (.dK kf)
  hu : H u = some (.dK ku)
  hd : H d = some (.dK kd)
  fr : F r
  ff : F f
  fu : F u
  fd : F d
  rf : r ≠ f
  ru : r ≠ u
  rd : r ≠ d
  fu' : f ≠ u
  fd' : f ≠ d
  ud : u ≠ d
  rel : RelOk kr its N
  fac : FacOk H kf its F N B
  rul : RulOk H ku its N
  den : DenOk H kd its N
  srt : SortedI its
  ok : OkL its
  fs : ¬ F s
  fp : ∀ a, F a → (∃ kvs, H a = some (.dK kvs)) ∨ ∃ xs, H a = some (.lst xs)
/-- a State stands at s with these items; F: its own dicts and lists; N: a bound of their sizes -/
def StX (C : Addr) (H : Hp) (s : Addr) (its : List It1) (F : Addr → Prop) (N : Nat) (B : Str → Prop) : Prop := ∃ dx r f u d kr kf ku kd, StB C H s dx r f u d kr kf ku kd its F N B
abbrev StAt (C : Addr) (H : Hp) (s : Addr) (its : List It1) (F : Addr → Prop) (N : Nat) : Prop := StX C H s its F N (hasNm its)
theorem RowsAt.mono {H H' : Hp} {l : Addr} {rs : List (List PyData)} {N N' : Nat} (h : RowsAt H l rs N) (hn : N ≤ N') (k : Tk H H') (hl : ∀ o, H l = some o → H' l = some o) : RowsAt H' l rs N' := by
  obtain ⟨⟨ys, e, t⟩, s, o, n⟩ := h
  exact ⟨⟨ys, hl _ e, t.mono k⟩, s, o, Nat.le_trans n hn⟩
theorem FacOk.to {H H' : Hp} {kf : List (Key × V)} {its its' : List It1} {F F' : Addr → Prop} {N N' : Nat} {B B' : Str → Prop} (h : FacOk H kf its F N B) (k : Tk H H') (hl : ∀ l xs, F l → H l = some (.lst xs) → H' l = some (.lst xs)) (hF : ∀ a, F a → F' a) (hN : N ≤ N')
    (hf : ∀ nm ds, It1.fact nm ds ∈ its' ↔ It1.fact nm ds ∈ its) (hB : ∀ nm, B' nm ↔ B nm) : FacOk H' kf its' F' N' B' := by
  obtain ⟨f1, f2, f3, f4, f5⟩ := h
  refine ⟨f1, Nat.le_trans f2 hN, fun k1 v1 m => ?_, fun nm => (f4 nm).trans (hB nm).symm, f5⟩
  obtain ⟨nm, l, rs, e1, e2, e3, e4, e5⟩ := f3 k1 v1 m
  refine ⟨nm, l, rs, e1, e2, hF _ e3, ?_, fun ds => (e5 ds).trans (hf nm ds).symm⟩
  obtain ⟨⟨ys, e, t⟩, s, o, n⟩ := e4
  exact ⟨⟨ys, hl _ _ e3 e, t.mono k⟩, s, o, Nat.le_trans n hN⟩
theorem RulOk.to {H H' : Hp} {ku : List (Key × V)} {its its' : List It1} {N N' : Nat} (h : RulOk H ku its N) (k : Tk H H') (hN : N ≤ N') (hf : ∀ nm rl ts bd, It1.rule nm rl ts bd ∈ its' ↔ It1.rule nm rl ts bd ∈ its) : RulOk H' ku its' N' := by
  obtain ⟨f1, f2, f3, f4⟩ := h
  refine ⟨f1, Nat.le_trans f2 hN, fun k1 v1 m => ?_, fun nm rl ts bd m => f4 nm rl ts bd ((hf _ _ _ _).mp m)⟩
  obtain ⟨nm, rl, ts, bd, e1, e2, e3⟩ := f3 k1 v1 m
  exact ⟨nm, rl, ts, bd, e1, e2.mono k, (hf _ _ _ _).mpr e3⟩
theorem DenOk.to {H H' : Hp} {kd : List (Key × V)} {its its' : List It1} {N N' : Nat} (h : DenOk H kd its N) (k : Tk H H') (hN : N ≤ N') (hf : ∀ nm bd, It1.den nm bd ∈ its' ↔ It1.den nm bd ∈ its) : DenOk H' kd its' N' := by
  obtain ⟨f1, f2, f3, f4⟩ := h
  refine ⟨f1, Nat.le_trans f2 hN, fun k1 v1 m => ?_, fun nm bd m => f4 nm bd ((hf _ _).mp m)⟩
  obtain ⟨nm, bd, e1, e2, e3⟩ := f3 k1 v1 m
  exact ⟨nm, bd, e1, e2.mono k, (hf _ _).mpr e3⟩
theorem RelOk.to {kr : List (Key × V)} {its its' : List It1} {N N' : Nat} (h : RelOk kr its N) (hN : N ≤ N') (hf : ∀ nm n, It1.rel nm n ∈ its' ↔ It1.rel nm n ∈ its) : RelOk kr its' N' := by
  obtain ⟨f1, f2, f3⟩ := h
  refine ⟨f1, Nat.le_trans f2 hN, fun k v => (f3 k v).trans ?_⟩
  exact ⟨fun ⟨nm, n, e1, e2, e3⟩ => ⟨nm, n, e1, e2, (hf _ _).mpr e3⟩, fun ⟨nm, n, e1, e2, e3⟩ => ⟨nm, n, e1, e2, (hf _ _).mp e3⟩⟩
/-- what stands stays: the state stays -/
theorem StX.mono {C : Addr} {H H' : Hp} {s : Addr} {its : List It1} {F : Addr → Prop} {N N' : Nat} {B : Str → Prop} (h : StX C H s its F N B) (k : Tk H H') (ks : ∀ o, H s = some o → H' s = some o) (kF : ∀ a o, F a → H a = some o → H' a = some o) (hN : N ≤ N') : StX C H' s its F N' B := by
  obtain ⟨dx, r, f, u, d, kr, kf, ku, kd, b⟩ := h
  refine ⟨dx, r, f, u, d, kr, kf, ku, kd, ks _ b.hs, kF _ _ b.fr b.hr, kF _ _ b.ff b.hf, kF _ _ b.fu b.hu, kF _ _ b.fd b.hd, b.fr, b.ff, b.fu, b.fd, b.rf, b.ru, b.rd, b.fu', b.fd', b.ud, b.rel.to hN (fun _ _ => Iff.rfl), b.fac.to k (fun l xs hl e => kF _ _ hl e) (fun _ h => h) hN (fun _ _ => Iff.rfl) (fun _ => Iff.rfl), b.rul.to k hN (fun _ _ _ _ => Iff.rfl), b.den.to k hN (fun _ _ => Iff.rfl), b.srt, b.ok, b.fs, fun a ha => ?_⟩
  rcases b.fp a ha with ⟨x, e⟩ | ⟨x, e⟩
  · exact .inl ⟨x, kF _ _ ha e⟩
  · exact .inr ⟨x, kF _ _ ha e⟩
theorem StX.same {C : Addr} {H H' : Hp} {s : Addr} {its : List It1} {F : Addr → Prop} {N : Nat} {B : Str → Prop} (h : StX C H s its F N B) (k : Same H H') : StX C H' s its F N B := h.mono (Tk.of k) (fun o e => k _ o e) (fun a o _ e => k a o e) (Nat.le_refl _)
/-- all but the things of F stays -/
def Out (F : Addr → Prop) (H H' : Hp) : Prop := ∀ a o, ¬ F a → H a = some o → H' a = some o
theorem Out.refl (F : Addr → Prop) (H : Hp) : Out F H H := fun _ _ _ h => h
theorem Out.trans {F : Addr → Prop} {H H1 H2 : Hp} (a : Out F H H1) (b : Out F H1 H2) : Out F H H2 := fun x o n h => b x o n (a x o n h)
theorem Out.of {F : Addr → Prop} {H H' : Hp} (s : Same H H') : Out F H H' := fun a o _ h => s a o h
theorem Out.put {F : Addr → Prop} {H : Hp} {p : Addr} {o : HO} (h : F p) : Out F H (upd H p o) := fun a u n e => by
  rw [upd_ne (fun z => n (by rw [z]; exact h))]
  exact e
/-- the state's own things are no tuples -/
theorem Out.tk {F : Addr → Prop} {H H' : Hp} (o : Out F H H') (fp : ∀ a, F a → (∃ kvs, H a = some (.dK kvs)) ∨ ∃ xs, H a = some (.lst xs)) : Tk H H' := fun a xs h => o a _ (fun z => by
  rcases fp a z with ⟨x, e⟩ | ⟨x, e⟩ <;> rw [h] at e <;> cases e) h
theorem fl_rel (r f u d : Addr) : (flds r f u d).lookup ("relations" : Str) = some (.ref r) := by rfl
theorem fl_fac (r f u d : Addr) : (flds r f u d).lookup ("facts" : Str) = some (.ref f) := by rfl
theorem fl_rul (r f u d : Addr) : (flds r f u d).lookup ("rules" : Str) = some (.ref u) := by rfl
theorem fl_den (r f u d : Addr) : (flds r f u d).lookup ("denials" : Str) = some (.ref d) := by rfl
/-- the class State as the top has made it -/
structure Cs (K : PySem.W.Frag) (mg : Str → Option Value) (C : Addr) : Prop where
  cl : Cls K C
  nR : NoAttr K C "relations"
  nF : NoAttr K C "facts"
  nU : NoAttr K C "rules"
  nD : NoAttr K C "denials"
  mgC : mg "State" = some (.ref C)
/-- a method as its callers know it -/
structure MDef (P : Program) (w : World) (K : PySem.W.Frag) (mg : Str → Option Value) (base : Heap) (C : Addr) (m : Str) (k : Nat) (ps : List Str) (sp : Sp) : Prop where
  ex : ∃ (f : Addr) (fd : FuncData), FnOk P w K mg base CX0 k f fd ps sp ∧ Meth K C m f ∧ Binds K fd ps []
section
variable {X : Cx} {k : Nat} {m : Str} {C : Addr} {ps : List Str} {sp : Sp} {o e : Expr} {es : List Expr} {ta : TE} {t : TA} {pos apos : Pos}
theorem pe_mdef (D : MDef X.prog X.w X.K X.mg X.base C m k ps sp) (he : PE X o ta) (c : Cls X.K C) (hr : Room k X.A) (ha : PA X (e :: es) t) {pl : Sem Bool}
    (hst : starEach (e :: es) X.env = (false, eval e X.env) :: starEach es X.env := by rfl) (hpl : (backTo pos (starEach es X.env)).any (·.1) = false := by rfl)
    (ht : eval (.Call (.Attribute o m apos) (e :: es) [] pos) X.env = (do
      let ov ← eval o X.env
      standAt apos.atName
      let (f, first) ← holding [ov] (getMethod ov m pl)
      callWith pos f first (backTo pos (starEach (e :: es) X.env)) (backToKw pos (keywordEach [] X.env))) := by rfl) : PE X (.Call (.Attribute o m apos) (e :: es) [] pos) (tMeth C m sp [] E0 ta t) := by
  obtain ⟨f, fd, F, M, hb⟩ := D.ex
  exact pe_meth he c M F hr hb .nil pass0 ha hst hpl ht
end

end KV

namespace KV
open PySem PySem.Spec PyProof.Rows L2 KA
section
variable {C : Addr} {H : Hp} {s dx r f u d : Addr} {kr kf ku kd : List (Key × V)} {its : List It1} {F : Addr → Prop} {N : Nat} {B : Str → Prop}
theorem StB.ns (b : StB C H s dx r f u d kr kf ku kd its F N B) {a : Addr} (h : F a) : s ≠ a := fun z => b.fs (by rw [z]; exact h)
/-- no list of the state's facts is one of its four dicts -/
theorem lst_ne {H : Hp} {l a : Addr} {xs : List V} {kvs : List (Key × V)} (e : H l = some (.lst xs)) (e2 : H a = some (.dK kvs)) : l ≠ a := fun z => by
  rw [z, e2] at e
  cases e
/-- a new list for a name's facts -/
theorem setd_none (b : StB C H s dx r f u d kr kf ku kd its F N B) {p : Addr} {nm : Str} (hp : H p = none) (hn : valV kf (Sum.inr nm : Key) = none) (hB : ∀ ds, It1.fact nm ds ∈ its → B nm) :
    StB C (upd (upd H p (.lst [])) f (.dK (putK kf (Sum.inr nm : Key) (.ref p)))) s dx r f u d kr (putK kf (Sum.inr nm : Key) (.ref p)) ku kd its (fun a => F a ∨ a = p) (N + 1) (fun x => x = nm ∨ B x) := by
  have h0 : ∀ a o, H a = some o → a ≠ p := fun a o e z => by rw [z, hp] at e; cases e
  have hs' := b.hs
  have e1 : ∀ a o, a ≠ f → H a = some o → (upd (upd H p (.lst [])) f (.dK (putK kf (Sum.inr nm : Key) (.ref p)))) a = some o := fun a o n e => by
    rw [upd_ne n, upd_ne (h0 _ _ e)]
    exact e
  have tk : Tk H (upd (upd H p (.lst [])) f (.dK (putK kf (Sum.inr nm : Key) (.ref p)))) := fun a xs e => e1 a _ (fun z => by rw [z, b.hf] at e; cases e) e
  have pf : p ≠ f := fun z => h0 f _ b.hf z.symm
  have hps : s ≠ p := h0 s _ hs'
  obtain ⟨f1, f2, f3, f4, f5⟩ := b.fac
  refine ⟨e1 _ _ (b.ns b.ff) b.hs, e1 _ _ b.rf b.hr, upd_same, e1 _ _ b.fu'.symm b.hu, e1 _ _ b.fd'.symm b.hd, .inl b.fr, .inl b.ff, .inl b.fu, .inl b.fd, b.rf, b.ru, b.rd, b.fu', b.fd', b.ud, b.rel.to (Nat.le_succ _) (fun _ _ => Iff.rfl), ⟨nd_put f1 _ _, ?_, fun k v m => ?_, fun x => ?_, fun k k' v m m' => ?_⟩,
    b.rul.to tk (Nat.le_succ _) (fun _ _ _ _ => Iff.rfl), b.den.to tk (Nat.le_succ _) (fun _ _ => Iff.rfl), b.srt, b.ok, fun z => z.elim b.fs hps, fun a ha => ?_⟩
  · rw [putK_new _ hn, List.length_append]
    exact Nat.succ_le_succ f2
  · rcases (mem_put f1).mp m with ⟨e, e'⟩ | ⟨n, m⟩
    · refine ⟨nm, p, [], e, e', .inr rfl, ⟨⟨[], (by rw [upd_ne pf, upd_same]), .nil⟩, List.Pairwise.nil, (fun r h => by cases h), Nat.zero_le _⟩, fun ds => ⟨fun h => (by cases h), fun h => ?_⟩⟩
      obtain ⟨v0, m0⟩ := (f4 nm).mpr (hB ds h)
      exact absurd m0 ((val_none f1).mp hn v0)
    · obtain ⟨x, l, rs, a1, a2, a3, ⟨⟨ys, e, t⟩, a4, a5, a6⟩, a7⟩ := f3 k v m
      exact ⟨x, l, rs, a1, a2, .inl a3, ⟨⟨ys, e1 _ _ (lst_ne e b.hf) e, t.mono tk⟩, a4, a5, Nat.le_succ_of_le a6⟩, a7⟩
  · constructor
    · rintro ⟨v, m⟩
      rcases (mem_put f1).mp m with ⟨e, _⟩ | ⟨_, m⟩
      · exact .inl (by injection e)
      · exact .inr ((f4 x).mp ⟨v, m⟩)
    · rintro (rfl | h)
      · exact ⟨_, (mem_put f1).mpr (.inl ⟨rfl, rfl⟩)⟩
      · obtain ⟨v, m⟩ := (f4 x).mpr h
        by_cases c : (Sum.inr x : Key) = Sum.inr nm
        · rw [c] at m
          exact absurd m ((val_none f1).mp hn v)
        · exact ⟨v, (mem_put f1).mpr (.inr ⟨c, m⟩)⟩
  · have no : ∀ k, (k, V.ref p) ∉ kf := fun k m0 => by
      obtain ⟨x, l, rs, a1, a2, a3, ⟨⟨ys, e, t⟩, _⟩, _⟩ := f3 k _ m0
      injection a2 with a2
      rw [← a2, hp] at e
      cases e
    rcases (mem_put f1).mp m with ⟨a, a'⟩ | ⟨_, m⟩
    · rcases (mem_put f1).mp m' with ⟨c, _⟩ | ⟨_, m'⟩
      · rw [a, c]
      · rw [a'] at m'
        exact absurd m' (no _)
    · rcases (mem_put f1).mp m' with ⟨c, c'⟩ | ⟨_, m'⟩
      · rw [c'] at m
        exact absurd m (no _)
      · exact f5 _ _ _ m m'
  · rcases ha with ha | rfl
    · by_cases c : a = f
      · rw [c, upd_same]
        exact .inl ⟨_, rfl⟩
      · rcases b.fp a ha with ⟨x, e⟩ | ⟨x, e⟩
        · exact .inl ⟨x, e1 _ _ c e⟩
        · exact .inr ⟨x, e1 _ _ c e⟩
    · refine .inr ⟨[], ?_⟩
      rw [upd_ne pf, upd_same]
/-- the rows of one name change -/
theorem set_rows (b : StB C H s dx r f u d kr kf ku kd its F N B) {its' : List It1} {nm : Str} {l : Addr} {ys : List V} {rs : List (List PyData)} (m : ((Sum.inr nm : Key), V.ref l) ∈ kf) (hF : F l) (eo : ∃ ys0, H l = some (.lst ys0)) (t : Tps H ys (rs.map PyData.tuple)) (sr : SortedR rs) (okr : ∀ r ∈ rs, Atoms r ∧ r.length ≤ 1000) (ln : rs.length ≤ N + 1)
    (m1 : ∀ ds, It1.fact nm ds ∈ its' ↔ ds ∈ rs) (m2 : ∀ x ds, x ≠ nm → (It1.fact x ds ∈ its' ↔ It1.fact x ds ∈ its)) (m3 : ∀ x n, It1.rel x n ∈ its' ↔ It1.rel x n ∈ its) (m4 : ∀ x a c e, It1.rule x a c e ∈ its' ↔ It1.rule x a c e ∈ its) (m5 : ∀ x e, It1.den x e ∈ its' ↔ It1.den x e ∈ its)
    (so : SortedI its') (ok : OkL its') : StB C (upd H l (.lst ys)) s dx r f u d kr kf ku kd its' F (N + 1) B := by
  obtain ⟨ys0, eo⟩ := eo
  have e1 : ∀ a o, a ≠ l → H a = some o → (upd H l (.lst ys)) a = some o := fun a o n e => by
    rw [upd_ne n]
    exact e
  have tk : Tk H (upd H l (.lst ys)) := Tk.lst eo
  obtain ⟨f1, f2, f3, f4, f5⟩ := b.fac
  refine ⟨e1 _ _ (b.ns hF) b.hs, e1 _ _ (lst_ne eo b.hr).symm b.hr, e1 _ _ (lst_ne eo b.hf).symm b.hf, e1 _ _ (lst_ne eo b.hu).symm b.hu, e1 _ _ (lst_ne eo b.hd).symm b.hd, b.fr, b.ff, b.fu, b.fd, b.rf, b.ru, b.rd, b.fu', b.fd', b.ud, b.rel.to (Nat.le_succ _) m3, ⟨f1, Nat.le_succ_of_le f2, fun k v mk => ?_, f4, f5⟩,
    b.rul.to tk (Nat.le_succ _) m4, b.den.to tk (Nat.le_succ _) m5, so, ok, b.fs, fun a ha => ?_⟩
  · obtain ⟨x, l2, rs2, a1, a2, a3, ⟨⟨ys2, e, t2⟩, a4, a5, a6⟩, a7⟩ := f3 k v mk
    by_cases c : l2 = l
    · subst c
      rw [a2] at mk
      have ek := f5 _ _ _ mk m
      rw [ek] at a1
      injection a1 with a1
      subst a1
      exact ⟨nm, l2, rs, ek, a2, a3, ⟨⟨ys, upd_same, t.mono tk⟩, sr, okr, ln⟩, fun ds => (m1 ds).symm⟩
    · have cx : x ≠ nm := fun z => by
        rw [a1, z, a2] at mk
        have q1 := (mem_val f1).mpr mk
        rw [(mem_val f1).mpr m] at q1
        injection q1 with q1
        injection q1 with q1
        exact c q1.symm
      exact ⟨x, l2, rs2, a1, a2, a3, ⟨⟨ys2, e1 _ _ c e, t2.mono tk⟩, a4, a5, Nat.le_succ_of_le a6⟩, fun ds => (a7 ds).trans (m2 x ds cx).symm⟩
  · by_cases c : a = l
    · rw [c, upd_same]
      exact .inr ⟨_, rfl⟩
    · rcases b.fp a ha with ⟨x, e⟩ | ⟨x, e⟩
      · exact .inl ⟨x, e1 _ _ c e⟩
      · exact .inr ⟨x, e1 _ _ c e⟩
/-- one of the four dicts changes -/
theorem StB.keepF (b : StB C H s dx r f u d kr kf ku kd its F N B) {a0 : Addr} {kvs kvs' : List (Key × V)} (h0 : F a0) (e0 : H a0 = some (.dK kvs)) : (upd H a0 (.dK kvs')) s = some (.ins C dx (flds r f u d)) ∧ Tk H (upd H a0 (.dK kvs')) ∧ (∀ l xs, F l → H l = some (.lst xs) → (upd H a0 (.dK kvs')) l = some (.lst xs)) ∧
    ∀ a, F a → (∃ kvs2, (upd H a0 (.dK kvs')) a = some (.dK kvs2)) ∨ ∃ xs, (upd H a0 (.dK kvs')) a = some (.lst xs) := by
  refine ⟨by rw [upd_ne (b.ns h0)]; exact b.hs, fun a xs e => ?_, fun l xs _ e => ?_, fun a ha => ?_⟩
  · rw [upd_ne (fun z => by rw [z, e0] at e; cases e)]
    exact e
  · rw [upd_ne (lst_ne e e0)]
    exact e
  · by_cases c : a = a0
    · rw [c, upd_same]
      exact .inl ⟨_, rfl⟩
    · rw [upd_ne c]
      exact b.fp a ha
theorem set_rel (b : StB C H s dx r f u d kr kf ku kd its F N B) {its' : List It1} {kr' : List (Key × V)} (hr : RelOk kr' its' (N + 1)) (m1 : ∀ x ds, It1.fact x ds ∈ its' ↔ It1.fact x ds ∈ its) (m4 : ∀ x a c e, It1.rule x a c e ∈ its' ↔ It1.rule x a c e ∈ its) (m5 : ∀ x e, It1.den x e ∈ its' ↔ It1.den x e ∈ its)
    (so : SortedI its') (ok : OkL its') : StB C (upd H r (.dK kr')) s dx r f u d kr' kf ku kd its' F (N + 1) B := by
  obtain ⟨k1, k2, k3, k4⟩ := b.keepF (kvs' := kr') b.fr b.hr
  exact ⟨k1, upd_same, by rw [upd_ne b.rf.symm]; exact b.hf, by rw [upd_ne b.ru.symm]; exact b.hu, by rw [upd_ne b.rd.symm]; exact b.hd, b.fr, b.ff, b.fu, b.fd, b.rf, b.ru, b.rd, b.fu', b.fd', b.ud, hr, b.fac.to k2 k3 (fun _ h => h) (Nat.le_succ _) m1 (fun _ => Iff.rfl), b.rul.to k2 (Nat.le_succ _) m4, b.den.to k2 (Nat.le_succ _) m5, so, ok, b.fs, k4⟩
theorem set_rul (b : StB C H s dx r f u d kr kf ku kd its F N B) {its' : List It1} {ku' : List (Key × V)} (hr : RulOk H ku' its' (N + 1)) (m1 : ∀ x ds, It1.fact x ds ∈ its' ↔ It1.fact x ds ∈ its) (m3 : ∀ x n, It1.rel x n ∈ its' ↔ It1.rel x n ∈ its) (m5 : ∀ x e, It1.den x e ∈ its' ↔ It1.den x e ∈ its)
    (so : SortedI its') (ok : OkL its') : StB C (upd H u (.dK ku')) s dx r f u d kr kf ku' kd its' F (N + 1) B := by
  obtain ⟨k1, k2, k3, k4⟩ := b.keepF (kvs' := ku') b.fu b.hu
  exact ⟨k1, by rw [upd_ne b.ru]; exact b.hr, by rw [upd_ne b.fu']; exact b.hf, upd_same, by rw [upd_ne b.ud.symm]; exact b.hd, b.fr, b.ff, b.fu, b.fd, b.rf, b.ru, b.rd, b.fu', b.fd', b.ud, b.rel.to (Nat.le_succ _) m3, b.fac.to k2 k3 (fun _ h => h) (Nat.le_succ _) m1 (fun _ => Iff.rfl), hr.to k2 (Nat.le_refl _) (fun _ _ _ _ => Iff.rfl), b.den.to k2 (Nat.le_succ _) m5, so, ok, b.fs, k4⟩
theorem set_den (b : StB C H s dx r f u d kr kf ku kd its F N B) {its' : List It1} {kd' : List (Key × V)} (hr : DenOk H kd' its' (N + 1)) (m1 : ∀ x ds, It1.fact x ds ∈ its' ↔ It1.fact x ds ∈ its) (m3 : ∀ x n, It1.rel x n ∈ its' ↔ It1.rel x n ∈ its) (m4 : ∀ x a c e, It1.rule x a c e ∈ its' ↔ It1.rule x a c e ∈ its)
    (so : SortedI its') (ok : OkL its') : StB C (upd H d (.dK kd')) s dx r f u d kr kf ku kd' its' F (N + 1) B := by
  obtain ⟨k1, k2, k3, k4⟩ := b.keepF (kvs' := kd') b.fd b.hd
  exact ⟨k1, by rw [upd_ne b.rd]; exact b.hr, by rw [upd_ne b.fd']; exact b.hf, by rw [upd_ne b.ud]; exact b.hu, upd_same, b.fr, b.ff, b.fu, b.fd, b.rf, b.ru, b.rd, b.fu', b.fd', b.ud, b.rel.to (Nat.le_succ _) m3, b.fac.to k2 k3 (fun _ h => h) (Nat.le_succ _) m1 (fun _ => Iff.rfl), b.rul.to k2 (Nat.le_succ _) m4, hr.to k2 (Nat.le_refl _) (fun _ _ => Iff.rfl), so, ok, b.fs, k4⟩
/-- a name's list is forgotten -/
theorem drop_fac (b : StB C H s dx r f u d kr kf ku kd its F N B) {nm : Str} (hn : ¬ hasNm its nm) : StB C (upd H f (.dK (dropK kf (Sum.inr nm : Key)))) s dx r f u d kr (dropK kf (Sum.inr nm : Key)) ku kd its F N (fun x => x ≠ nm ∧ B x) := by
  obtain ⟨k1, k2, k3, k4⟩ := b.keepF (kvs' := dropK kf (Sum.inr nm : Key)) b.ff b.hf
  obtain ⟨f1, f2, f3, f4, f5⟩ := b.fac
  refine ⟨k1, by rw [upd_ne b.rf]; exact b.hr, upd_same, by rw [upd_ne b.fu'.symm]; exact b.hu, by rw [upd_ne b.fd'.symm]; exact b.hd, b.fr, b.ff, b.fu, b.fd, b.rf, b.ru, b.rd, b.fu', b.fd', b.ud, b.rel, ⟨nd_dropK f1, Nat.le_trans (List.length_filter_le _ _) f2, fun k v m => ?_, fun x => ?_, fun k k' v m m' => f5 _ _ _ (mem_dropK.mp m).2 (mem_dropK.mp m').2⟩,
    b.rul.to k2 (Nat.le_refl _) (fun _ _ _ _ => Iff.rfl), b.den.to k2 (Nat.le_refl _) (fun _ _ => Iff.rfl), b.srt, b.ok, b.fs, k4⟩
  · obtain ⟨x, l, rs, a1, a2, a3, ⟨⟨ys, e, t⟩, a4, a5, a6⟩, a7⟩ := f3 k v (mem_dropK.mp m).2
    exact ⟨x, l, rs, a1, a2, a3, ⟨⟨ys, k3 _ _ a3 e, t.mono k2⟩, a4, a5, a6⟩, a7⟩
  · constructor
    · rintro ⟨v, m⟩
      obtain ⟨n, m⟩ := mem_dropK.mp m
      exact ⟨fun z => n (by rw [z]), (f4 x).mp ⟨v, m⟩⟩
    · rintro ⟨n, h⟩
      obtain ⟨v, m⟩ := (f4 x).mpr h
      exact ⟨v, mem_dropK.mpr ⟨fun z => n (by injection z), m⟩⟩
theorem StB.nameB (b : StB C H s dx r f u d kr kf ku kd its F N B) {B' : Str → Prop} (h : ∀ x, B' x ↔ B x) : StB C H s dx r f u d kr kf ku kd its F N B' := by
  obtain ⟨f1, f2, f3, f4, f5⟩ := b.fac
  exact ⟨b.hs, b.hr, b.hf, b.hu, b.hd, b.fr, b.ff, b.fu, b.fd, b.rf, b.ru, b.rd, b.fu', b.fd', b.ud, b.rel, ⟨f1, f2, f3, fun x => (f4 x).trans (h x).symm, f5⟩, b.rul, b.den, b.srt, b.ok, b.fs, b.fp⟩
end
/-! ### the tables behind a put, a take -/
theorem RelOk.put {kr : List (Key × V)} {its : List It1} {N : Nat} (h : RelOk kr its N) (o : OkL its) (nm : Str) (n : Int) : RelOk (putK kr (Sum.inr nm : Key) (.int n)) (putI its (.rel nm n)) (N + 1) := by
  obtain ⟨f1, f2, f3⟩ := h
  refine ⟨nd_put f1 _ _, Nat.le_trans (length_putK _ _ _) (Nat.succ_le_succ f2), fun k v => ?_⟩
  rw [mem_put f1]
  constructor
  · rintro (⟨rfl, rfl⟩ | ⟨c, m⟩)
    · exact ⟨nm, n, rfl, rfl, (put_rel o _ _).mpr (.inl ⟨rfl, rfl⟩)⟩
    · obtain ⟨x, i, rfl, rfl, e⟩ := (f3 k v).mp m
      exact ⟨x, i, rfl, rfl, (put_rel o _ _).mpr (.inr ⟨fun z => c (by rw [z]), e⟩)⟩
  · rintro ⟨x, i, rfl, rfl, e⟩
    rcases (put_rel o _ _).mp e with ⟨rfl, rfl⟩ | ⟨c, e⟩
    · exact .inl ⟨rfl, rfl⟩
    · exact .inr ⟨fun z => c (by injection z), (f3 _ _).mpr ⟨x, i, rfl, rfl, e⟩⟩
theorem RulOk.put {H : Hp} {ku : List (Key × V)} {its : List It1} {N : Nat} (h : RulOk H ku its N) (o : OkL its) {nm rl : Str} {ts bd : PyData} (oi : okI (.rule nm rl ts bd)) {v : V} (tv : Tp H v (.tuple [.str rl, ts, bd])) : RulOk H (putK ku (Sum.inr nm : Key) v) (putI its (.rule nm rl ts bd)) (N + 1) := by
  obtain ⟨f1, f2, f3, f4⟩ := h
  refine ⟨nd_put f1 _ _, Nat.le_trans (length_putK _ _ _) (Nat.succ_le_succ f2), fun k v' m => ?_, fun a b c e m => ?_⟩
  · rcases (mem_put f1).mp m with ⟨rfl, rfl⟩ | ⟨c, m⟩
    · exact ⟨nm, rl, ts, bd, rfl, tv, (put_rule o oi _ _ _ _).mpr (.inl ⟨rfl, rfl, rfl, rfl⟩)⟩
    · obtain ⟨x, a, b, e, rfl, t, z⟩ := f3 k v' m
      exact ⟨x, a, b, e, rfl, t, (put_rule o oi _ _ _ _).mpr (.inr ⟨fun z => c (by rw [z]), z⟩)⟩
  · rcases (put_rule o oi _ _ _ _).mp m with ⟨rfl, _⟩ | ⟨n, m⟩
    · exact ⟨_, (mem_put f1).mpr (.inl ⟨rfl, rfl⟩)⟩
    · obtain ⟨x, z⟩ := f4 _ _ _ _ m
      exact ⟨x, (mem_put f1).mpr (.inr ⟨fun z => n (by injection z), z⟩)⟩
theorem DenOk.put {H : Hp} {kd : List (Key × V)} {its : List It1} {N : Nat} (h : DenOk H kd its N) (o : OkL its) {nm : Str} {bd : PyData} (oi : okI (.den nm bd)) {v : V} (tv : Tp H v bd) : DenOk H (putK kd (Sum.inr nm : Key) v) (putI its (.den nm bd)) (N + 1) := by
  obtain ⟨f1, f2, f3, f4⟩ := h
  refine ⟨nd_put f1 _ _, Nat.le_trans (length_putK _ _ _) (Nat.succ_le_succ f2), fun k v' m => ?_, fun a b m => ?_⟩
  · rcases (mem_put f1).mp m with ⟨rfl, rfl⟩ | ⟨c, m⟩
    · exact ⟨nm, bd, rfl, tv, (put_den o oi _ _).mpr (.inl ⟨rfl, rfl⟩)⟩
    · obtain ⟨x, a, rfl, t, z⟩ := f3 k v' m
      exact ⟨x, a, rfl, t, (put_den o oi _ _).mpr (.inr ⟨fun z => c (by rw [z]), z⟩)⟩
  · rcases (put_den o oi _ _).mp m with ⟨rfl, _⟩ | ⟨n, m⟩
    · exact ⟨_, (mem_put f1).mpr (.inl ⟨rfl, rfl⟩)⟩
    · obtain ⟨x, z⟩ := f4 _ _ m
      exact ⟨x, (mem_put f1).mpr (.inr ⟨fun z => n (by injection z), z⟩)⟩
/-- which items are there behind a take -/
theorem take_mem {l : List It1} {i : It1} (o : OkL l) (oi : okI i) (x : It1) : x ∈ takeI l (keyI i) ↔ x ∈ l ∧ keyI x ≠ keyI i := mem_takeI o (okK_of oi) x
theorem take_other {l : List It1} {i j : It1} (o : OkL l) (oi : okI i) (n : (keyI j).1 ≠ (keyI i).1) : j ∈ takeI l (keyI i) ↔ j ∈ l := by
  rw [take_mem o oi]
  exact ⟨fun h => h.1, fun h => ⟨h, fun z => n (by rw [z])⟩⟩
theorem RelOk.take {kr : List (Key × V)} {its : List It1} {N : Nat} (h : RelOk kr its N) (o : OkL its) (nm : Str) (n0 : Int) : RelOk (dropK kr (Sum.inr nm : Key)) (takeI its (keyI (.rel nm n0))) (N + 1) := by
  obtain ⟨f1, f2, f3⟩ := h
  refine ⟨nd_dropK f1, Nat.le_succ_of_le (Nat.le_trans (List.length_filter_le _ _) f2), fun k v => ?_⟩
  rw [mem_dropK]
  constructor
  · rintro ⟨c, m⟩
    obtain ⟨x, i, rfl, rfl, e⟩ := (f3 k v).mp m
    exact ⟨x, i, rfl, rfl, (take_mem (i := .rel nm n0) o trivial _).mpr ⟨e, fun z => c (by injection z with _ z; injection z with z; rw [z])⟩⟩
  · rintro ⟨x, i, rfl, rfl, e⟩
    obtain ⟨e, z⟩ := (take_mem (i := .rel nm n0) o trivial _).mp e
    exact ⟨fun y => z (by injection y with y; rw [y]; rfl), (f3 _ _).mpr ⟨x, i, rfl, rfl, e⟩⟩
theorem RulOk.take {H : Hp} {ku : List (Key × V)} {its : List It1} {N : Nat} (h : RulOk H ku its N) (o : OkL its) {nm rl : Str} {ts bd : PyData} (oi : okI (.rule nm rl ts bd)) : RulOk H (dropK ku (Sum.inr nm : Key)) (takeI its (keyI (.rule nm rl ts bd))) (N + 1) := by
  obtain ⟨f1, f2, f3, f4⟩ := h
  refine ⟨nd_dropK f1, Nat.le_succ_of_le (Nat.le_trans (List.length_filter_le _ _) f2), fun k v m => ?_, fun a b c e m => ?_⟩
  · obtain ⟨c, m⟩ := mem_dropK.mp m
    obtain ⟨x, a, b, e, rfl, t, z⟩ := f3 k v m
    exact ⟨x, a, b, e, rfl, t, (take_mem o oi _).mpr ⟨z, fun z => c (by injection z with _ z; injection z with z; rw [z])⟩⟩
  · obtain ⟨m, z⟩ := (take_mem o oi _).mp m
    obtain ⟨x, q⟩ := f4 _ _ _ _ m
    exact ⟨x, mem_dropK.mpr ⟨fun y => z (by injection y with y; rw [y]; rfl), q⟩⟩
theorem DenOk.take {H : Hp} {kd : List (Key × V)} {its : List It1} {N : Nat} (h : DenOk H kd its N) (o : OkL its) {nm : Str} {bd : PyData} (oi : okI (.den nm bd)) : DenOk H (dropK kd (Sum.inr nm : Key)) (takeI its (keyI (.den nm bd))) (N + 1) := by
  obtain ⟨f1, f2, f3, f4⟩ := h
  refine ⟨nd_dropK f1, Nat.le_succ_of_le (Nat.le_trans (List.length_filter_le _ _) f2), fun k v m => ?_, fun a b m => ?_⟩
  · obtain ⟨c, m⟩ := mem_dropK.mp m
    obtain ⟨x, a, rfl, t, z⟩ := f3 k v m
    exact ⟨x, a, rfl, t, (take_mem o oi _).mpr ⟨z, fun z => c (by injection z with _ z; injection z with z; rw [z])⟩⟩
  · obtain ⟨m, z⟩ := (take_mem o oi _).mp m
    obtain ⟨x, q⟩ := f4 _ _ m
    exact ⟨x, mem_dropK.mpr ⟨fun y => z (by injection y with y; rw [y]; rfl), q⟩⟩

end KV

namespace KV
open PySem PySem.Spec PyProof.Rows L2 KA
theorem fl_no (r f u d : Addr) {m : Str} (h1 : ¬ m = "relations") (h2 : ¬ m = "facts") (h3 : ¬ m = "rules") (h4 : ¬ m = "denials") : (flds r f u d).lookup m = none := by
  unfold flds
  have e : ∀ (x : Str) (v : V) (l : List (Str × V)), ¬ m = x → ((x, v) :: l).lookup m = l.lookup m := fun x v l n => by
    rw [List.lookup_cons, beq_false_of_ne n]
  rw [e _ _ _ h1, e _ _ _ h2, e _ _ _ h3, e _ _ _ h4]
  rfl
theorem insert_at {α : Type} (ys : List α) (p : Nat) (y : α) : ys.take ((p : Int).toNat) ++ [y] ++ ys.drop ((p : Int).toNat) = ys.take p ++ y :: ys.drop p := by
  rw [Int.toNat_natCast, List.append_assoc]
  rfl
theorem Tps.takeN {H : Hp} : ∀ {ds : List PyData} {vs : List V} (n : Nat), Tps H vs ds → Tps H (vs.take n) (ds.take n)
  | _, _, 0, _ => .nil
  | _, _, n + 1, .nil => .nil
  | _, _, n + 1, .cons a b => .cons a (Tps.takeN n b)
theorem Tps.dropN {H : Hp} : ∀ {ds : List PyData} {vs : List V} (n : Nat), Tps H vs ds → Tps H (vs.drop n) (ds.drop n)
  | _, _, 0, h => h
  | _, _, n + 1, .nil => .nil
  | _, _, n + 1, .cons a b => Tps.dropN n b
theorem Out.put2 {F : Addr → Prop} {H H4 : Hp} {l : Addr} {o : HO} (h : Out F H H4) (c : F l ∨ H l = none) : Out F H (upd H4 l o) := fun a u n e => by
  rw [upd_ne (fun z => ?_)]
  · exact h a u n e
  · rcases c with c | c
    · exact n (by rw [z]; exact c)
    · rw [z, c] at e
      cases e
section
variable {P : Program} {w : World} {K : PySem.W.Frag} {mg : Str → Option Value} {base : Heap} {C : Addr}
abbrev dSA (P : Program) (w : World) (K : PySem.W.Frag) (mg : Str → Option Value) (base : Heap) : Prop := Def P w K mg base "stands_at" 4 ["rows", "at", "row"] spSA
/-- what a method that changes the state promises -/
def After (C : Addr) (s : Addr) (H : Hp) (its' : List It1) (F : Addr → Prop) (N : Nat) (Q : VK) : Prop := ∀ H' F', Out F H H' → (∀ a, F' a → F a ∨ H a = none) → StAt C H' s its' F' (N + 2) → Q .non H'
abbrev sPR : Stmt := inClass (topS 10) 6
theorem scPR : FnScope ["self", "name", "row", "rows", "at"] ["self", "name", "row"] (defScope sPR) := ⟨rfl, rfl, rfl, by decide +kernel, rfl, by decide +kernel, by decide +kernel⟩
def spPR (C : Addr) : Sp := fun vs H Q _ => ∃ (s : Addr) (nm : Str) (v : V) (row : List PyData) (its : List It1) (F : Addr → Prop) (N : Nat), vs = [.ref s, .str nm, v] ∧ StAt C H s its F N ∧ N + 2 ≤ 1000 ∧ Tp H v (.tuple row) ∧ Atoms row ∧ row.length ≤ 1000 ∧ After C s H (putI its (.fact nm row)) F N Q
theorem hu1 {A : Around} {k : Nat} (hr : Room (k + 1) A) : A.units + 1 < cLine := hu_of hr
theorem rows_put {its : List It1} {nm : Str} {row : List PyData} {rs : List (List PyData)} (o : OkL its) (oi : okI (.fact nm row)) (m : ∀ ds, ds ∈ rs ↔ It1.fact nm ds ∈ its) (n : row ∉ rs) (p : Nat) (ds : List PyData) : It1.fact nm ds ∈ putI its (.fact nm row) ↔ ds ∈ rs.take p ++ row :: rs.drop p := by
  rw [put_fact o oi, ← m ds]
  have e : ds ∈ rs ↔ ds ∈ rs.take p ∨ ds ∈ rs.drop p := by
    rw [← List.mem_append, List.take_append_drop]
  rw [e, List.mem_append, List.mem_cons]
  constructor
  · rintro (⟨_, h⟩ | h | h)
    · exact .inr (.inl h)
    · exact .inl h
    · exact .inr (.inr h)
  · rintro (h | h | h)
    · exact .inr (.inl h)
    · exact .inl ⟨rfl, h⟩
    · exact .inr (.inr h)
theorem putI_there {its : List It1} {i : It1} (s : SortedI its) (o : OkL its) (oi : okI i) (h : i ∈ its) : putI its i = its := by
  refine sorted_ext (sorted_putI s o oi) s (ok_putI o oi) o fun x => ?_
  rw [mem_putI o oi]
  constructor
  · rintro (rfl | h)
    · exact h
    · exact h.1
  · intro hx
    by_cases c : keyI x = keyI i
    · exact .inl (sorted_key s o hx h c)
    · exact .inr ⟨hx, c⟩
theorem ok_pr {f : Addr} {fd : FuncData} (F : Fun K "_put_row" "State._put_row" sPR f fd) (T : Cs K mg C) (DP : dPO P w K mg base) (DS : dSA P w K mg base) : FnOk P w K mg base CX0 5 f fd ["self", "name", "row"] (spPR C) := by
  refine F.ok scPR (fun vs H Q E h => ?_) (fun cdv A outer s H vs Q E hr h => ?_)
  · obtain ⟨_, _, _, _, _, _, _, rfl, _⟩ := h
    rfl
  · obtain ⟨s, nm, v, row, its, F, N, rfl, S, hN, tv, ar, lr, q⟩ := h
    have r3 : Room 3 _ := hr.mono (by decide)
    refine ⟨_, pss_cons (ps_set (i := 3) scPR.nd rfl (.inl rfl) (pe_dsetd (pe_fld (pv 0) rfl) (pv 1) (pe_lst pa_nil) ⟨rfl, rfl, rfl, rfl⟩))
      (pss_cons (ps_set (i := 4) scPR.nd rfl (.inl rfl) (pe_def DP r3 (by rfl) (pa_cons (pv 3) (pa_cons (pv 2) pa_nil))))
      (pss_one (ps_if (pt_not (pt_val (pe_def DS hr (by rfl) (pa_cons (pv 3) (pa_cons (pv 4) (pa_cons (pv 2) pa_nil))))))
        (pss_one (ps_expr (pe_bm PySem.F.plainAttrs_list PySem.F.slot_list_insert PySem.F.type_list_insert mt_insert (pv 3) (pa_cons (pv 4) (pa_cons (pv 2) pa_nil))))) pss_nil))), ?_⟩
    obtain ⟨dx, r, f, u, d, kr, kf, ku, kd, b⟩ := id S
    obtain ⟨f1, f2, f3, f4, f5⟩ := id b.fac
    have oi : okI (.fact nm row) := ⟨ar, lr⟩
    refine ⟨.ref s, rfl, s, C, dx, _, _, rfl, b.hs, T.cl, T.nF, fl_fac _ _ _ _, f, rfl, .inl ⟨kf, .of b.hf⟩, .str nm, rfl, (by show 0 ≤ sizeLine; decide), fun p np => ?_⟩
    have nf : f ≠ p := fun z => by
      have e := b.hf
      rw [z, np] at e
      cases e
    have s1 : Same H (upd H p (.lst [])) := same_new np
    refine ⟨kf, Sum.inr nm, (by rw [upd_ne nf]; exact b.hf), rfl, small1000 (by omega), fun v0 hv0 => ?_, fun hn => ?_⟩
    · have m0 := (mem_val f1).mp hv0
      obtain ⟨x, l, rs0, e1, rfl, _, _, _⟩ := f3 _ _ m0
      injection e1 with e1
      subst e1
      have b2 : StB C (upd H p (.lst [])) s dx r f u d kr kf ku kd its F (N + 1) (hasNm its) := ⟨s1 _ _ b.hs, s1 _ _ b.hr, s1 _ _ b.hf, s1 _ _ b.hu, s1 _ _ b.hd, b.fr, b.ff, b.fu, b.fd, b.rf, b.ru, b.rd, b.fu', b.fd', b.ud, b.rel.to (Nat.le_succ _) (fun _ _ => Iff.rfl), b.fac.to (Tk.of s1) (fun _ _ _ e => s1 _ _ e) (fun _ h => h) (Nat.le_succ _) (fun _ _ => Iff.rfl) (fun _ => Iff.rfl), b.rul.to (Tk.of s1) (Nat.le_succ _) (fun _ _ _ _ => Iff.rfl), b.den.to (Tk.of s1) (Nat.le_succ _) (fun _ _ => Iff.rfl), b.srt, b.ok, b.fs, fun a ha => by
        rcases b.fp a ha with ⟨x, e⟩ | ⟨x, e⟩
        · exact .inl ⟨x, s1 _ _ e⟩
        · exact .inr ⟨x, s1 _ _ e⟩⟩
      have m2 := m0
      have hB2 : ∀ y, hasNm its y ↔ y = nm ∨ hasNm its y := fun y => ⟨.inr, fun h => h.elim (fun z => by rw [z]; exact (f4 nm).mp ⟨_, m0⟩) id⟩
      have o2 : Out F H (upd H p (.lst [])) := Out.of s1
      have c2 : ∀ a, F a → F a ∨ H a = none := fun a h => .inl h
      have tk2 : Tk H (upd H p (.lst [])) := Tk.of s1
      revert b2 m2 hB2 o2 c2 tk2
      generalize upd H p (.lst []) = H2
      intro b2 m2 hB2 o2 c2 tk2
      obtain ⟨g1, g2, g3, g4, g5⟩ := id b2.fac
      obtain ⟨x, l, rs, e1, e2, e3, e4, e5⟩ := g3 _ _ m2
      injection e1 with e1
      subst e1
      injection e2 with e2
      subst e2
      refine ⟨.ref _, rfl, v, rfl, _, v, rs, row, N + 1, rfl, e4, by omega, tv.mono tk2, ar, lr, fun at_ H3 s3 h1 h2 h3 => ?_⟩
      obtain ⟨sp1, sp2⟩ := rows_split e4.srt (fun r hr => (e4.ok r hr).1) ar h1 h2 h3
      obtain ⟨⟨ys, el, tr⟩, srt, okr, hN2⟩ := id e4
      refine ⟨.ref _, rfl, .int (at_ : Nat), rfl, v, rfl, _, v, rs, row, N + 1, at_, rfl, ⟨⟨ys, s3 _ _ el, tr.mono (Tk.of s3)⟩, srt, okr, hN2⟩, by omega, (tv.mono tk2).mono (Tk.of s3), ar, lr, fun t H4 s4 ht => ?_⟩
      have s34 : Same _ H4 := s3.trans s4
      have bS : ∀ N3, N + 1 ≤ N3 → _ := fun N3 hN3 => StX.mono ⟨dx, r, f, u, d, kr, _, ku, kd, b2⟩ (Tk.of s34) (fun o e => s34 _ _ e) (fun a o _ e => s34 a o e) hN3
      have hput : ∀ y, hasNm (putI its (.fact nm row)) y ↔ y = nm ∨ hasNm its y := fun y => by
        unfold hasNm
        constructor
        · rintro (⟨n, h⟩ | ⟨ds, h⟩)
          · exact .inr (.inl ⟨n, (put_other b.ok oi (by show (0 : Int) ≠ 1; decide)).mp h⟩)
          · rcases (put_fact b.ok oi _ _).mp h with ⟨z, _⟩ | h
            · exact .inl z
            · exact .inr (.inr ⟨ds, h⟩)
        · rintro (rfl | ⟨n, h⟩ | ⟨ds, h⟩)
          · exact .inr ⟨row, (put_fact b.ok oi _ _).mpr (.inl ⟨rfl, rfl⟩)⟩
          · exact .inl ⟨n, (put_other b.ok oi (by show (0 : Int) ≠ 1; decide)).mpr h⟩
          · exact .inr ⟨ds, (put_fact b.ok oi _ _).mpr (.inr h)⟩
      cases t with
      | true =>
        have hm : row ∈ rs := sp1.mpr (ht.mp rfl)
        refine ⟨_, rfl, iteF ?_⟩
        obtain ⟨dx', r', f', u', d', kr', kf', ku', kd', b4⟩ := bS (N + 2) (Nat.le_succ _)
        have ei : putI its (.fact nm row) = its := putI_there b.srt b.ok oi ((e5 row).mp hm)
        refine q _ _ (o2.trans (Out.of s34)) c2 ?_
        rw [ei] at hput ⊢
        exact ⟨dx', r', f', u', d', kr', kf', ku', kd', b4.nameB (fun y => (hput y).trans (hB2 y).symm)⟩
      | false =>
        have hm : row ∉ rs := fun z => by
          have y := ht.mpr (sp1.mp z)
          cases y
        refine ⟨_, rfl, iteT ?_⟩
        have b4 : StB C H4 s dx r f u d kr _ ku kd its _ (N + 1) _ := ⟨s34 _ _ b2.hs, s34 _ _ b2.hr, s34 _ _ b2.hf, s34 _ _ b2.hu, s34 _ _ b2.hd, b2.fr, b2.ff, b2.fu, b2.fd, b2.rf, b2.ru, b2.rd, b2.fu', b2.fd', b2.ud, b2.rel, b2.fac.to (Tk.of s34) (fun _ _ _ e => s34 _ _ e) (fun _ h => h) (Nat.le_refl _) (fun _ _ => Iff.rfl) (fun _ => Iff.rfl), b2.rul.to (Tk.of s34) (Nat.le_refl _) (fun _ _ _ _ => Iff.rfl), b2.den.to (Tk.of s34) (Nat.le_refl _) (fun _ _ => Iff.rfl), b2.srt, b2.ok, b2.fs, fun a ha => by
          rcases b2.fp a ha with ⟨x, e⟩ | ⟨x, e⟩
          · exact .inl ⟨x, s34 _ _ e⟩
          · exact .inr ⟨x, s34 _ _ e⟩⟩
        refine ⟨.ref _, rfl, .inl ⟨rfl, _, SqL.of (s34 _ _ el)⟩, .int (at_ : Nat), rfl, v, rfl, _, ys, at_, v, rfl, rfl, s34 _ _ el, ?_, Int.natCast_nonneg _, ?_, ?_⟩
        · have := tr.length
          rw [List.length_map] at this
          exact small1000 (by omega)
        · omega
        · have b5 := set_rows (its' := putI its (.fact nm row)) (rs := rs.take at_ ++ row :: rs.drop at_) (ys := ys.take at_ ++ v :: ys.drop at_) b4 m2 e3 ⟨ys, s34 _ _ el⟩ ?_ (sp2 hm) ?_ ?_ (fun ds => rows_put b.ok oi e5 hm at_ ds) ?_ (fun x n => put_other b.ok oi (by show (0 : Int) ≠ 1; decide)) (fun x a c e => put_other b.ok oi (by show (2 : Int) ≠ 1; decide)) (fun x e => put_other b.ok oi (by show (3 : Int) ≠ 1; decide)) (sorted_putI b.srt b.ok oi) (ok_putI b.ok oi)
          · refine q _ _ ((o2.trans (Out.of s34)).put2 (c2 _ e3)) c2 ?_
            · rw [insert_at]
              exact ⟨dx, r, f, u, d, kr, _, ku, kd, b5.nameB (fun y => (hput y).trans (hB2 y).symm)⟩
          · have t4 := tr.mono (Tk.of s34)
            rw [List.map_append, List.map_cons, List.map_take, List.map_drop]
            exact (Tps.takeN at_ t4).append (.cons ((tv.mono tk2).mono (Tk.of s34)) (Tps.dropN at_ t4))
          · intro r0 h0
            rcases List.mem_append.mp h0 with h0 | h0
            · exact okr _ (List.mem_of_mem_take h0)
            · rcases List.mem_cons.mp h0 with h0 | h0
              · rw [h0]
                exact ⟨ar, lr⟩
              · exact okr _ (List.mem_of_mem_drop h0)
          · rw [List.length_append, List.length_cons, List.length_take, List.length_drop]
            omega
          · intro x ds n
            rw [put_fact b.ok oi]
            exact ⟨fun h => h.elim (fun z => absurd z.1 n) id, .inr⟩
    · have b2 := setd_none b np hn (fun ds h => .inr ⟨ds, h⟩)
      have m2 := (mem_put f1 (k := (Sum.inr nm : Key)) (v := V.ref p)).mpr (.inl ⟨rfl, rfl⟩)
      have hB2 : ∀ y, (y = nm ∨ hasNm its y) ↔ y = nm ∨ hasNm its y := fun y => Iff.rfl
      have o2 : Out F H (upd (upd H p (.lst [])) f (.dK (putK kf (Sum.inr nm : Key) (.ref p)))) := (Out.of s1).trans (Out.put b.ff)
      have c2 : ∀ a, (F a ∨ a = p) → F a ∨ H a = none := fun a h => h.elim .inl (fun z => .inr (by rw [z]; exact np))
      have tk2 := o2.tk b.fp
      revert b2 m2 hB2 o2 c2 tk2
      generalize upd (upd H p (.lst [])) f (.dK (putK kf (Sum.inr nm : Key) (.ref p))) = H2
      generalize putK kf (Sum.inr nm : Key) (.ref p) = kf2
      intro b2 m2 hB2 o2 c2 tk2
      obtain ⟨g1, g2, g3, g4, g5⟩ := id b2.fac
      obtain ⟨x, l, rs, e1, e2, e3, e4, e5⟩ := g3 _ _ m2
      injection e1 with e1
      subst e1
      injection e2 with e2
      subst e2
      refine ⟨.ref _, rfl, v, rfl, _, v, rs, row, N + 1, rfl, e4, by omega, tv.mono tk2, ar, lr, fun at_ H3 s3 h1 h2 h3 => ?_⟩
      obtain ⟨sp1, sp2⟩ := rows_split e4.srt (fun r hr => (e4.ok r hr).1) ar h1 h2 h3
      obtain ⟨⟨ys, el, tr⟩, srt, okr, hN2⟩ := id e4
      refine ⟨.ref _, rfl, .int (at_ : Nat), rfl, v, rfl, _, v, rs, row, N + 1, at_, rfl, ⟨⟨ys, s3 _ _ el, tr.mono (Tk.of s3)⟩, srt, okr, hN2⟩, by omega, (tv.mono tk2).mono (Tk.of s3), ar, lr, fun t H4 s4 ht => ?_⟩
      have s34 : Same _ H4 := s3.trans s4
      have bS : ∀ N3, N + 1 ≤ N3 → _ := fun N3 hN3 => StX.mono ⟨dx, r, f, u, d, kr, _, ku, kd, b2⟩ (Tk.of s34) (fun o e => s34 _ _ e) (fun a o _ e => s34 a o e) hN3
      have hput : ∀ y, hasNm (putI its (.fact nm row)) y ↔ y = nm ∨ hasNm its y := fun y => by
        unfold hasNm
        constructor
        · rintro (⟨n, h⟩ | ⟨ds, h⟩)
          · exact .inr (.inl ⟨n, (put_other b.ok oi (by show (0 : Int) ≠ 1; decide)).mp h⟩)
          · rcases (put_fact b.ok oi _ _).mp h with ⟨z, _⟩ | h
            · exact .inl z
            · exact .inr (.inr ⟨ds, h⟩)
        · rintro (rfl | ⟨n, h⟩ | ⟨ds, h⟩)
          · exact .inr ⟨row, (put_fact b.ok oi _ _).mpr (.inl ⟨rfl, rfl⟩)⟩
          · exact .inl ⟨n, (put_other b.ok oi (by show (0 : Int) ≠ 1; decide)).mpr h⟩
          · exact .inr ⟨ds, (put_fact b.ok oi _ _).mpr (.inr h)⟩
      cases t with
      | true =>
        have hm : row ∈ rs := sp1.mpr (ht.mp rfl)
        refine ⟨_, rfl, iteF ?_⟩
        obtain ⟨dx', r', f', u', d', kr', kf', ku', kd', b4⟩ := bS (N + 2) (Nat.le_succ _)
        have ei : putI its (.fact nm row) = its := putI_there b.srt b.ok oi ((e5 row).mp hm)
        refine q _ _ (o2.trans (Out.of s34)) c2 ?_
        rw [ei] at hput ⊢
        exact ⟨dx', r', f', u', d', kr', kf', ku', kd', b4.nameB (fun y => (hput y).trans (hB2 y).symm)⟩
      | false =>
        have hm : row ∉ rs := fun z => by
          have y := ht.mpr (sp1.mp z)
          cases y
        refine ⟨_, rfl, iteT ?_⟩
        have b4 : StB C H4 s dx r f u d kr _ ku kd its _ (N + 1) _ := ⟨s34 _ _ b2.hs, s34 _ _ b2.hr, s34 _ _ b2.hf, s34 _ _ b2.hu, s34 _ _ b2.hd, b2.fr, b2.ff, b2.fu, b2.fd, b2.rf, b2.ru, b2.rd, b2.fu', b2.fd', b2.ud, b2.rel, b2.fac.to (Tk.of s34) (fun _ _ _ e => s34 _ _ e) (fun _ h => h) (Nat.le_refl _) (fun _ _ => Iff.rfl) (fun _ => Iff.rfl), b2.rul.to (Tk.of s34) (Nat.le_refl _) (fun _ _ _ _ => Iff.rfl), b2.den.to (Tk.of s34) (Nat.le_refl _) (fun _ _ => Iff.rfl), b2.srt, b2.ok, b2.fs, fun a ha => by
          rcases b2.fp a ha with ⟨x, e⟩ | ⟨x, e⟩
          · exact .inl ⟨x, s34 _ _ e⟩
          · exact .inr ⟨x, s34 _ _ e⟩⟩
        refine ⟨.ref _, rfl, .inl ⟨rfl, _, SqL.of (s34 _ _ el)⟩, .int (at_ : Nat), rfl, v, rfl, _, ys, at_, v, rfl, rfl, s34 _ _ el, ?_, Int.natCast_nonneg _, ?_, ?_⟩
        · have := tr.length
          rw [List.length_map] at this
          exact small1000 (by omega)
        · omega
        · have b5 := set_rows (its' := putI its (.fact nm row)) (rs := rs.take at_ ++ row :: rs.drop at_) (ys := ys.take at_ ++ v :: ys.drop at_) b4 m2 e3 ⟨ys, s34 _ _ el⟩ ?_ (sp2 hm) ?_ ?_ (fun ds => rows_put b.ok oi e5 hm at_ ds) ?_ (fun x n => put_other b.ok oi (by show (0 : Int) ≠ 1; decide)) (fun x a c e => put_other b.ok oi (by show (2 : Int) ≠ 1; decide)) (fun x e => put_other b.ok oi (by show (3 : Int) ≠ 1; decide)) (sorted_putI b.srt b.ok oi) (ok_putI b.ok oi)
          · refine q _ _ ((o2.trans (Out.of s34)).put2 (c2 _ e3)) c2 ?_
            · rw [insert_at]
              exact ⟨dx, r, f, u, d, kr, _, ku, kd, b5.nameB (fun y => (hput y).trans (hB2 y).symm)⟩
          · have t4 := tr.mono (Tk.of s34)
            rw [List.map_append, List.map_cons, List.map_take, List.map_drop]
            exact (Tps.takeN at_ t4).append (.cons ((tv.mono tk2).mono (Tk.of s34)) (Tps.dropN at_ t4))
          · intro r0 h0
            rcases List.mem_append.mp h0 with h0 | h0
            · exact okr _ (List.mem_of_mem_take h0)
            · rcases List.mem_cons.mp h0 with h0 | h0
              · rw [h0]
                exact ⟨ar, lr⟩
              · exact okr _ (List.mem_of_mem_drop h0)
          · rw [List.length_append, List.length_cons, List.length_take, List.length_drop]
            omega
          · intro x ds n
            rw [put_fact b.ok oi]
            exact ⟨fun h => h.elim (fun z => absurd z.1 n) id, .inr⟩
end

end KV

namespace KV
open PySem PySem.Spec PyProof.Rows L2 KA
theorem inv5t {H : Hp} {v : V} {a b c : Str} {d f : PyData} (t : Tp H v (.tuple [.str a, .str b, .str c, d, f])) : ∃ p, v = .ref p ∧ ∃ y z, H p = some (.tup [.str a, .str b, .str c, y, z]) ∧ Tp H y d ∧ Tp H z f := by
  cases t with
  | tup e r =>
    cases r with
    | cons h1 r => cases r with
      | cons h2 r => cases r with
        | cons h3 r => cases r with
          | cons h4 r => cases r with
            | cons h5 r =>
              cases r
              cases h1
              cases h2
              cases h3
              exact ⟨_, rfl, _, _, e, h4, h5⟩
theorem inv3i {H : Hp} {v : V} {a b : Str} {n : Int} (t : Tp H v (.tuple [.str a, .str b, .int n])) : ∃ p, v = .ref p ∧ H p = some (.tup [.str a, .str b, .int n]) := by
  obtain ⟨p, rfl, x, e, t⟩ := inv3 t
  cases t
  exact ⟨p, rfl, e⟩
section
variable {P : Program} {w : World} {K : PySem.W.Frag} {mg : Str → Option Value} {base : Heap} {C : Addr}
abbrev mPR (P : Program) (w : World) (K : PySem.W.Frag) (mg : Str → Option Value) (base : Heap) (C : Addr) : Prop := MDef P w K mg base C "_put_row" 5 ["self", "name", "row"] (spPR C)
abbrev sPut : Stmt := inClass (topS 10) 5
theorem scPut : FnScope ["self", "item", "name"] ["self", "item"] (defScope sPut) := ⟨rfl, rfl, rfl, by decide +kernel, rfl, by decide +kernel, by decide +kernel⟩
def spPut (C : Addr) : Sp := fun vs H Q _ => ∃ (s : Addr) (v : V) (i : It1) (its : List It1) (F : Addr → Prop) (N : Nat), vs = [.ref s, v] ∧ StAt C H s its F N ∧ N + 2 ≤ 1000 ∧ Tp H v (itD i) ∧ okI i ∧ After C s H (putI its i) F N Q
theorem nm_same {its its' : List It1} (m3 : ∀ x n, It1.rel x n ∈ its' ↔ It1.rel x n ∈ its) (m1 : ∀ x ds, It1.fact x ds ∈ its' ↔ It1.fact x ds ∈ its) (y : Str) : hasNm its' y ↔ hasNm its y := by
  unfold hasNm
  constructor
  · rintro (⟨n, h⟩ | ⟨ds, h⟩)
    · exact .inl ⟨n, (m3 _ _).mp h⟩
    · exact .inr ⟨ds, (m1 _ _).mp h⟩
  · rintro (⟨n, h⟩ | ⟨ds, h⟩)
    · exact .inl ⟨n, (m3 _ _).mpr h⟩
    · exact .inr ⟨ds, (m1 _ _).mpr h⟩
theorem StB.up {H : Hp} {s dx r f u d : Addr} {kr kf ku kd : List (Key × V)} {its : List It1} {F : Addr → Prop} {N N' : Nat} {B : Str → Prop} {H' : Hp} (b : StB C H s dx r f u d kr kf ku kd its F N B) (k : Same H H') (hN : N ≤ N') : StB C H' s dx r f u d kr kf ku kd its F N' B :=
  ⟨k _ _ b.hs, k _ _ b.hr, k _ _ b.hf, k _ _ b.hu, k _ _ b.hd, b.fr, b.ff, b.fu, b.fd, b.rf, b.ru, b.rd, b.fu', b.fd', b.ud, b.rel.to hN (fun _ _ => Iff.rfl), b.fac.to (Tk.of k) (fun _ _ _ e => k _ _ e) (fun _ h => h) hN (fun _ _ => Iff.rfl) (fun _ => Iff.rfl), b.rul.to (Tk.of k) hN (fun _ _ _ _ => Iff.rfl), b.den.to (Tk.of k) hN (fun _ _ => Iff.rfl), b.srt, b.ok, b.fs, fun a ha => by
    rcases b.fp a ha with ⟨x, e⟩ | ⟨x, e⟩
    · exact .inl ⟨x, k _ _ e⟩
    · exact .inr ⟨x, k _ _ e⟩⟩
theorem ok_put {f0 : Addr} {fd : FuncData} (F0 : Fun K "_put" "State._put" sPut f0 fd) (T : Cs K mg C) (MP : mPR P w K mg base C) : FnOk P w K mg base CX0 6 f0 fd ["self", "item"] (spPut C) := by
  refine F0.ok scPut (fun vs H Q E h => ?_) (fun cdv A outer s H vs Q E hr h => ?_)
  · obtain ⟨_, _, _, _, _, _, rfl, _⟩ := h
    rfl
  · obtain ⟨s, v, i, its, F, N, rfl, S, hN, tv, oi, q⟩ := h
    have hu := hu1 hr
    refine ⟨_, pss_cons (ps_set (i := 2) scPut.nd rfl (.inl rfl) (pe_ix ix_tup (pv 1) pe_int (fun _ _ => rfl)))
      (pss_one (ps_if (pt_cmpR op_eq (pe_ix ix_tup (pv 1) pe_int (fun _ _ => rfl)) pe_str (nomark _))
        (pss_cons (ps_dput hu (pe_fld (pv 0) rfl) (pv 2) (pe_ix ix_tup (pv 1) pe_int (fun _ _ => rfl)) rfl)
          (pss_one (ps_expr (pe_dsetd (pe_fld (pv 0) rfl) (pv 2) (pe_lst pa_nil) ⟨rfl, rfl, rfl, rfl⟩))))
        (pss_one (ps_if (pt_cmpR op_eq (pe_ix ix_tup (pv 1) pe_int (fun _ _ => rfl)) pe_str (nomark _))
          (pss_one (ps_expr (pe_mdef MP (pv 0) T.cl hr (pa_cons (pv 2) (pa_cons (pe_ix ix_tup (pv 1) pe_int (fun _ _ => rfl)) pa_nil)))))
          (pss_one (ps_if (pt_cmpR op_eq (pe_ix ix_tup (pv 1) pe_int (fun _ _ => rfl)) pe_str (nomark _))
            (pss_one (ps_dput hu (pe_fld (pv 0) rfl) (pv 2) (pe_tup (pa_cons (pe_ix ix_tup (pv 1) pe_int (fun _ _ => rfl)) (pa_cons (pe_ix ix_tup (pv 1) pe_int (fun _ _ => rfl)) (pa_cons (pe_ix ix_tup (pv 1) pe_int (fun _ _ => rfl)) pa_nil)))) rfl))
            (pss_one (ps_dput hu (pe_fld (pv 0) rfl) (pv 2) (pe_ix ix_tup (pv 1) pe_int (fun _ _ => rfl)) rfl)))))))), ?_⟩
    obtain ⟨dx, r, f, u, d, kr, kf, ku, kd, b⟩ := id S
    have s3 : 3 ≤ sizeLine := by decide
    cases i with
    | rel nm n =>
      obtain ⟨p, rfl, e⟩ := inv3i tv
      refine ⟨.ref p, rfl, p, _, 1, .str nm, rfl, rfl, SqT.of e, rfl, ?_⟩
      refine ⟨.ref p, rfl, p, _, 0, .str "relation", rfl, rfl, SqT.of e, rfl, rfl, _, rfl, yes_if ?_⟩
      refine ⟨.ref p, rfl, p, _, 2, .int n, rfl, rfl, SqT.of e, rfl, .ref s, rfl, s, C, dx, _, _, rfl, b.hs, T.cl, T.nR, fl_rel _ _ _ _, .str nm, rfl, r, _, rfl, DPut.k (k := Sum.inr nm) b.hr (small1000 (by have := b.rel.2.1; omega)), ?_⟩
      have b1 := set_rel (its' := putI its (.rel nm n)) b (b.rel.put b.ok nm n) (fun x ds => put_other b.ok oi (by show (1 : Int) ≠ 0; decide)) (fun x a c e => put_other b.ok oi (by show (2 : Int) ≠ 0; decide)) (fun x e => put_other b.ok oi (by show (3 : Int) ≠ 0; decide)) (sorted_putI b.srt b.ok oi) (ok_putI b.ok oi)
      have o1 : Out F H (upd H r (.dK (putK kr (Sum.inr nm : Key) (.int n)))) := Out.put b.fr
      have n1 : ∀ a, (upd H r (.dK (putK kr (Sum.inr nm : Key) (.int n)))) a = none → H a = none := fun a h => by
        by_cases c : a = r
        · rw [c, upd_same] at h
          cases h
        · rw [upd_ne c] at h
          exact h
      revert b1 o1 n1
      generalize upd H r (.dK (putK kr (Sum.inr nm : Key) (.int n))) = H1
      intro b1 o1 n1
      obtain ⟨f1, f2, f3, f4, f5⟩ := id b1.fac
      refine ⟨.ref s, rfl, s, C, dx, _, _, rfl, b1.hs, T.cl, T.nF, fl_fac _ _ _ _, f, rfl, .inl ⟨kf, .of b1.hf⟩, .str nm, rfl, Nat.zero_le _, fun t nt => ?_⟩
      have nf : f ≠ t := fun z => by
        have e := b1.hf
        rw [z, nt] at e
        cases e
      have st1 : Same H1 (upd H1 t (.lst [])) := same_new nt
      have hput : ∀ y, hasNm (putI its (.rel nm n)) y ↔ y = nm ∨ hasNm its y := fun y => by
        unfold hasNm
        constructor
        · rintro (⟨m, h⟩ | ⟨ds, h⟩)
          · rcases (put_rel b.ok _ _).mp h with ⟨z, _⟩ | ⟨_, h⟩
            · exact .inl z
            · exact .inr (.inl ⟨m, h⟩)
          · exact .inr (.inr ⟨ds, (put_other b.ok oi (by show (1 : Int) ≠ 0; decide)).mp h⟩)
        · rintro (rfl | ⟨m, h⟩ | ⟨ds, h⟩)
          · exact .inl ⟨n, (put_rel b.ok _ _).mpr (.inl ⟨rfl, rfl⟩)⟩
          · by_cases c : y = nm
            · rw [c]
              exact .inl ⟨n, (put_rel b.ok _ _).mpr (.inl ⟨rfl, rfl⟩)⟩
            · exact .inl ⟨m, (put_rel b.ok _ _).mpr (.inr ⟨c, h⟩)⟩
          · exact .inr ⟨ds, (put_other b.ok oi (by show (1 : Int) ≠ 0; decide)).mpr h⟩
      refine ⟨kf, Sum.inr nm, (by rw [upd_ne nf]; exact b1.hf), rfl, small1000 (by omega), fun v0 hv0 => ?_, fun hn => ?_⟩
      · have hm : hasNm its nm := (f4 nm).mp ⟨_, (mem_val f1).mp hv0⟩
        refine q _ F (o1.trans (Out.of st1)) (fun a h => .inl h) ⟨dx, r, f, u, d, _, kf, ku, kd, (b1.up st1 (Nat.le_succ _)).nameB (fun y => (hput y).trans ⟨fun h => h.elim (fun z => by rw [z]; exact hm) id, .inr⟩)⟩
      · have b2 := setd_none b1 nt hn (fun ds h => .inr ⟨ds, (put_other b.ok oi (by show (1 : Int) ≠ 0; decide)).mp h⟩)
        exact q _ _ ((o1.trans (Out.of st1)).put2 (.inl b.ff)) (fun a h => h.elim .inl (fun z => .inr (n1 a (by rw [z]; exact nt)))) ⟨dx, r, f, u, d, _, _, ku, kd, b2.nameB hput⟩
    | fact nm ds =>
      obtain ⟨p, rfl, x3, e, tq⟩ := inv3 tv
      refine ⟨.ref p, rfl, p, _, 1, .str nm, rfl, rfl, SqT.of e, rfl, ?_⟩
      refine ⟨.ref p, rfl, p, _, 0, .str "fact", rfl, rfl, SqT.of e, rfl, rfl, _, rfl, no_if (by decide +kernel) ?_⟩
      refine ⟨.ref p, rfl, p, _, 0, .str "fact", rfl, rfl, SqT.of e, rfl, rfl, _, rfl, yes_if ?_⟩
      refine ⟨.ref s, rfl, s, dx, _, rfl, b.hs, fl_no _ _ _ _ (by decide +kernel) (by decide +kernel) (by decide +kernel) (by decide +kernel), .str nm, rfl, .ref p, rfl, p, _, 2, x3, rfl, rfl, SqT.of e, rfl, ?_⟩
      exact ⟨s, nm, x3, ds, its, F, N, rfl, S, hN, tq, oi.1, oi.2, q⟩
    | rule nm rl ts bd =>
      obtain ⟨p, rfl, y, z, e, ty, tz⟩ := inv5t tv
      refine ⟨.ref p, rfl, p, _, 1, .str nm, rfl, rfl, SqT.of e, rfl, ?_⟩
      refine ⟨.ref p, rfl, p, _, 0, .str "rule", rfl, rfl, SqT.of e, rfl, rfl, _, rfl, no_if (by decide +kernel) ?_⟩
      refine ⟨.ref p, rfl, p, _, 0, .str "rule", rfl, rfl, SqT.of e, rfl, rfl, _, rfl, no_if (by decide +kernel) ?_⟩
      refine ⟨.ref p, rfl, p, _, 0, .str "rule", rfl, rfl, SqT.of e, rfl, rfl, _, rfl, yes_if ?_⟩
      refine ⟨.ref p, rfl, p, _, 2, .str rl, rfl, rfl, SqT.of e, rfl, .ref p, rfl, p, _, 3, y, rfl, rfl, SqT.of e, rfl, .ref p, rfl, p, _, 4, z, rfl, rfl, SqT.of e, rfl, s3, fun t nt => ?_⟩
      have st1 : Same H (upd H t (.tup [.str rl, y, z])) := same_new nt
      have b1 := b.up st1 (Nat.le_refl _)
      have tt : Tp (upd H t (.tup [.str rl, y, z])) (.ref t) (.tuple [.str rl, ts, bd]) := .tup upd_same (.cons (.str rl) (.cons (ty.mono (Tk.of st1)) (.cons (tz.mono (Tk.of st1)) .nil)))
      refine ⟨.ref s, rfl, s, C, dx, _, _, rfl, b1.hs, T.cl, T.nU, fl_rul _ _ _ _, .str nm, rfl, u, _, rfl, DPut.k (k := Sum.inr nm) b1.hu (small1000 (by have := b.rul.2.1; omega)), ?_⟩
      have m1 : ∀ x ds, It1.fact x ds ∈ putI its (.rule nm rl ts bd) ↔ It1.fact x ds ∈ its := fun x ds => put_other b.ok oi (by show (1 : Int) ≠ 2; decide)
      have m3 : ∀ x n, It1.rel x n ∈ putI its (.rule nm rl ts bd) ↔ It1.rel x n ∈ its := fun x n => put_other b.ok oi (by show (0 : Int) ≠ 2; decide)
      have b2 := set_rul (its' := putI its (.rule nm rl ts bd)) b1 (b1.rul.put b.ok oi tt) m1 m3 (fun x e => put_other b.ok oi (by show (3 : Int) ≠ 2; decide)) (sorted_putI b.srt b.ok oi) (ok_putI b.ok oi)
      exact q _ F ((Out.of st1).trans (Out.put b.fu)) (fun a h => .inl h) ⟨dx, r, f, u, d, _, _, _, _, (b2.up (Same.refl _) (Nat.le_succ _)).nameB (nm_same m3 m1)⟩
    | den nm bd =>
      obtain ⟨p, rfl, y, e, ty⟩ := inv3 tv
      refine ⟨.ref p, rfl, p, _, 1, .str nm, rfl, rfl, SqT.of e, rfl, ?_⟩
      refine ⟨.ref p, rfl, p, _, 0, .str "denial", rfl, rfl, SqT.of e, rfl, rfl, _, rfl, no_if (by decide +kernel) ?_⟩
      refine ⟨.ref p, rfl, p, _, 0, .str "denial", rfl, rfl, SqT.of e, rfl, rfl, _, rfl, no_if (by decide +kernel) ?_⟩
      refine ⟨.ref p, rfl, p, _, 0, .str "denial", rfl, rfl, SqT.of e, rfl, rfl, _, rfl, no_if (by decide +kernel) ?_⟩
      refine ⟨.ref p, rfl, p, _, 2, y, rfl, rfl, SqT.of e, rfl, .ref s, rfl, s, C, dx, _, _, rfl, b.hs, T.cl, T.nD, fl_den _ _ _ _, .str nm, rfl, d, _, rfl, DPut.k (k := Sum.inr nm) b.hd (small1000 (by have := b.den.2.1; omega)), ?_⟩
      have m1 : ∀ x ds, It1.fact x ds ∈ putI its (.den nm bd) ↔ It1.fact x ds ∈ its := fun x ds => put_other b.ok oi (by show (1 : Int) ≠ 3; decide)
      have m3 : ∀ x n, It1.rel x n ∈ putI its (.den nm bd) ↔ It1.rel x n ∈ its := fun x n => put_other b.ok oi (by show (0 : Int) ≠ 3; decide)
      have b2 := set_den (its' := putI its (.den nm bd)) b (b.den.put b.ok oi ty) m1 m3 (fun x a c e => put_other b.ok oi (by show (2 : Int) ≠ 3; decide)) (sorted_putI b.srt b.ok oi) (ok_putI b.ok oi)
      exact q _ F (Out.put b.fd) (fun a h => .inl h) ⟨dx, r, f, u, d, _, _, _, _, (b2.up (Same.refl _) (Nat.le_succ _)).nameB (nm_same m3 m1)⟩
end

end KV

namespace KV
open PySem PySem.Spec PyProof.Rows L2 KA
/-- == of plain data over lists and tuples, the second not deep -/
def rEqL (K : PySem.W.Frag) : R2 := fun x y H Q => ∃ d e, Dp K H x d ∧ Dp K H y e ∧ d.plain = true ∧ e.plain = true ∧ small e ∧ Q (.bl (PyData.eqv d e)) H
theorem op_eqL {X : Cx} (hu : X.A.units + 64 < cLine) : OpR X (compareOp .Eq) (rEqL X.K) := by
  intro pins s σ H x y v u Q I rx ry h
  obtain ⟨d, e, hd, he, pd, pe, se, q⟩ := h
  obtain ⟨as, r1⟩ := Dp.reads I d x v hd rx
  obtain ⟨bs, r2⟩ := Dp.reads I e y u he ry
  refine SeqAt.eq_plain r1 r2 pd pe ?_ ⟨.bl _, H, I, rfl, q⟩
  have h1 : e.depth ≤ 64 := se
  have h2 : min d.depth e.depth ≤ e.depth := Nat.min_le_right _ _
  omega
theorem eqv_nil (rs : List PyData) : PyData.eqv (.list rs) (.list []) = decide (rs = []) := by
  cases rs with
  | nil => rfl
  | cons a r => rfl
end KV

namespace KV
open PySem PySem.Spec PyProof.Rows L2 KA
theorem nox_ex {X : Cx} {body : List Stmt} {R : TS → Prop} (h : ∃ t, PSs X.nox body t ∧ R t) : ∃ t, PSs X body t ∧ R t := let ⟨t, a, b⟩ := h; ⟨t, a.nox, b⟩
theorem KT0.sq {K : PySem.W.Frag} {T : Addr} (h : ∃ (o : Obj) (its : Array Value) (n : Nat), K.lookup T = some o ∧ o.cls = .type "tuple" ∧ o.data = .seq its n ∧ its.size ≤ sizeLine ∧ Vals [] its.toList) (H : Hp) : SqT K H T [] := .inr h
/-- a thing of K alone: a tuple that the module holds -/
def KT0 (K : PySem.W.Frag) (T : Addr) : Prop := ∃ (o : Obj) (its : Array Value) (n : Nat), K.lookup T = some o ∧ o.cls = .type "tuple" ∧ o.data = .seq its n ∧ its.size ≤ sizeLine ∧ Vals [] its.toList
def puts (its : List It1) (js : List It1) : List It1 := js.foldl putI its
/-- all that was there, but the thing at s, stays; F is new -/
def Kept (s : Addr) (H H' : Hp) : Prop := ∀ a o, H a = some o → a ≠ s → H' a = some o
theorem putF4 (r f u d : Addr) : putF "denials" (.ref d) (putF "rules" (.ref u) (putF "facts" (.ref f) (putF "relations" (.ref r) []))) = flds r f u d := by
  have e1 : ¬ (("relations" : Str) = "facts") := by decide +kernel
  have e2 : ¬ (("relations" : Str) = "rules") := by decide +kernel
  have e3 : ¬ (("relations" : Str) = "denials") := by decide +kernel
  have e4 : ¬ (("facts" : Str) = "rules") := by decide +kernel
  have e5 : ¬ (("facts" : Str) = "denials") := by decide +kernel
  have e6 : ¬ (("rules" : Str) = "denials") := by decide +kernel
  have p0 : ∀ (f : Str) (v : V), putF f v [] = [(f, v)] := fun _ _ => rfl
  have p1 : ∀ (f g : Str) (v x : V) (l : List (Str × V)), ¬ g = f → putF f v ((g, x) :: l) = (g, x) :: putF f v l := fun f g v x l n => if_neg n
  rw [p0, p1 _ _ _ _ _ e1, p0, p1 _ _ _ _ _ e2, p1 _ _ _ _ _ e4, p0, p1 _ _ _ _ _ e3, p1 _ _ _ _ _ e5, p1 _ _ _ _ _ e6, p0]
  rfl
theorem st_empty {C : Addr} {H : Hp} {s dx r f u d : Addr} (hs : H s = some (.ins C dx (flds r f u d))) (hr : H r = some (.dK [])) (hf : H f = some (.dK [])) (hu : H u = some (.dK [])) (hd : H d = some (.dK [])) (rf : r ≠ f) (ru : r ≠ u) (rd : r ≠ d) (fu : f ≠ u) (fd : f ≠ d) (ud : u ≠ d) :
    StAt C H s [] (fun a => a = r ∨ a = f ∨ a = u ∨ a = d) 0 := by
  have nil0 : nd ([] : List (Key × V)) := List.nodup_nil
  refine ⟨dx, r, f, u, d, [], [], [], [], hs, hr, hf, hu, hd, .inl rfl, .inr (.inl rfl), .inr (.inr (.inl rfl)), .inr (.inr (.inr rfl)), rf, ru, rd, fu, fd, ud, ⟨nil0, Nat.le_refl _, fun k v => ⟨fun h => (by cases h), fun ⟨_, _, _, _, h⟩ => (by cases h)⟩⟩, ⟨nil0, Nat.le_refl _, fun k v h => (by cases h), fun nm => ⟨fun ⟨_, h⟩ => (by cases h), fun h => ?_⟩, fun k k' v h => (by cases h)⟩,
    ⟨nil0, Nat.le_refl _, fun k v h => (by cases h), fun _ _ _ _ h => (by cases h)⟩, ⟨nil0, Nat.le_refl _, fun k v h => (by cases h), fun _ _ h => (by cases h)⟩, List.Pairwise.nil, fun i h => (by cases h), ?_, ?_⟩
  · rcases h with ⟨_, h⟩ | ⟨_, h⟩ <;> cases h
  · rintro (z | z | z | z)
    · rw [z, hr] at hs
      cases hs
    · rw [z, hf] at hs
      cases hs
    · rw [z, hu] at hs
      cases hs
    · rw [z, hd] at hs
      cases hs
  · rintro a (rfl | rfl | rfl | rfl)
    · exact .inl ⟨_, hr⟩
    · exact .inl ⟨_, hf⟩
    · exact .inl ⟨_, hu⟩
    · exact .inl ⟨_, hd⟩
section
variable {P : Program} {w : World} {K : PySem.W.Frag} {mg : Str → Option Value} {base : Heap} {C : Addr}
abbrev mPut (P : Program) (w : World) (K : PySem.W.Frag) (mg : Str → Option Value) (base : Heap) (C : Addr) : Prop := MDef P w K mg base C "_put" 6 ["self", "item"] (spPut C)
abbrev sInit : Stmt := inClass (topS 10) 0
theorem scInit : FnScope ["self", "items", "item"] ["self", "items"] (defScope sInit) := ⟨rfl, rfl, rfl, by decide +kernel, rfl, by decide +kernel, by decide +kernel⟩
def spInit (K : PySem.W.Frag) (C : Addr) : Sp := fun vs H Q _ => ∃ (s dx a : Addr) (js : List It1), vs = [.ref s, .ref a] ∧ H s = some (.ins C dx []) ∧ ((KT0 K a ∧ js = []) ∨ ∃ xs, H a = some (.lst xs) ∧ Tps H xs (js.map itD)) ∧ OkL js ∧ js.length ≤ 400 ∧
  ∀ H' F, Kept s H H' → (∀ a, F a → H a = none) → StAt C H' s (puts [] js) F (2 * js.length) → Q .non H'
theorem ok_init {f0 : Addr} {fd : FuncData} {dvs : List V} (F0 : FunD K "__init__" "State.__init__" (defArgs sInit) (defBody sInit) (defScope sInit) dvs [] f0 fd) (T : Cs K mg C) (MP : mPut P w K mg base C) : FnOk P w K mg base CX0 7 f0 fd ["self", "items"] (spInit K C) := by
  refine F0.ok scInit (fun vs H Q E h => ?_) (fun cdv A outer s H vs Q E hr h => ?_)
  · obtain ⟨_, _, _, _, rfl, _⟩ := h
    rfl
  · obtain ⟨s, dx, a, js, rfl, hs, hv, oj, lj, q⟩ := h
    have step : ∀ {H0 H1 : Hp} {fs : List (Str × V)} {x : Str} {p : Addr}, Kept s H H0 → H0 s = some (.ins C dx fs) → H0 p = none → H1 = upd (upd H0 p (.dK [])) s (.ins C dx (putF x (.ref p) fs)) → Kept s H H1 ∧ H1 s = some (.ins C dx (putF x (.ref p) fs)) ∧ H1 p = some (.dK []) ∧ (∀ b o, H0 b = some o → b ≠ s → H1 b = some o) ∧ H p = none ∧ (upd H0 p (.dK [])) s = some (.ins C dx fs) := fun {H0 H1 fs x p} k e n z => by
      have nsp : s ≠ p := fun y => by
        rw [y, n] at e
        cases e
      have k1 : ∀ b o, H0 b = some o → b ≠ s → H1 b = some o := fun b o hb nb => by
        rw [z, upd_ne nb, upd_ne (fun y => by rw [y, n] at hb; cases hb)]
        exact hb
      refine ⟨fun b o hb nb => k1 b o (k b o hb nb) nb, by rw [z]; exact upd_same, by rw [z, upd_ne nsp.symm]; exact upd_same, k1, ?_, by rw [upd_ne nsp]; exact e⟩
      cases c : H p with
      | none => rfl
      | some o =>
        have := k p o c nsp.symm
        rw [n] at this
        cases this
    -- the end of the four, then the loop
    have fin : ∀ (H4 : Hp) (r f u d : Addr), Kept s H H4 → H4 s = some (.ins C dx (flds r f u d)) → H4 r = some (.dK []) → H4 f = some (.dK []) → H4 u = some (.dK []) → H4 d = some (.dK []) → r ≠ f → r ≠ u → r ≠ d → f ≠ u → f ≠ d → u ≠ d → H r = none → H f = none → H u = none → H d = none →
        ∃ F0 : Addr → Prop, (∀ a, F0 a → H a = none) ∧ StAt C H4 s [] F0 0 := fun H4 r f u d k h1 h2 h3 h4 h5 a1 a2 a3 a4 a5 a6 b1 b2 b3 b4 =>
      ⟨fun a => a = r ∨ a = f ∨ a = u ∨ a = d, (by rintro a (rfl | rfl | rfl | rfl) <;> assumption), st_empty h1 h2 h3 h4 h5 a1 a2 a3 a4 a5 a6⟩
    have nT : ∀ {H' : Hp}, Kept s H H' → Tk H H' := fun k a xs e => k a _ e (fun z => by rw [z, hs] at e; cases e)
    refine nox_ex ?_
    rcases hv with ⟨kt, rfl⟩ | ⟨xs, ea, tx⟩
    · refine ⟨_, pss_cons (ps_fld (pv 0) pe_dnewK rfl) (pss_cons (ps_fld (pv 0) pe_dnewK rfl) (pss_cons (ps_fld (pv 0) pe_dnewK rfl) (pss_cons (ps_fld (pv 0) pe_dnewK rfl)
        (pss_one (ps_for PassesOwn.never rfl (pi_tup (pv 1)) (pg_name (i := 2) scInit.nd rfl (.inl rfl)) (pss_one (ps_expr (pe_mdef MP (pv 0) T.cl hr (pa_cons (pv 2) pa_nil))))))))), ?_⟩
      intro r nr
      obtain ⟨k1, e1, r1, c1, n1, y1⟩ := step (x := "relations") (fun _ _ h _ => h) hs nr rfl
      refine ⟨.ref s, rfl, s, C, dx, _, rfl, y1, T.cl, T.nR, (by show 0 < 1000; decide), ?_⟩
      intro f nf
      obtain ⟨k2, e2, f2, c2, n2, y2⟩ := step (x := "facts") k1 e1 nf rfl
      refine ⟨.ref s, rfl, s, C, dx, _, rfl, y2, T.cl, T.nF, (by show 1 < 1000; decide), ?_⟩
      intro u nu
      obtain ⟨k3, e3, u3, c3, n3, y3⟩ := step (x := "rules") k2 e2 nu rfl
      refine ⟨.ref s, rfl, s, C, dx, _, rfl, y3, T.cl, T.nU, (by show 2 < 1000; decide), ?_⟩
      intro d nd'
      obtain ⟨k4, e4, d4, c4, n4, y4⟩ := step (x := "denials") k3 e3 nd' rfl
      refine ⟨.ref s, rfl, s, C, dx, _, rfl, y4, T.cl, T.nD, (by show 3 < 1000; decide), ?_⟩
      rw [putF4] at e4
      have ns : ∀ {p : Addr} {H0 : Hp} {fs : List (Str × V)}, H0 s = some (.ins C dx fs) → H0 p = none → p ≠ s := fun e n z => by
        rw [z, e] at n
        cases n
      have r2 := c2 _ _ r1 (ns hs nr)
      have r3 := c3 _ _ r2 (ns hs nr)
      have r4 := c4 _ _ r3 (ns hs nr)
      have f3 := c3 _ _ f2 (ns e1 nf)
      have f4 := c4 _ _ f3 (ns e1 nf)
      have u4 := c4 _ _ u3 (ns e2 nu)
      obtain ⟨F0, hF0, S0⟩ := fin _ r f u d k4 e4 r4 f4 u4 d4 (ne_of_none r1 nf) (ne_of_none r2 nu) (ne_of_none r3 nd') (ne_of_none f2 nu) (ne_of_none f3 nd') (ne_of_none u3 nd') n1 n2 n3 n4
      refine ⟨.ref a, rfl, a, rfl, ⟨[], KT0.sq kt _⟩, ?_⟩
      refine for_tup (K := K) (a := a) (xs := []) (fun _ σ H' => H' = _) rfl (fun i σ H' _ _ => KT0.sq kt _) (fun i x σ H' hx _ => by cases hx) (fun σ H' hP => ?_)
      rw [hP]
      exact q _ F0 k4 hF0 S0
    · refine ⟨_, pss_cons (ps_fld (pv 0) pe_dnewK rfl) (pss_cons (ps_fld (pv 0) pe_dnewK rfl) (pss_cons (ps_fld (pv 0) pe_dnewK rfl) (pss_cons (ps_fld (pv 0) pe_dnewK rfl)
        (pss_one (ps_for PassesOwn.never rfl (pi_list (pv 1)) (pg_name (i := 2) scInit.nd rfl (.inl rfl)) (pss_one (ps_expr (pe_mdef MP (pv 0) T.cl hr (pa_cons (pv 2) pa_nil))))))))), ?_⟩
      intro r nr
      obtain ⟨k1, e1, r1, c1, n1, y1⟩ := step (x := "relations") (fun _ _ h _ => h) hs nr rfl
      refine ⟨.ref s, rfl, s, C, dx, _, rfl, y1, T.cl, T.nR, (by show 0 < 1000; decide), ?_⟩
      intro f nf
      obtain ⟨k2, e2, f2, c2, n2, y2⟩ := step (x := "facts") k1 e1 nf rfl
      refine ⟨.ref s, rfl, s, C, dx, _, rfl, y2, T.cl, T.nF, (by show 1 < 1000; decide), ?_⟩
      intro u nu
      obtain ⟨k3, e3, u3, c3, n3, y3⟩ := step (x := "rules") k2 e2 nu rfl
      refine ⟨.ref s, rfl, s, C, dx, _, rfl, y3, T.cl, T.nU, (by show 2 < 1000; decide), ?_⟩
      intro d nd'
      obtain ⟨k4, e4, d4, c4, n4, y4⟩ := step (x := "denials") k3 e3 nd' rfl
      refine ⟨.ref s, rfl, s, C, dx, _, rfl, y4, T.cl, T.nD, (by show 3 < 1000; decide), ?_⟩
      rw [putF4] at e4
      have ns : ∀ {p : Addr} {H0 : Hp} {fs : List (Str × V)}, H0 s = some (.ins C dx fs) → H0 p = none → p ≠ s := fun e n z => by
        rw [z, e] at n
        cases n
      have r2 := c2 _ _ r1 (ns hs nr)
      have r3 := c3 _ _ r2 (ns hs nr)
      have r4 := c4 _ _ r3 (ns hs nr)
      have f3 := c3 _ _ f2 (ns e1 nf)
      have f4 := c4 _ _ f3 (ns e1 nf)
      have u4 := c4 _ _ u3 (ns e2 nu)
      obtain ⟨F0, hF0, S0⟩ := fin _ r f u d k4 e4 r4 f4 u4 d4 (ne_of_none r1 nf) (ne_of_none r2 nu) (ne_of_none r3 nd') (ne_of_none f2 nu) (ne_of_none f3 nd') (ne_of_none u3 nd') n1 n2 n3 n4
      have ae : a ≠ s := fun z => by
        rw [z, hs] at ea
        cases ea
      have lx : xs.length = js.length := by rw [tx.length, List.length_map]
      refine ⟨.ref a, rfl, a, rfl, ⟨xs, SqL.of (k4 _ _ ea ae)⟩, ?_⟩
      refine for_list (K := K) (a := a) (xs := xs) (fun i σ H' => (∃ x2, σ = [some (.ref s), some (.ref a), x2]) ∧ Kept s H H' ∧ ∃ F : Addr → Prop, (∀ a, F a → H a = none) ∧ StAt C H' s (puts [] (js.take i)) F (2 * i)) ⟨⟨none, rfl⟩, k4, F0, hF0, S0⟩ (fun i σ H' _ hP => SqL.of (hP.2.1 _ _ ea ae)) (fun i x σ H' hx hP => ?_) (fun σ H' hP => ?_)
      · obtain ⟨⟨x2, rfl⟩, kk, F, hF, S⟩ := hP
        obtain ⟨dd, ed, td⟩ := tx.get hx
        rw [List.getElem?_map] at ed
        cases ej : js[i]? with
        | none =>
          rw [ej] at ed
          cases ed
        | some j =>
          rw [ej] at ed
          have ed : itD j = dd := Option.some.inj ed
          subst ed
          have hi : i < js.length := (List.getElem?_eq_some_iff.mp ej).1
          have oj1 : okI j := oj j (List.mem_of_getElem? ej)
          obtain ⟨dx', r', f', u', d', kr', kf', ku', kd', bb⟩ := id S
          refine ⟨.ref s, rfl, s, dx', _, rfl, bb.hs, fl_no _ _ _ _ (by decide +kernel) (by decide +kernel) (by decide +kernel) (by decide +kernel), x, rfl, ?_⟩
          refine ⟨s, x, j, _, F, 2 * i, rfl, S, by omega, td.mono (nT kk), oj1, fun H5 F5 o5 c5 S5 => ?_⟩
          have e5 : puts [] (js.take (i + 1)) = putI (puts [] (js.take i)) j := by
            unfold puts
            rw [List.take_add_one, ej, List.foldl_append]
            rfl
          have hF' : ∀ a, F5 a → H a = none := fun b hb => by
            rcases c5 b hb with h | h
            · exact hF b h
            · cases c : H b with
              | none => rfl
              | some o =>
                by_cases z : b = s
                · rw [z, bb.hs] at h
                  cases h
                · rw [kk b o c z] at h
                  cases h
          refine ⟨⟨some x, rfl⟩, fun b o hb nb => o5 b o (fun hF2 => ?_) (kk b o hb nb), F5, hF', ?_⟩
          · rw [hF b hF2] at hb
            cases hb
          · rw [e5]
            exact S5
      · obtain ⟨_, kk, F, hF, S⟩ := hP
        refine q _ F kk hF ?_
        rw [lx] at S
        rw [List.take_length] at S
        exact S
end
end KV

namespace KV
open PySem PySem.Spec PyProof.Rows L2 KA
/-- a dict made by a comprehension over a walk -/
theorem dc_it {J : It} {n : Nat} {G : Hp → Prop} {Y : Nat → Hp → V → Hp → Prop} (w : Walk J n G Y) {g : TG} {tt : TT} {tk tv : TE} {vs : List Nat} {σ : L2.St} {H1 : Hp} {D : Addr} {Qd : Hp → Prop} (Pv : Nat → Hp → Prop) (h0 : Pv 0 (upd H1 D (.dK []))) (hG : ∀ i H, i ≤ n → Pv i H → G H)
    (hs : ∀ i x H H', i < n → Pv i H → Y i H x H' → g x (wipe σ vs) H' fun σ2 H2 => wipe σ2 vs = wipe σ vs ∧ tt σ2 H2 fun b H3 =>
      if b = true then tk σ2 H3 fun y H4 => tv σ2 H4 fun z H5 => ∃ kvs k, y = kV k ∧ H5 D = some (.dK kvs) ∧ kvs.length < sizeLine ∧ Pv (i + 1) (upd H5 D (.dK (putK kvs k z))) else Pv (i + 1) H3) (hd : ∀ H, Pv n H → Qd H) :
    ∃ W : Nat → Nat → Hp → Prop, (∃ m, W 0 m (upd H1 D (.dK []))) ∧ ∀ i m H, W i m H →
      (J.stop i H ∧ Qd H) ∨ (J.go i H ∧ ∃ Nx : Hp → Prop, (∀ H', Nx H' → ∃ m', m' < m ∧ W (i + 1) m' H') ∧ ∀ x H', J.yld i H x H' → g x (wipe σ vs) H' fun σ2 H2 => wipe σ2 vs = wipe σ vs ∧ tt σ2 H2 fun b H3 =>
        if b = true then tk σ2 H3 fun y H4 => tv σ2 H4 fun z H5 => ∃ kvs k, y = kV k ∧ H5 D = some (.dK kvs) ∧ kvs.length < sizeLine ∧ Nx (upd H5 D (.dK (putK kvs k z))) else Nx H3) := by
  refine ⟨fun i m H => m = n - i ∧ i ≤ n ∧ Pv i H, ⟨n, by simp, Nat.zero_le _, h0⟩, ?_⟩
  rintro i m H ⟨rfl, hi, p⟩
  have q := hG i H hi p
  by_cases hlt : i < n
  · refine .inr ⟨w.goes i H hlt q, Pv (i + 1), fun H' p' => ⟨n - (i + 1), by omega, rfl, hlt, p'⟩, fun x H' y => hs i x H H' hlt p (w.yields i H x H' hlt q y)⟩
  · have e : i = n := by omega
    subst e
    exact .inl ⟨w.stops H q, hd H p⟩
def rLstOf (K : PySem.W.Frag) : List V → Hp → VK → Prop := fun xs H Q => ∃ p ys, xs = [.ref p] ∧ (SqL K H p ys ∨ SqT K H p ys) ∧ ∀ l, H l = none → Q (.ref l) (upd H l (.lst ys))
theorem call_lstK {X : Cx} : CallR X (.type "list") (rLstOf X.K) := call_list_of
theorem putFr (r r2 f u d : Addr) : putF "relations" (.ref r2) (flds r f u d) = flds r2 f u d := if_pos rfl
theorem putF_ne {x g : Str} {v y : V} {l : List (Str × V)} (n : ¬ g = x) : putF x v ((g, y) :: l) = (g, y) :: putF x v l := if_neg n
theorem putF_eq {x : Str} {v y : V} {l : List (Str × V)} : putF x v ((x, y) :: l) = (x, v) :: l := if_pos rfl
theorem putFf (r f f2 u d : Addr) : putF "facts" (.ref f2) (flds r f u d) = flds r f2 u d := by
  unfold flds
  rw [putF_ne (by decide +kernel), putF_eq]
theorem putFu (r f u u2 d : Addr) : putF "rules" (.ref u2) (flds r f u d) = flds r f u2 d := by
  unfold flds
  rw [putF_ne (by decide +kernel), putF_ne (by decide +kernel), putF_eq]
theorem putFd (r f u d d2 : Addr) : putF "denials" (.ref d2) (flds r f u d) = flds r f u d2 := by
  unfold flds
  rw [putF_ne (by decide +kernel), putF_ne (by decide +kernel), putF_ne (by decide +kernel), putF_eq]
/-- State() as its callers know it -/
structure MkSt (P : Program) (w : World) (K : PySem.W.Frag) (mg : Str → Option Value) (base : Heap) (C : Addr) : Prop where
  ex : ∃ (f : Addr) (fd : FuncData) (T : Addr) (ds : List Value), Mk K C f ∧ FnOk P w K mg base CX0 7 f fd ["self", "items"] (spInit K C) ∧ Binds K fd ["self", "items"] [] ∧ Binds K fd ["self", "items"] ds ∧ Vals [V.ref T] ds ∧ KT0 K T
section
variable {X : Cx} {C : Addr} {p pos : Pos} {e : Expr} {es : List Expr} {t : TA}
def spMk (K : PySem.W.Frag) (C : Addr) : TE := fun _ H Q => ∀ x dx, H x = none → H dx = none → dx ≠ x → ∀ H' F, Kept x (upd (upd H dx (.own x)) x (.ins C dx [])) H' → (∀ a, F a → (upd (upd H dx (.own x)) x (.ins C dx [])) a = none) → StAt C H' x [] F 0 → Q (.ref x) H'
theorem pe_mk0 (M : MkSt X.prog X.w X.K X.mg X.base C) (hr : Room 8 X.A) (hg : Gl X "State") (hm : X.mg "State" = some (.ref C)) : PE X (.Call (.Name "State" p) [] [] pos) (spMk X.K C) := by
  obtain ⟨f, fd, T, ds, m, F, b0, b1, hv, kt⟩ := M.ex
  refine ⟨fun pins s σ H Q I h => ?_⟩
  refine (pe_make0 (E := E0) m F hr hg hm b1 hv pass0).run pins s σ H Q I fun x dx nx ndx nex => ?_
  refine ⟨x, dx, T, [], rfl, upd_same, .inl ⟨kt, rfl⟩, (fun i hi => by cases hi), Nat.zero_le _, fun H' F' k c S => ⟨rfl, h x dx nx ndx nex H' F' k c S⟩⟩
theorem pe_mk1 (M : MkSt X.prog X.w X.K X.mg X.base C) (hr : Room 8 X.A) (hg : Gl X "State") (hm : X.mg "State" = some (.ref C)) (ha : PA X (e :: es) t)
    (he : starEach (e :: es) X.env = (false, eval e X.env) :: starEach es X.env := by rfl) (hpl : (backTo pos (starEach es X.env)).any (·.1) = false := by rfl) :
    PE X (.Call (.Name "State" p) (e :: es) [] pos) (tMake C (spInit X.K C) [] E0 t) := by
  obtain ⟨f, fd, T, ds, m, F, b0, b1, hv, kt⟩ := M.ex
  exact pe_make m F hr hg hm b0 .nil pass0 ha (by decide) he hpl
end
end KV

namespace KV
open PySem PySem.Spec PyProof.Rows L2 KA
section
variable {X : Cx} {k : Nat} {m : Str} {C : Addr} {ps : List Str} {sp : Sp} {o : Expr} {ta : TE} {pos apos : Pos}
theorem pe_mdef0 (D : MDef X.prog X.w X.K X.mg X.base C m k ps sp) (he : PE X o ta) (c : Cls X.K C) (hr : Room k X.A) {pl : Sem Bool}
    (ht : eval (.Call (.Attribute o m apos) [] [] pos) X.env = (do
      let ov ← eval o X.env
      standAt apos.atName
      let (f, first) ← holding [ov] (getMethod ov m pl)
      callWith pos f first (backTo pos (starEach [] X.env)) (backToKw pos (keywordEach [] X.env))) := by rfl) : PE X (.Call (.Attribute o m apos) [] [] pos) (tMeth C m sp [] E0 ta tNil) := by
  obtain ⟨f, fd, F, M, hb⟩ := D.ex
  exact pe_meth0 he c M F hr hb .nil pass0 ht
end
end KV

namespace KV
open PySem PySem.Spec PyProof.Rows L2 KA
theorem nodup_le {α : Type} [DecidableEq α] : ∀ {l m : List α}, l.Nodup → (∀ x ∈ l, x ∈ m) → l.length ≤ m.length
  | [], _, _, _ => Nat.zero_le _
  | a :: l, m, h, s => by
    have h1 := List.nodup_cons.mp h
    have ha : a ∈ m := s a List.mem_cons_self
    have h2 : ∀ x ∈ l, x ∈ m.erase a := fun x hx => (List.mem_erase_of_ne (fun z => h1.1 (by rw [← z]; exact hx))).mpr (s x (List.mem_cons_of_mem _ hx))
    have h3 := nodup_le h1.2 h2
    rw [List.length_erase_of_mem ha] at h3
    have h4 : 0 < m.length := List.length_pos_of_mem ha
    rw [List.length_cons]
    omega
theorem key_ne {a b : Ky} (h : kc a b < 0) (hb : okK b) (e : a = b) : False := by
  rw [e] at h
  rcases kc_cases hb hb with ⟨_, _, n⟩ | ⟨_, _, n⟩ | ⟨z, _, _⟩
  · exact n rfl
  · exact n rfl
  · omega
theorem sorted_keys {l : List It1} (s : SortedI l) (o : OkL l) : (l.map keyI).Nodup := by
  rw [List.Nodup, List.pairwise_map]
  exact List.Pairwise.imp_of_mem (fun {a b} ha hb h z => key_ne h (okK_of (o b hb)) z) s
noncomputable instance : DecidableEq It1 := fun a b => Classical.propDecidable _
theorem sort_in : ∀ x : It1, 0 ≤ (keyI x).1 ∧ (keyI x).1 < 4
  | .rel _ _ => ⟨(by decide : (0 : Int) ≤ 0), (by decide : (0 : Int) < 4)⟩
  | .fact _ _ => ⟨(by decide : (0 : Int) ≤ 1), (by decide : (1 : Int) < 4)⟩
  | .rule _ _ _ _ => ⟨(by decide : (0 : Int) ≤ 2), (by decide : (2 : Int) < 4)⟩
  | .den _ _ => ⟨(by decide : (0 : Int) ≤ 3), (by decide : (3 : Int) < 4)⟩
/-- so far: the items whose sort is below k, or is k with a name among ns -/
structure Cov (its : List It1) (k : Int) (ns : List Str) (out : List It1) : Prop where
  srt : SortedI out
  ok : OkL out
  mem : ∀ x, x ∈ out ↔ x ∈ its ∧ ((keyI x).1 < k ∨ ((keyI x).1 = k ∧ (keyI x).2.1 ∈ ns))
theorem Cov.len {its out : List It1} {k : Int} {ns : List Str} (c : Cov its k ns out) : out.length ≤ its.length := by
  refine nodup_le ?_ (fun x hx => ((c.mem x).mp hx).1)
  exact List.Pairwise.imp_of_mem (fun {a b} ha hb h z => key_ne h (okK_of (c.ok b hb)) (by rw [z])) c.srt
theorem Cov.start {its : List It1} : Cov its 0 [] [] := ⟨List.Pairwise.nil, (fun i h => by cases h), fun x => ⟨fun h => (by cases h), fun ⟨_, h⟩ => by
  rcases h with h | ⟨_, h⟩
  · have := (sort_in x).1
    omega
  · cases h⟩⟩
theorem Cov.next {its out : List It1} {k : Int} {ns : List Str} (c : Cov its k ns out) (h : ∀ x ∈ its, (keyI x).1 = k → (keyI x).2.1 ∈ ns) : Cov its (k + 1) [] out := ⟨c.srt, c.ok, fun x => by
  rw [c.mem x]
  constructor
  · rintro ⟨a, b | ⟨b, _⟩⟩
    · exact ⟨a, .inl (by omega)⟩
    · exact ⟨a, .inl (by omega)⟩
  · rintro ⟨a, b | ⟨_, b⟩⟩
    · refine ⟨a, ?_⟩
      by_cases z : (keyI x).1 = k
      · exact .inr ⟨z, h x a z⟩
      · exact .inl (by omega)
    · cases b⟩
theorem Cov.step {its out blk : List It1} {k : Int} {ns : List Str} {nm : Str} (c : Cov its k ns out) (h : ∀ n ∈ ns, n.cps.toList < nm.cps.toList) (sb : SortedI blk) (ob : OkL blk) (mb : ∀ x, x ∈ blk ↔ x ∈ its ∧ (keyI x).1 = k ∧ (keyI x).2.1 = nm) : Cov its k (ns ++ [nm]) (out ++ blk) := by
  refine ⟨?_, fun x hx => (List.mem_append.mp hx).elim (c.ok x) (ob x), fun x => ?_⟩
  · unfold SortedI
    rw [List.pairwise_append]
    refine ⟨c.srt, sb, fun a ha b hb => ?_⟩
    obtain ⟨_, w⟩ := (c.mem a).mp ha
    obtain ⟨_, v1, v2⟩ := (mb b).mp hb
    show kc (keyI a) (keyI b) < 0
    rw [kc_lt_iff]
    rcases w with w | ⟨w1, w2⟩
    · exact .inl (by omega)
    · refine .inr ⟨by omega, .inl ?_⟩
      rw [v2]
      exact h _ w2
  · rw [List.mem_append, c.mem x, mb x, List.mem_append, List.mem_singleton]
    constructor
    · rintro (⟨a, b | ⟨b, e⟩⟩ | ⟨a, b, e⟩)
      · exact ⟨a, .inl b⟩
      · exact ⟨a, .inr ⟨b, .inl e⟩⟩
      · exact ⟨a, .inr ⟨b, .inr e⟩⟩
    · rintro ⟨a, b | ⟨b, e | e⟩⟩
      · exact .inl ⟨a, .inl b⟩
      · exact .inl ⟨a, .inr ⟨b, e⟩⟩
      · exact .inr ⟨a, b, e⟩
theorem Cov.one {its out : List It1} {k : Int} {ns : List Str} {nm : Str} {i : It1} (c : Cov its k ns out) (h : ∀ n ∈ ns, n.cps.toList < nm.cps.toList) (si : SortedI its) (oi : OkL its) (hi : i ∈ its) (k1 : (keyI i).1 = k) (k2 : (keyI i).2.1 = nm) (k3 : k ≠ 1) : Cov its k (ns ++ [nm]) (out ++ [i]) := by
  refine c.step h (List.pairwise_singleton _ _) (fun x hx => by rw [List.mem_singleton.mp hx]; exact oi i hi) fun x => ?_
  rw [List.mem_singleton]
  constructor
  · rintro rfl
    exact ⟨hi, k1, k2⟩
  · rintro ⟨hx, e1, e2⟩
    refine sorted_key si oi hx hi ?_
    have e3 : ∀ y : It1, (keyI y).1 ≠ 1 → (keyI y).2.2 = [] := fun y hy => by
      cases y with
      | rel a b => rfl
      | fact a b => exact absurd rfl hy
      | rule a b c d => rfl
      | den a b => rfl
    refine Prod.ext (e1.trans k1.symm) (Prod.ext (e2.trans k2.symm) ?_)
    rw [e3 x (by rw [e1]; exact k3), e3 i (by rw [k1]; exact k3)]
theorem Cov.all {its out : List It1} (c : Cov its 4 [] out) (si : SortedI its) (oi : OkL its) : out = its := by
  refine sorted_ext c.srt si c.ok oi fun x => ?_
  rw [c.mem x]
  exact ⟨fun h => h.1, fun h => ⟨h, .inl (sort_in x).2⟩⟩
/-! ### sorted names -/
theorem str_lt {x y : Str} (h : ltCps x.cps.toList y.cps.toList = false) (n : x ≠ y) : y.cps.toList < x.cps.toList := by
  rw [ltCps_eq] at h
  have h1 := of_decide_eq_false h
  rcases Classical.em (y.cps.toList < x.cps.toList) with z | z
  · exact z
  · refine absurd ?_ n
    have e : y.cps.toList = x.cps.toList := List.le_antisymm h1 z
    obtain ⟨⟨a⟩⟩ := x
    obtain ⟨⟨b⟩⟩ := y
    have e : b = a := e
    rw [e]
theorem rising_pw : ∀ {r : List Str} {x : Str}, risingS x r = true → (x :: r).Nodup → (x :: r).Pairwise fun a b => a.cps.toList < b.cps.toList
  | [], x, _, _ => List.pairwise_singleton _ _
  | y :: r, x, h, n => by
    have h1 : (!ltCps y.cps.toList x.cps.toList && risingS y r) = true := h
    rw [Bool.and_eq_true] at h1
    obtain ⟨n1, n2⟩ := List.nodup_cons.mp n
    have ih := rising_pw h1.2 n2
    have xy : x.cps.toList < y.cps.toList := str_lt (by simpa using h1.1) (fun z => n1 (by rw [z]; exact List.mem_cons_self))
    rw [List.pairwise_cons]
    refine ⟨fun z hz => ?_, ih⟩
    rcases List.mem_cons.mp hz with e | hz
    · rw [e]
      exact xy
    · exact List.lt_trans xy ((List.pairwise_cons.mp ih).1 z hz)
theorem sorted_pw {ys : List Str} (h : sortedS ys = true) (n : ys.Nodup) : ys.Pairwise fun a b => a.cps.toList < b.cps.toList := by
  cases ys with
  | nil => exact List.Pairwise.nil
  | cons x r => exact rising_pw h n
/-- the names of a dict, sorted: what call_sortedD asks, and what it gives -/
theorem names_of {kvs : List (Key × V)} (h : ∀ k v, (k, v) ∈ kvs → ∃ nm : Str, k = Sum.inr nm) : ∃ ks : List Str, kvs.map (·.1) = ks.map Sum.inr := by
  induction kvs with
  | nil => exact ⟨[], rfl⟩
  | cons p r ih =>
    obtain ⟨ks, e⟩ := ih fun k v m => h k v (List.mem_cons_of_mem _ m)
    obtain ⟨nm, e1⟩ := h p.1 p.2 List.mem_cons_self
    exact ⟨nm :: ks, by rw [List.map_cons, List.map_cons, e, e1]⟩
theorem names_len {kvs : List (Key × V)} {ks : List Str} {its : List It1} (h : kvs.map (·.1) = ks.map Sum.inr) (n : nd kvs) (c : ∀ nm ∈ ks, ∃ x ∈ its, (keyI x).2.1 = nm) : ks.length ≤ its.length ∧ ks.Nodup := by
  have n2 : ks.Nodup := by
    have n1 : (ks.map (Sum.inr : Str → Key)).Nodup := by
      rw [← h]
      exact n
    exact (List.pairwise_map.mp n1).imp fun {a b} h z => h (by rw [z])
  refine ⟨?_, n2⟩
  have := nodup_le (m := its.map fun x => (keyI x).2.1) n2 fun x hx => by
    obtain ⟨y, hy, e⟩ := c x hx
    exact List.mem_map.mpr ⟨y, hy, e⟩
  rwa [List.length_map] at this
theorem pw_take {ns : List Str} (h : ns.Pairwise fun a b => a.cps.toList < b.cps.toList) {i : Nat} {nm : Str} (e : ns[i]? = some nm) : ∀ n ∈ ns.take i, n.cps.toList < nm.cps.toList := fun n hn => by
  obtain ⟨j, hj, e2⟩ := List.getElem_of_mem hn
  rw [List.length_take] at hj
  rw [List.getElem_take] at e2
  obtain ⟨hi, e3⟩ := List.getElem?_eq_some_iff.mp e
  rw [← e2, ← e3]
  exact List.pairwise_iff_getElem.mp h j i (by omega) hi (by omega)
theorem take_next {α : Type} {ns : List α} {i : Nat} {x : α} (e : ns[i]? = some x) : ns.take (i + 1) = ns.take i ++ [x] := by
  rw [List.take_add_one, e]
  rfl

end KV

namespace KV
open PySem PySem.Spec PyProof.Rows L2 KA
theorem inv3r {H : Hp} {v : V} {c : Str} {d f : PyData} (t : Tp H v (.tuple [.str c, d, f])) : ∃ p, v = .ref p ∧ ∃ y z, H p = some (.tup [.str c, y, z]) ∧ Tp H y d ∧ Tp H z f := by
  cases t with
  | tup e r =>
    cases r with
    | cons h1 r => cases r with
      | cons h2 r => cases r with
        | cons h3 r =>
          cases r
          cases h1
          exact ⟨_, rfl, _, _, e, h2, h3⟩
/-- the names are few -/
def Few (its : List It1) : Prop := ∃ NM : List Str, NM.length < 64 ∧ ∀ x ∈ its, (keyI x).2.1 ∈ NM
theorem names_few {kvs : List (Key × V)} {ks : List Str} {its : List It1} (f : Few its) (h : kvs.map (·.1) = ks.map Sum.inr) (n : nd kvs) (c : ∀ nm ∈ ks, ∃ x ∈ its, (keyI x).2.1 = nm) : ks.length ≤ its.length ∧ ks.Nodup ∧ ks.length < 64 := by
  obtain ⟨l, n2⟩ := names_len h n c
  obtain ⟨NM, l6, hN⟩ := f
  refine ⟨l, n2, Nat.lt_of_le_of_lt (nodup_le (m := NM) n2 fun x hx => ?_) l6⟩
  obtain ⟨y, hy, e⟩ := c x hx
  rw [← e]
  exact hN y hy
section
variable {P : Program} {w : World} {K : PySem.W.Frag} {mg : Str → Option Value} {base : Heap} {C : Addr}
abbrev sAll : Stmt := inClass (topS 10) 1
theorem scAll : FnScope ["self", "name", "found", "relation", "terms", "body", "row"] ["self"] (defScope sAll) := ⟨rfl, rfl, rfl, by decide +kernel, rfl, by decide +kernel, by decide +kernel⟩
def spAll (C : Addr) : Sp := fun vs H Q _ => ∃ (s : Addr) (its : List It1) (F : Addr → Prop) (N : Nat), vs = [.ref s] ∧ StAt C H s its F N ∧ N ≤ 1000 ∧ its.length ≤ 400 ∧ Few its ∧ ∀ L ys H', Same H H' → H L = none → H' L = some (.lst ys) → Tps H' ys (its.map itD) → Q (.ref L) H'
theorem ok_all {f0 : Addr} {fd : FuncData} (F0 : Fun K "all_items" "State.all_items" sAll f0 fd) (T : Cs K mg C) (hso : mg "sorted" = none) : FnOk P w K mg base CX0 1 f0 fd ["self"] (spAll C) := by
  refine F0.ok scAll (fun vs H Q E h => ?_) (fun cdv A outer s H vs Q E hr h => ?_)
  · obtain ⟨_, _, _, _, rfl, _⟩ := h
    rfl
  · obtain ⟨s, its, F, N, rfl, S, hN, h64, hfew, q⟩ := h
    have hu := hu_of hr
    refine ⟨_, pss_cons (ps_setLc (i := 2) (own := [("name", 1)]) (g := gName 1) (tt := tYes) (te := tTup (tCons (tC (.str "relation")) (tCons (tVar 1) (tCons (tDGet (tFld K (tVar 0) "relations") (tVar 1)) tNil)))) (by rfl) scAll.nd rfl rfl (sw_true rfl rfl rfl (by decide +kernel))
        (pi_list (pe_callB (call_sortedD rfl) (by rfl) hso boot_sorted (pa_cons (pe_fld (pv 0) rfl) pa_nil))) (blkOk_by (own := [("name", 1)]) (N := ["self", "name", "found", "relation", "terms", "body", "row"]) (sc := defScope sAll) (by decide +kernel))
        (fun _ _ _ _ _ => pg_name (i := 1) scAll.nd rfl (Or.inl rfl)) (fun _ _ _ _ _ => pts_nil) (fun _ _ _ _ _ => pe_tup (pa_cons pe_str (pa_cons (pv 1) (pa_cons (pe_dget hu (pe_fld (pv 0) rfl) (pv 1) (fun _ _ => rfl)) pa_nil)))))
      (C8.pss_cut (ps_for PassesOwn.never rfl (pi_list (pe_callB (call_sortedD rfl) (by rfl) hso boot_sorted (pa_cons (pe_fld (pv 0) rfl) pa_nil))) (pg_name (i := 1) scAll.nd rfl (.inr rfl))
        (pss_one (ps_expr (pe_bm PySem.F.plainAttrs_list PySem.F.slot_list_extend PySem.F.type_list_extend mt_extend (pv 2) (pa_cons (pe_lc (own := [("row", 6)]) (g := gName 6) (tt := tYes) (te := tTup (tCons (tC (.str "fact")) (tCons (tVar 1) (tCons (tVar 6) tNil)))) rfl scAll.nd
          (pi_list (pe_dget hu (pe_fld (pv 0) rfl) (pv 1) (fun _ _ => rfl))) (blkOk_by (own := [("row", 6)]) (N := ["self", "name", "found", "relation", "terms", "body", "row"]) (sc := defScope sAll) (by decide +kernel))
          (fun _ _ _ _ _ => pg_name (i := 6) scAll.nd rfl (Or.inl rfl)) (fun _ _ _ _ _ => pts_nil) (fun _ _ _ _ _ => pe_tup (pa_cons pe_str (pa_cons (pv 1) (pa_cons (pv 6) pa_nil))))) pa_nil)))))
      (C8.pss_cut (ps_for PassesOwn.never rfl (pi_list (pe_callB (call_sortedD rfl) (by rfl) hso boot_sorted (pa_cons (pe_fld (pv 0) rfl) pa_nil))) (pg_name (i := 1) scAll.nd rfl (.inr rfl))
        (pss_cons (ps_asg (pe_dget hu (pe_fld (pv 0) rfl) (pv 1) (fun _ _ => rfl)) (pg_tup rfl (pgs_cons (pg_name (i := 3) scAll.nd rfl (.inl rfl)) (pgs_cons (pg_name (i := 4) scAll.nd rfl (.inl rfl)) (pgs_cons (pg_name (i := 5) scAll.nd rfl (.inl rfl)) pgs_nil)))))
        (pss_one (ps_expr (pe_bm PySem.F.plainAttrs_list PySem.F.slot_list_append PySem.F.type_list_append mt_append (pv 2) (pa_cons (pe_tup (pa_cons pe_str (pa_cons (pv 1) (pa_cons (pv 3) (pa_cons (pv 4) (pa_cons (pv 5) pa_nil)))))) pa_nil))))))
      (C8.pss_cut (ps_for PassesOwn.never rfl (pi_list (pe_callB (call_sortedD rfl) (by rfl) hso boot_sorted (pa_cons (pe_fld (pv 0) rfl) pa_nil))) (pg_name (i := 1) scAll.nd rfl (.inr rfl))
        (pss_one (ps_expr (pe_bm PySem.F.plainAttrs_list PySem.F.slot_list_append PySem.F.type_list_append mt_append (pv 2) (pa_cons (pe_tup (pa_cons pe_str (pa_cons (pv 1) (pa_cons (pe_dget hu (pe_fld (pv 0) rfl) (pv 1) (fun _ _ => rfl)) pa_nil)))) pa_nil)))))
      (pss_one (ps_ret (pv 2)))))), ?_⟩
    obtain ⟨dx, r, f, u, d, kr, kf, ku, kd, b⟩ := id S
    obtain ⟨r1, r2, r3⟩ := id b.rel
    obtain ⟨f1, f2, f3, f4, f5⟩ := id b.fac
    obtain ⟨u1, u2, u3, u4⟩ := id b.rul
    obtain ⟨d1, d2, d3, d4⟩ := id b.den
    -- the keys
    obtain ⟨kn, ekn⟩ := names_of (kvs := kr) fun k v m => let ⟨nm, _, e, _⟩ := (r3 k v).mp m; ⟨nm, e⟩
    obtain ⟨fn, efn⟩ := names_of (kvs := kf) fun k v m => let ⟨nm, _, _, e, _⟩ := f3 k v m; ⟨nm, e⟩
    obtain ⟨un, eun⟩ := names_of (kvs := ku) fun k v m => let ⟨nm, _, _, _, e, _⟩ := u3 k v m; ⟨nm, e⟩
    obtain ⟨dn, edn⟩ := names_of (kvs := kd) fun k v m => let ⟨nm, _, e, _⟩ := d3 k v m; ⟨nm, e⟩
    have inK : ∀ {kvs : List (Key × V)} {ks : List Str} {nm : Str}, kvs.map (·.1) = ks.map Sum.inr → (nm ∈ ks ↔ ∃ v, ((Sum.inr nm : Key), v) ∈ kvs) := fun {kvs ks nm} e => by
      constructor
      · intro h
        have h1 : (Sum.inr nm : Key) ∈ kvs.map (·.1) := by
          rw [e]
          exact List.mem_map.mpr ⟨nm, h, rfl⟩
        obtain ⟨⟨k, v⟩, h2, h3⟩ := List.mem_map.mp h1
        exact ⟨v, by rw [← h3]; exact h2⟩
      · rintro ⟨v, h⟩
        have h1 : (Sum.inr nm : Key) ∈ kvs.map (·.1) := List.mem_map.mpr ⟨_, h, rfl⟩
        rw [e] at h1
        obtain ⟨x, h2, h3⟩ := List.mem_map.mp h1
        injection h3 with h3
        rw [← h3]
        exact h2
    obtain ⟨lk, nk, lk6⟩ := names_few (its := its) hfew ekn r1 fun nm h => by
      obtain ⟨v, m⟩ := (inK ekn).mp h
      obtain ⟨x, n, e, _, hi⟩ := (r3 _ _).mp m
      injection e with e
      exact ⟨_, hi, e.symm⟩
    obtain ⟨lf, nf, lf6⟩ := names_few (its := its) hfew efn f1 fun nm h => by
      rcases (f4 nm).mp ((inK efn).mp h) with ⟨n, hi⟩ | ⟨ds, hi⟩
      · exact ⟨_, hi, rfl⟩
      · exact ⟨_, hi, rfl⟩
    obtain ⟨lu, nu, lu6⟩ := names_few (its := its) hfew eun u1 fun nm h => by
      obtain ⟨v, m⟩ := (inK eun).mp h
      obtain ⟨x, rl, ts, bd, e, _, hi⟩ := u3 _ _ m
      injection e with e
      exact ⟨_, hi, e.symm⟩
    obtain ⟨ld, nd', ld6⟩ := names_few (its := its) hfew edn d1 fun nm h => by
      obtain ⟨v, m⟩ := (inK edn).mp h
      obtain ⟨x, bd, e, _, hi⟩ := d3 _ _ m
      injection e with e
      exact ⟨_, hi, e.symm⟩
    have s3 : 3 ≤ sizeLine := by decide
    have s5 : 5 ≤ sizeLine := by decide
    have szs : its.length + its.length ≤ 1000 := by omega
    -- relations
    refine ⟨.ref s, rfl, s, C, dx, _, _, rfl, b.hs, T.cl, T.nR, fl_rel _ _ _ _, r, kr, kn, rfl, .of b.hr, ekn, by omega, fun zs zp per srt nzp => ?_⟩
    have pz := sorted_pw srt (per.nodup_iff.mpr nk)
    have sm1 : Same H (upd H zp (.lst (zs.map V.str))) := same_new nzp
    refine ⟨zp, rfl, ⟨_, SqL.of upd_same⟩, fun L nL => ?_⟩
    have nLH : H L = none := sm1.free nL
    refine lc_it walk_list (fun i H' => (∀ a o, (upd H zp (.lst (zs.map V.str))) a = some o → H' a = some o) ∧ ∃ ys out, H' L = some (.lst ys) ∧ Tps H' ys (out.map itD) ∧ Cov its 0 (zs.take i) out) ⟨same_new nL, [], [], upd_same, .nil, by exact Cov.start⟩ (fun i H' _ hP => SqL.of (hP.1 _ _ upd_same)) (fun i x H' H2 hi hP hY => ?_) (fun H' hP => ?_)
    · obtain ⟨rfl, hx⟩ := hY
      obtain ⟨sm, ys, out, eL, tp, cv⟩ := hP
      have smH : Same H H2 := sm1.trans sm
      rw [List.getElem?_map] at hx
      cases ez : zs[i]? with
      | none =>
        rw [ez] at hx
        cases hx
      | some nm =>
        rw [ez] at hx
        have hx : V.str nm = x := Option.some.inj hx
        subst hx
        obtain ⟨v, hm⟩ := (inK ekn).mp (per.mem_iff.mp (List.mem_of_getElem? ez))
        obtain ⟨x', n, e1, e2, hit⟩ := (r3 _ _).mp hm
        injection e1 with e1
        subst e1
        subst e2
        refine ⟨rfl, ?_⟩
        refine iteT (B := True) ?_
        refine ⟨.str nm, rfl, .ref s, rfl, s, C, dx, _, _, rfl, smH _ _ b.hs, T.cl, T.nR, fl_rel _ _ _ _, .str nm, rfl, r, .int n, rfl, (by rw [← (mem_val r1).mpr hm]; exact DGet.k (k := Sum.inr nm) (smH _ _ b.hr)), s3, fun p np => ?_⟩
        have npL : L ≠ p := fun z => by rw [← z, eL] at np; cases np
        have eL' : (upd H2 p (.tup [.str "relation", .str nm, .int n])) L = some (.lst ys) := by
          rw [upd_ne npL]
          exact eL
        have ly : ys.length = out.length := by rw [tp.length, List.length_map]
        have lo := cv.len
        refine ⟨ys, eL', small1000 (by omega), fun a o h => ?_, ys ++ [.ref p], out ++ [.rel nm n], upd_same, ?_, ?_⟩
        · rw [upd_ne (ne_of_none h nL), upd_ne (ne_of_none (sm a o h) np)]
          exact sm a o h
        · rw [List.map_append]
          have tk1 : Tk H2 (upd (upd H2 p (.tup [.str "relation", .str nm, .int n])) L (.lst (ys ++ [.ref p]))) := (Tk.new np).trans (Tk.lst eL')
          refine (tp.mono tk1).append (.cons (.tup (by rw [upd_ne npL.symm]; exact upd_same) (.cons (.str _) (.cons (.str _) (.cons (.int _) .nil)))) .nil)
        · rw [take_next ez]
          exact cv.one (pw_take pz ez) b.srt b.ok hit rfl rfl (by decide)
    obtain ⟨sm, ys, out, eL, tp, cv⟩ := hP
    rw [List.length_map, List.take_length] at cv
    have cv1 := cv.next fun x hx k => by
      cases x with
      | rel nm n => exact per.mem_iff.mpr ((inK ekn).mpr ⟨_, (r3 _ _).mpr ⟨nm, n, rfl, rfl, hx⟩⟩)
      | fact nm ds => exact absurd (show (1 : Int) = 0 from k) (by decide)
      | rule nm a c e => exact absurd (show (2 : Int) = 0 from k) (by decide)
      | den nm a => exact absurd (show (3 : Int) = 0 from k) (by decide)
    have smH : Same H H' := sm1.trans sm
    clear cv sm sm1 pz
    -- the loops: what stands behind each
    refine ⟨fun σ H' => (∃ x1 x3 x4 x5, σ = [some (.ref s), x1, some (.ref L), x3, x4, x5, none]) ∧ Same H H' ∧ ∃ ys out, H' L = some (.lst ys) ∧ Tps H' ys (out.map itD) ∧ Cov its 2 [] out, ?_, ?_⟩
    · -- facts
      refine ⟨.ref s, rfl, s, C, dx, _, _, rfl, smH _ _ b.hs, T.cl, T.nF, fl_fac _ _ _ _, f, kf, fn, rfl, .of (smH _ _ b.hf), efn, by omega, fun zs zp per srt nzp => ?_⟩
      have pz := sorted_pw srt (per.nodup_iff.mpr nf)
      have sm1 : Same H' (upd H' zp (.lst (zs.map V.str))) := same_new nzp
      have nzL : zp ≠ L := fun z => by rw [z, eL] at nzp; cases nzp
      have eL1 := sm1 _ _ eL
      have tp1 := tp.mono (Tk.of sm1)
      have smH1 := smH.trans sm1
      have ezp : (upd H' zp (.lst (zs.map V.str))) zp = some (.lst (zs.map V.str)) := upd_same
      revert eL1 tp1 smH1 ezp
      generalize upd H' zp (.lst (zs.map V.str)) = H1
      intro eL1 tp1 smH1 ezp
      refine ⟨zp, rfl, ⟨_, SqL.of ezp⟩, ?_⟩
      refine for_list (K := K) (a := zp) (xs := zs.map V.str) (fun i σ H2 => (∃ x1 x3 x4 x5, σ = [some (.ref s), x1, some (.ref L), x3, x4, x5, none]) ∧ Same H H2 ∧ H2 zp = some (.lst (zs.map V.str)) ∧ ∃ ys out, H2 L = some (.lst ys) ∧ Tps H2 ys (out.map itD) ∧ Cov its 1 (zs.take i) out) ⟨⟨_, _, _, _, rfl⟩, smH1, ezp, ys, out, eL1, tp1, cv1⟩ (fun i σ H2 _ hP => SqL.of hP.2.2.1) (fun i x σ H2 hx hP => ?_) (fun σ H2 hP => ?_)
      · obtain ⟨⟨x1, x3, x4, x5, rfl⟩, smq, eq, ys, out, eL, tp, cv⟩ := hP
        rw [List.getElem?_map] at hx
        cases ez : zs[i]? with
        | none =>
          rw [ez] at hx
          cases hx
        | some nm =>
          rw [ez] at hx
          have hx : V.str nm = x := Option.some.inj hx
          subst hx
          obtain ⟨v, hm⟩ := (inK efn).mp (per.mem_iff.mp (List.mem_of_getElem? ez))
          obtain ⟨x', l, rs, e1, rfl, hF, ⟨⟨xs, el, tr⟩, rsr, rok, rln⟩, rmm⟩ := f3 _ _ hm
          injection e1 with e1
          subst e1
          have nlL : l ≠ L := fun z => by rw [z, nLH] at el; cases el
          have el2 := smq _ _ el
          refine ⟨.ref L, rfl, .inl ⟨rfl, _, SqL.of eL⟩, .ref s, rfl, s, C, dx, _, _, rfl, smq _ _ b.hs, T.cl, T.nF, fl_fac _ _ _ _, .str nm, rfl, f, .ref l, rfl, (by rw [← (mem_val f1).mpr hm]; exact DGet.k (k := Sum.inr nm) (smq _ _ b.hf)), l, rfl, ⟨xs, SqL.of el2⟩, fun D nD => ?_⟩
          have lxs : xs.length = rs.length := by rw [tr.length, List.length_map]
          refine lc_it walk_list (fun j H3 => (∀ a o, H2 a = some o → H3 a = some o) ∧ ∃ zs2, H3 D = some (.lst zs2) ∧ Tps H3 zs2 (((rs.take j).map (It1.fact nm)).map itD)) ⟨same_new nD, [], upd_same, .nil⟩ (fun j H3 _ hQ => SqL.of (hQ.1 _ _ el2)) (fun j y H3 H4 hj hQ hY => ?_) (fun H3 hQ => ?_)
          · obtain ⟨rfl, hy⟩ := hY
            obtain ⟨sm3, zs2, eD, tz⟩ := hQ
            obtain ⟨dd, ed, ty⟩ := tr.get hy
            rw [List.getElem?_map] at ed
            cases er : rs[j]? with
            | none =>
              rw [er] at ed
              cases ed
            | some row =>
              rw [er] at ed
              have ed : PyData.tuple row = dd := Option.some.inj ed
              subst ed
              refine ⟨rfl, ?_⟩
              refine iteT (B := True) ?_
              refine ⟨.str nm, rfl, y, rfl, s3, fun p np => ?_⟩
              have npD : D ≠ p := fun z => by rw [← z, eD] at np; cases np
              have eD' : (upd H4 p (.tup [.str "fact", .str nm, y])) D = some (.lst zs2) := by
                rw [upd_ne npD]
                exact eD
              have lz : zs2.length = (rs.take j).length := by rw [tz.length, List.length_map, List.length_map]
              rw [List.length_take] at lz
              refine ⟨zs2, eD', small1000 (by omega), fun a o h => ?_, zs2 ++ [.ref p], upd_same, ?_⟩
              · rw [upd_ne (ne_of_none h nD), upd_ne (ne_of_none (sm3 a o h) np)]
                exact sm3 a o h
              · rw [take_next er, List.map_append, List.map_append]
                have tk1 : Tk H4 (upd (upd H4 p (.tup [.str "fact", .str nm, y])) D (.lst (zs2 ++ [.ref p]))) := (Tk.new np).trans (Tk.lst eD')
                exact (tz.mono tk1).append (.cons (.tup (by rw [upd_ne npD.symm]; exact upd_same) (.cons (.str _) (.cons (.str _) (.cons ((ty.mono (Tk.of (smq.trans sm3))).mono tk1) .nil)))) .nil)
          · obtain ⟨sm3, zs2, eD, tz⟩ := hQ
            rw [lxs, List.take_length] at tz
            have eL3 := sm3 _ _ eL
            have tp3 := tp.mono (Tk.of sm3)
            have ly : ys.length = out.length := by rw [tp.length, List.length_map]
            have lz : zs2.length = rs.length := by rw [tz.length, List.length_map, List.length_map]
            have lo := cv.len
            have cvn := cv.step (nm := nm) (blk := rs.map (It1.fact nm)) (pw_take pz ez) (by
              unfold SortedI
              rw [List.pairwise_map]
              exact List.Pairwise.imp (R := fun a c => rord a c < 0) (fun {a c} (h : rord a c < 0) => (kc_lt_iff (a := (1, nm, a)) (b := (1, nm, c))).mpr (.inr ⟨rfl, .inr ⟨rfl, h⟩⟩)) rsr) (fun x hx => by
              obtain ⟨ds, h1, h2⟩ := List.mem_map.mp hx
              rw [← h2]
              exact rok ds h1) (fun x => by
              rw [List.mem_map]
              constructor
              · rintro ⟨ds, h1, rfl⟩
                exact ⟨(rmm ds).mp h1, rfl, rfl⟩
              · rintro ⟨h1, h2, h3⟩
                cases x with
                | rel a c => exact absurd (show (0 : Int) = 1 from h2) (by decide)
                | fact a ds =>
                  have h3 : a = nm := h3
                  subst h3
                  exact ⟨ds, (rmm ds).mpr h1, rfl⟩
                | rule a c e g => exact absurd (show (2 : Int) = 1 from h2) (by decide)
                | den a c => exact absurd (show (3 : Int) = 1 from h2) (by decide))
            have hb := cvn.len
            rw [List.length_append, List.length_map] at hb
            refine ⟨L, D, ys, zs2, rfl, rfl, eL3, eD, Nat.le_of_lt (small1000 (by omega)), ?_⟩
            have smf : Same H (upd H3 L (.lst (ys ++ zs2))) := fun a o h => by
              rw [upd_ne (ne_of_none h nLH)]
              exact sm3 a o (smq a o h)
            refine ⟨⟨_, _, _, _, rfl⟩, smf, ?_, ys ++ zs2, out ++ rs.map (It1.fact nm), upd_same, ?_, ?_⟩
            · have hz : zp ≠ L := fun z => by
                rw [z, eL] at eq
                injection eq with eq
                injection eq with eq
                exact nzL z
              rw [upd_ne hz]
              exact sm3 _ _ eq
            · rw [List.map_append]
              exact (tp3.append tz).mono (Tk.lst eL3)
            · rw [take_next ez]
              exact cvn
      · obtain ⟨w1, w2, w3, ys, out, eL, tp, cv⟩ := hP
        rw [List.length_map, List.take_length] at cv
        refine ⟨w1, w2, ys, out, eL, tp, cv.next fun x hx k => ?_⟩
        cases x with
        | rel nm n => exact absurd (show (0 : Int) = 1 from k) (by decide)
        | fact nm ds => exact per.mem_iff.mpr ((inK efn).mpr ((f4 nm).mpr (.inr ⟨ds, hx⟩)))
        | rule nm a c e => exact absurd (show (2 : Int) = 1 from k) (by decide)
        | den nm a => exact absurd (show (3 : Int) = 1 from k) (by decide)
    · -- rules
      rintro σ H2 ⟨⟨x1, x3, x4, x5, rfl⟩, smH, ys, out, eL, tp, cv1⟩
      refine ⟨fun σ H' => (∃ x1 x3 x4 x5, σ = [some (.ref s), x1, some (.ref L), x3, x4, x5, none]) ∧ Same H H' ∧ ∃ ys out, H' L = some (.lst ys) ∧ Tps H' ys (out.map itD) ∧ Cov its 3 [] out, ?_, ?_⟩
      · refine ⟨.ref s, rfl, s, C, dx, _, _, rfl, smH _ _ b.hs, T.cl, T.nU, fl_rul _ _ _ _, u, ku, un, rfl, .of (smH _ _ b.hu), eun, by omega, fun zs zp per srt nzp => ?_⟩
        have pz := sorted_pw srt (per.nodup_iff.mpr nu)
        have sm1 : Same H2 (upd H2 zp (.lst (zs.map V.str))) := same_new nzp
        have nzL : zp ≠ L := fun z => by rw [z, eL] at nzp; cases nzp
        have eL1 := sm1 _ _ eL
        have tp1 := tp.mono (Tk.of sm1)
        have smH1 := smH.trans sm1
        have ezp : (upd H2 zp (.lst (zs.map V.str))) zp = some (.lst (zs.map V.str)) := upd_same
        revert eL1 tp1 smH1 ezp
        generalize upd H2 zp (.lst (zs.map V.str)) = H1
        intro eL1 tp1 smH1 ezp
        refine ⟨zp, rfl, ⟨_, SqL.of ezp⟩, ?_⟩
        refine for_list (K := K) (a := zp) (xs := zs.map V.str) (fun i σ H2 => (∃ x1 x3 x4 x5, σ = [some (.ref s), x1, some (.ref L), x3, x4, x5, none]) ∧ Same H H2 ∧ H2 zp = some (.lst (zs.map V.str)) ∧ ∃ ys out, H2 L = some (.lst ys) ∧ Tps H2 ys (out.map itD) ∧ Cov its 2 (zs.take i) out) ⟨⟨_, _, _, _, rfl⟩, smH1, ezp, ys, out, eL1, tp1, cv1⟩ (fun i σ H2 _ hP => SqL.of hP.2.2.1) (fun i x σ H2 hx hP => ?_) (fun σ H2 hP => ?_)
        · obtain ⟨⟨x1, x3, x4, x5, rfl⟩, smq, eq, ys, out, eL, tp, cv⟩ := hP
          rw [List.getElem?_map] at hx
          cases ez : zs[i]? with
          | none =>
            rw [ez] at hx
            cases hx
          | some nm =>
            rw [ez] at hx
            have hx : V.str nm = x := Option.some.inj hx
            subst hx
            obtain ⟨v, hm⟩ := (inK eun).mp (per.mem_iff.mp (List.mem_of_getElem? ez))
            obtain ⟨x', rl, ts, bd, e1, tv, hit⟩ := u3 _ _ hm
            injection e1 with e1
            subst e1
            obtain ⟨pv0, rfl, y, z, ev, ty, tz⟩ := inv3r (tv.mono (Tk.of smq))
            refine ⟨.ref s, rfl, s, C, dx, _, _, rfl, smq _ _ b.hs, T.cl, T.nU, fl_rul _ _ _ _, .str nm, rfl, u, .ref pv0, rfl, (by rw [← (mem_val u1).mpr hm]; exact DGet.k (k := Sum.inr nm) (smq _ _ b.hu)), pv0, _, rfl, SqT.of ev, rfl, _, _, rfl, _, _, rfl, _, _, rfl, rfl, ?_⟩
            have ly : ys.length = out.length := by rw [tp.length, List.length_map]
            have lo := cv.len
            refine ⟨.ref L, rfl, .inl ⟨rfl, _, SqL.of eL⟩, .str nm, rfl, .str rl, rfl, y, rfl, z, rfl, s5, fun p np => ?_⟩
            have npL : L ≠ p := fun z => by rw [← z, eL] at np; cases np
            have eL' : (upd H2 p (.tup [.str "rule", .str nm, .str rl, y, z])) L = some (.lst ys) := by
              rw [upd_ne npL]
              exact eL
            have tk1 : Tk H2 (upd (upd H2 p (.tup [.str "rule", .str nm, .str rl, y, z])) L (.lst (ys ++ [.ref p]))) := (Tk.new np).trans (Tk.lst eL')
            refine ⟨L, ys, .ref p, rfl, rfl, eL', small1000 (by omega), ⟨_, _, _, _, rfl⟩, fun a o h => ?_, ?_, ys ++ [.ref p], out ++ [.rule nm rl ts bd], upd_same, ?_, ?_⟩
            · rw [upd_ne (ne_of_none h nLH), upd_ne (ne_of_none (smq a o h) np)]
              exact smq a o h
            · rw [upd_ne nzL, upd_ne (ne_of_none eq np)]
              exact eq
            · rw [List.map_append]
              exact (tp.mono tk1).append (.cons (.tup (by rw [upd_ne npL.symm]; exact upd_same) (.cons (.str _) (.cons (.str _) (.cons (.str _) (.cons (ty.mono tk1) (.cons (tz.mono tk1) .nil)))))) .nil)
            · rw [take_next ez]
              exact cv.one (pw_take pz ez) b.srt b.ok hit rfl rfl (by decide)
        · obtain ⟨w1, w2, w3, ys, out, eL, tp, cv⟩ := hP
          rw [List.length_map, List.take_length] at cv
          refine ⟨w1, w2, ys, out, eL, tp, cv.next fun x hx k => ?_⟩
          cases x with
          | rel nm n => exact absurd (show (0 : Int) = 2 from k) (by decide)
          | fact nm ds => exact absurd (show (1 : Int) = 2 from k) (by decide)
          | rule nm a c e => exact per.mem_iff.mpr ((inK eun).mpr (u4 _ _ _ _ hx))
          | den nm a => exact absurd (show (3 : Int) = 2 from k) (by decide)
      · -- denials
        rintro σ H2 ⟨⟨x1, x3, x4, x5, rfl⟩, smH, ys, out, eL, tp, cv1⟩
        refine ⟨fun σ H' => (∃ x1 x3 x4 x5, σ = [some (.ref s), x1, some (.ref L), x3, x4, x5, none]) ∧ Same H H' ∧ ∃ ys out, H' L = some (.lst ys) ∧ Tps H' ys (out.map itD) ∧ Cov its 4 [] out, ?_, ?_⟩
        · refine ⟨.ref s, rfl, s, C, dx, _, _, rfl, smH _ _ b.hs, T.cl, T.nD, fl_den _ _ _ _, d, kd, dn, rfl, .of (smH _ _ b.hd), edn, by omega, fun zs zp per srt nzp => ?_⟩
          have pz := sorted_pw srt (per.nodup_iff.mpr nd')
          have sm1 : Same H2 (upd H2 zp (.lst (zs.map V.str))) := same_new nzp
          have nzL : zp ≠ L := fun z => by rw [z, eL] at nzp; cases nzp
          have eL1 := sm1 _ _ eL
          have tp1 := tp.mono (Tk.of sm1)
          have smH1 := smH.trans sm1
          have ezp : (upd H2 zp (.lst (zs.map V.str))) zp = some (.lst (zs.map V.str)) := upd_same
          revert eL1 tp1 smH1 ezp
          generalize upd H2 zp (.lst (zs.map V.str)) = H1
          intro eL1 tp1 smH1 ezp
          refine ⟨zp, rfl, ⟨_, SqL.of ezp⟩, ?_⟩
          refine for_list (K := K) (a := zp) (xs := zs.map V.str) (fun i σ H2 => (∃ x1 x3 x4 x5, σ = [some (.ref s), x1, some (.ref L), x3, x4, x5, none]) ∧ Same H H2 ∧ H2 zp = some (.lst (zs.map V.str)) ∧ ∃ ys out, H2 L = some (.lst ys) ∧ Tps H2 ys (out.map itD) ∧ Cov its 3 (zs.take i) out) ⟨⟨_, _, _, _, rfl⟩, smH1, ezp, ys, out, eL1, tp1, cv1⟩ (fun i σ H2 _ hP => SqL.of hP.2.2.1) (fun i x σ H2 hx hP => ?_) (fun σ H2 hP => ?_)
          · obtain ⟨⟨x1, x3, x4, x5, rfl⟩, smq, eq, ys, out, eL, tp, cv⟩ := hP
            rw [List.getElem?_map] at hx
            cases ez : zs[i]? with
            | none =>
              rw [ez] at hx
              cases hx
            | some nm =>
              rw [ez] at hx
              have hx : V.str nm = x := Option.some.inj hx
              subst hx
              obtain ⟨v, hm⟩ := (inK edn).mp (per.mem_iff.mp (List.mem_of_getElem? ez))
              obtain ⟨x', bd, e1, tv, hit⟩ := d3 _ _ hm
              injection e1 with e1
              subst e1
              have ly : ys.length = out.length := by rw [tp.length, List.length_map]
              have lo := cv.len
              refine ⟨.ref L, rfl, .inl ⟨rfl, _, SqL.of eL⟩, .str nm, rfl, .ref s, rfl, s, C, dx, _, _, rfl, smq _ _ b.hs, T.cl, T.nD, fl_den _ _ _ _, .str nm, rfl, d, v, rfl, (by rw [← (mem_val d1).mpr hm]; exact DGet.k (k := Sum.inr nm) (smq _ _ b.hd)), s3, fun p np => ?_⟩
              have npL : L ≠ p := fun z => by rw [← z, eL] at np; cases np
              have eL' : (upd H2 p (.tup [.str "denial", .str nm, v])) L = some (.lst ys) := by
                rw [upd_ne npL]
                exact eL
              have tk1 : Tk H2 (upd (upd H2 p (.tup [.str "denial", .str nm, v])) L (.lst (ys ++ [.ref p]))) := (Tk.new np).trans (Tk.lst eL')
              refine ⟨L, ys, .ref p, rfl, rfl, eL', small1000 (by omega), ⟨_, _, _, _, rfl⟩, fun a o h => ?_, ?_, ys ++ [.ref p], out ++ [.den nm bd], upd_same, ?_, ?_⟩
              · rw [upd_ne (ne_of_none h nLH), upd_ne (ne_of_none (smq a o h) np)]
                exact smq a o h
              · rw [upd_ne nzL, upd_ne (ne_of_none eq np)]
                exact eq
              · rw [List.map_append]
                exact (tp.mono tk1).append (.cons (.tup (by rw [upd_ne npL.symm]; exact upd_same) (.cons (.str _) (.cons (.str _) (.cons ((tv.mono (Tk.of smq)).mono tk1) .nil)))) .nil)
              · rw [take_next ez]
                exact cv.one (pw_take pz ez) b.srt b.ok hit rfl rfl (by decide)
          · obtain ⟨w1, w2, w3, ys, out, eL, tp, cv⟩ := hP
            rw [List.length_map, List.take_length] at cv
            refine ⟨w1, w2, ys, out, eL, tp, cv.next fun x hx k => ?_⟩
            cases x with
            | rel nm n => exact absurd (show (0 : Int) = 3 from k) (by decide)
            | fact nm ds => exact absurd (show (1 : Int) = 3 from k) (by decide)
            | rule nm a c e => exact absurd (show (2 : Int) = 3 from k) (by decide)
            | den nm a => exact per.mem_iff.mpr ((inK edn).mpr (d4 _ _ hx))
        · rintro σ H2 ⟨⟨x1, x3, x4, x5, rfl⟩, smH, ys, out, eL, tp, cv1⟩
          have eo := cv1.all b.srt b.ok
          rw [eo] at tp
          exact ⟨.ref L, rfl, q L ys H2 smH nLH eL tp⟩
end

end KV

namespace KV
open PySem PySem.Spec PyProof.Rows L2 KA
theorem key_new {its : List It1} (s : SortedI its) (o : OkL its) {j : Nat} {i : It1} (e : its[j]? = some i) : ∀ x ∈ its.take j, keyI x ≠ keyI i := fun x hx => by
  have h := sorted_keys s o
  obtain ⟨l, hl, e2⟩ := List.getElem_of_mem hx
  rw [List.length_take] at hl
  rw [List.getElem_take] at e2
  obtain ⟨hj, e3⟩ := List.getElem?_eq_some_iff.mp e
  have := List.pairwise_iff_getElem.mp h l j (by rw [List.length_map]; omega) (by rw [List.length_map]; exact hj) (by omega)
  rw [List.getElem_map, List.getElem_map, e2, e3] at this
  exact this
section
variable {P : Program} {w : World} {K : PySem.W.Frag} {mg : Str → Option Value} {base : Heap} {C : Addr}
abbrev mAll (P : Program) (w : World) (K : PySem.W.Frag) (mg : Str → Option Value) (base : Heap) (C : Addr) : Prop := MDef P w K mg base C "all_items" 1 ["self"] (spAll C)
end
end KV

namespace KV
open PySem PySem.Spec PyProof.Rows L2 KA
def spSame : Sp := fun vs H Q E => spSM 7 vs H Q E ∨ spSL 7 vs H Q E
theorem nice_key {i : It1} (h : okI i) : nice (kdI i) ∧ (kdI i).depth ≤ 2 := by
  obtain ⟨h1, h2⟩ := okI_key h
  refine ⟨n3 (nice_int _) (nice_str _) (nice_row h1 h2), dep3 (k := 1) (Nat.zero_le _) (Nat.zero_le _) ?_⟩
  show PyData.depthAll (keyI i).2.2 + 1 ≤ 1
  rw [atoms_depth h1]
  exact Nat.le_refl _
theorem kdI_inj {i j : It1} : kdI i = kdI j ↔ keyI i = keyI j := by
  constructor
  · intro h
    injection h with h
    injection h with h1 h
    injection h with h2 h
    injection h with h3 _
    injection h1 with h1
    injection h2 with h2
    injection h3 with h3
    exact Prod.ext h1 (Prod.ext h2 h3)
  · intro h
    show kd (keyI i).1 (keyI i).2.1 (keyI i).2.2 = kd (keyI j).1 (keyI j).2.1 (keyI j).2.2
    rw [h]
theorem eqv_key {i j : It1} (hi : okI i) (hj : okI j) : PyData.eqv (kdI i) (kdI j) = true ↔ keyI i = keyI j := (eqv_dec (nice_key hi).1 (nice_key hj).1).trans kdI_inj
def rNiL (K : PySem.W.Frag) : R2 := fun x y H Q => ∃ d ds, Dp K H x d ∧ Dp K H y (.list ds) ∧ d.plain = true ∧ PyData.plainAll ds = true ∧ d.depth ≤ 60 ∧ Q (.bl (!ds.any fun z => PyData.eqv z d)) H
theorem op_niL {X : Cx} (hu : X.A.units + 64 < cLine) : OpR X (compareOp .NotIn) (rNiL X.K) := by
  intro pins s σ H x y v u Q I rx ry h
  obtain ⟨d, ds, hd, he, pd, pe, se, q⟩ := h
  obtain ⟨as, r1⟩ := Dp.reads I d x v hd rx
  obtain ⟨bs, r2⟩ := Dp.reads I (.list ds) y u he ry
  refine SeqAt.notIn_list_data r2 r1 pe pd ?_ ⟨.bl _, H, I, rfl, q⟩
  have h2 : min (PyData.depthAll ds) d.depth ≤ d.depth := Nat.min_le_right _ _
  omega
theorem item_get {H : Hp} {xs : List V} {js : List It1} {i : Nat} {x : V} (t : Tps H xs (js.map itD)) (hx : xs[i]? = some x) : ∃ j, js[i]? = some j ∧ Tp H x (itD j) := by
  obtain ⟨dd, ed, td⟩ := t.get hx
  rw [List.getElem?_map] at ed
  cases ej : js[i]? with
  | none => rw [ej] at ed; cases ed
  | some j =>
    rw [ej] at ed
    have ed : itD j = dd := Option.some.inj ed
    exact ⟨j, rfl, by rw [ed]; exact td⟩
theorem ch_get {H : Hp} {xs : List V} {js : List Ch} {i : Nat} {x : V} (t : Tps H xs (js.map chD)) (hx : xs[i]? = some x) : ∃ j, js[i]? = some j ∧ Tp H x (chD j) := by
  obtain ⟨dd, ed, td⟩ := t.get hx
  rw [List.getElem?_map] at ed
  cases ej : js[i]? with
  | none => rw [ej] at ed; cases ed
  | some j =>
    rw [ej] at ed
    have ed : chD j = dd := Option.some.inj ed
    exact ⟨j, rfl, by rw [ed]; exact td⟩
theorem fil_yes {α : Type} {p : α → Bool} {l : List α} {x : α} (h : p x = true) : (l ++ [x]).filter p = l.filter p ++ [x] := by
  rw [List.filter_append, List.filter_cons_of_pos h, List.filter_nil]
theorem fil_no {α : Type} {p : α → Bool} {l : List α} {x : α} (h : ¬ p x = true) : (l ++ [x]).filter p = l.filter p := by
  rw [List.filter_append, List.filter_cons_of_neg h, List.filter_nil, List.append_nil]
section
variable {P : Program} {w : World} {K : PySem.W.Frag} {mg : Str → Option Value} {base : Heap} {C : Addr}
abbrev dLK (P : Program) (w : World) (K : PySem.W.Frag) (mg : Str → Option Value) (base : Heap) : Prop := Def P w K mg base "_law_key" 1 ["item"] spKO
abbrev dLO (P : Program) (w : World) (K : PySem.W.Frag) (mg : Str → Option Value) (base : Heap) : Prop := Def P w K mg base "_law_key_order" 3 ["first", "second"] spLO
abbrev dSame (P : Program) (w : World) (K : PySem.W.Frag) (mg : Str → Option Value) (base : Heap) : Prop := Def P w K mg base "_law_same" 9 ["actual", "expected"] spSame
/-! ### _law_placed -/
abbrev sPl : Stmt := topS 48
abbrev nPl : List Str := ["items", "item", "before", "behind", "other"]
theorem scPl : FnScope nPl ["items", "item"] (defScope sPl) := ⟨rfl, rfl, rfl, by decide +kernel, rfl, by decide +kernel, by decide +kernel⟩
def spPl : Sp := fun vs H Q _ => ∃ (a : Addr) (v : V) (i : It1) (js : List It1) (xs : List V), vs = [.ref a, v] ∧ H a = some (.lst xs) ∧ Tps H xs (js.map itD) ∧ Tp H v (itD i) ∧ OkL js ∧ okI i ∧ js.length ≤ 400 ∧
  ∀ L ys H', Same H H' → H L = none → H' L = some (.lst ys) → Tps H' ys ((putI js i).map itD) → Q (.ref L) H'
theorem ok_pl {f0 : Addr} {fd : FuncData} (F0 : Fun K "_law_placed" "_law_placed" sPl f0 fd) (DL : dLK P w K mg base) (DO : dLO P w K mg base) : FnOk P w K mg base CX0 4 f0 fd ["items", "item"] spPl := by
  refine F0.ok scPl (fun vs H Q E h => ?_) (fun cdv A outer s H vs Q E hr h => ?_)
  · obtain ⟨_, _, _, _, _, rfl, _⟩ := h
    rfl
  · obtain ⟨a, v, i, js, xs, rfl, ea, tx, tv, oj, oi, lj, q⟩ := h
    have r1 : Room 1 _ := hr.mono (by decide)
    refine ⟨_, pss_cons (ps_setLc (i := 2) (own := [("other", 4)]) (g := gName 4) (te := tVar 4) (by rfl) scPl.nd rfl rfl (sw_true rfl rfl rfl (by decide +kernel)) (pi_list (pv 0)) (blkOk_by (own := [("other", 4)]) (N := nPl) (sc := defScope sPl) (by decide +kernel))
        (fun _ _ _ _ _ => pg_name (i := 4) scPl.nd rfl (Or.inl rfl)) (fun _ _ _ _ _ => pts_one (pt_cmpR op_lt (pe_def DO hr (by rfl) (pa_cons (pe_def DL r1 (by rfl) (pa_cons (pv 4) pa_nil)) (pa_cons (pe_def DL r1 (by rfl) (pa_cons (pv 1) pa_nil)) pa_nil))) pe_int (nomark _))) (fun _ _ _ _ _ => pv 4))
      (pss_cons (ps_setLc (i := 3) (own := [("other", 4)]) (g := gName 4) (te := tVar 4) (by rfl) scPl.nd rfl rfl (sw_true rfl rfl rfl (by decide +kernel)) (pi_list (pv 0)) (blkOk_by (own := [("other", 4)]) (N := nPl) (sc := defScope sPl) (by decide +kernel))
        (fun _ _ _ _ _ => pg_name (i := 4) scPl.nd rfl (Or.inl rfl)) (fun _ _ _ _ _ => pts_one (pt_cmpR op_gt (pe_def DO hr (by rfl) (pa_cons (pe_def DL r1 (by rfl) (pa_cons (pv 4) pa_nil)) (pa_cons (pe_def DL r1 (by rfl) (pa_cons (pv 1) pa_nil)) pa_nil))) pe_int (nomark _))) (fun _ _ _ _ _ => pv 4))
      (pss_one (ps_ret (pe_op op_cat (pe_op op_cat (pv 2) (pe_lst (pa_cons (pv 1) pa_nil))) (pv 3))))), ?_⟩
    have lx : xs.length = js.length := by rw [tx.length, List.length_map]
    obtain ⟨ai, li⟩ := okI_key oi
    -- before
    refine ⟨.ref a, rfl, a, rfl, ⟨xs, SqL.of ea⟩, fun B nB => ?_⟩
    refine lc_it walk_list (fun k H' => (∀ b o, H b = some o → H' b = some o) ∧ ∃ ys, H' B = some (.lst ys) ∧ Tps H' ys (((js.take k).filter fun x => decide (kc (keyI x) (keyI i) < 0)).map itD)) ⟨same_new nB, [], upd_same, .nil⟩ (fun k H' _ hP => SqL.of (hP.1 _ _ ea)) (fun k x H' H2 hk hP hY => ?_) (fun H2 hP => ?_)
    · obtain ⟨rfl, hx⟩ := hY
      obtain ⟨sm, ys, eB, tp⟩ := hP
      obtain ⟨j, ej, tj⟩ := item_get tx hx
      have okj := oj j (List.mem_of_getElem? ej)
      obtain ⟨aj, lj2⟩ := okI_key okj
      refine ⟨rfl, ?_⟩
      refine ⟨x, rfl, x, j, rfl, tj.mono (Tk.of sm), okj, fun r3 H3 s3 t3 => ⟨v, rfl, v, i, rfl, (tv.mono (Tk.of sm)).mono (Tk.of s3), oi, fun r4 H4 s4 t4 => ?_⟩⟩
      refine ⟨_, _, _, _, _, _, _, _, rfl, t3.mono (Tk.of s4), t4, aj, ai, lj2, li, fun H5 s5 => ⟨_, _, rfl, rfl, _, rfl, ?_⟩⟩
      have sm5 : Same H2 H5 := s3.trans (s4.trans s5)
      have eB5 := sm5 _ _ eB
      have ly : ys.length ≤ k := by
        rw [tp.length, List.length_map]
        refine Nat.le_trans (List.length_filter_le _ _) ?_
        rw [List.length_take]
        omega
      refine ite2 (fun c => ?_) (fun c => ?_)
      · refine ⟨x, rfl, ys, eB5, small1000 (by omega), fun b o h => ?_, ys ++ [x], upd_same, ?_⟩
        · rw [upd_ne (ne_of_none h nB)]
          exact sm5 _ _ (sm _ _ h)
        · rw [take_next ej, fil_yes (p := fun x => decide (kc (keyI x) (keyI i) < 0)) (x := j) c, List.map_append]
          exact ((tp.mono (Tk.of sm5)).mono (Tk.lst eB5)).append (.cons ((tj.mono (Tk.of fun b o h => sm5 _ _ (sm b o h))).mono (Tk.lst eB5)) .nil)
      · refine ⟨fun b o h => sm5 _ _ (sm b o h), ys, eB5, ?_⟩
        rw [take_next ej, fil_no (p := fun x => decide (kc (keyI x) (keyI i) < 0)) (x := j) c]
        exact tp.mono (Tk.of sm5)
    obtain ⟨sm1, bs, eB, tB⟩ := hP
    rw [lx, List.take_length] at tB
    have sm1 : Same H H2 := sm1
    -- behind
    refine ⟨.ref a, rfl, a, rfl, ⟨xs, SqL.of (sm1 _ _ ea)⟩, fun D nD => ?_⟩
    have tx2 := tx.mono (Tk.of sm1)
    have tv2 := tv.mono (Tk.of sm1)
    refine lc_it walk_list (fun k H' => (∀ b o, H2 b = some o → H' b = some o) ∧ ∃ ys, H' D = some (.lst ys) ∧ Tps H' ys (((js.take k).filter fun x => decide (kc (keyI x) (keyI i) > 0)).map itD)) ⟨same_new nD, [], upd_same, .nil⟩ (fun k H' _ hP => SqL.of (hP.1 _ _ (sm1 _ _ ea))) (fun k x H' H3 hk hP hY => ?_) (fun H3 hP => ?_)
    · obtain ⟨rfl, hx⟩ := hY
      obtain ⟨sm, ys, eD, tp⟩ := hP
      obtain ⟨j, ej, tj⟩ := item_get tx2 hx
      have okj := oj j (List.mem_of_getElem? ej)
      obtain ⟨aj, lj2⟩ := okI_key okj
      refine ⟨rfl, ?_⟩
      refine ⟨x, rfl, x, j, rfl, tj.mono (Tk.of sm), okj, fun r3 H4 s3 t3 => ⟨v, rfl, v, i, rfl, (tv2.mono (Tk.of sm)).mono (Tk.of s3), oi, fun r4 H5 s4 t4 => ?_⟩⟩
      refine ⟨_, _, _, _, _, _, _, _, rfl, t3.mono (Tk.of s4), t4, aj, ai, lj2, li, fun H6 s5 => ⟨_, _, rfl, rfl, _, rfl, ?_⟩⟩
      have sm5 : Same H3 H6 := s3.trans (s4.trans s5)
      have eD5 := sm5 _ _ eD
      have ly : ys.length ≤ k := by
        rw [tp.length, List.length_map]
        refine Nat.le_trans (List.length_filter_le _ _) ?_
        rw [List.length_take]
        omega
      refine ite2 (fun c => ?_) (fun c => ?_)
      · refine ⟨x, rfl, ys, eD5, small1000 (by omega), fun b o h => ?_, ys ++ [x], upd_same, ?_⟩
        · rw [upd_ne (ne_of_none h nD)]
          exact sm5 _ _ (sm _ _ h)
        · rw [take_next ej, fil_yes (p := fun x => decide (kc (keyI x) (keyI i) > 0)) (x := j) c, List.map_append]
          exact ((tp.mono (Tk.of sm5)).mono (Tk.lst eD5)).append (.cons ((tj.mono (Tk.of fun b o h => sm5 _ _ (sm b o h))).mono (Tk.lst eD5)) .nil)
      · refine ⟨fun b o h => sm5 _ _ (sm b o h), ys, eD5, ?_⟩
        rw [take_next ej, fil_no (p := fun x => decide (kc (keyI x) (keyI i) > 0)) (x := j) c]
        exact tp.mono (Tk.of sm5)
    obtain ⟨sm3, ds, eD, tD⟩ := hP
    rw [lx, List.take_length] at tD
    have sm3 : Same H2 H3 := sm3
    have lb : bs.length ≤ js.length := by
      rw [tB.length, List.length_map]
      exact List.length_filter_le _ _
    have ld : ds.length ≤ js.length := by
      rw [tD.length, List.length_map]
      exact List.length_filter_le _ _
    refine ⟨.ref B, rfl, v, rfl, (by show 1 ≤ sizeLine; decide), fun o1 no1 => ?_⟩
    have st1 : Same H3 (upd H3 o1 (.lst [v])) := same_new no1
    refine ⟨B, o1, bs, [v], rfl, rfl, st1 _ _ (sm3 _ _ eB), upd_same, Nat.le_of_lt (small1000 (by rw [List.length_singleton]; omega)), fun o2 no2 => ?_⟩
    have st2 := st1.trans (same_new no2 (o := .lst (bs ++ [v])))
    refine ⟨.ref D, rfl, o2, D, bs ++ [v], ds, rfl, rfl, upd_same, st2 _ _ eD, Nat.le_of_lt (small1000 (by rw [List.length_append, List.length_singleton]; omega)), fun L nL => ?_⟩
    have st3 := st2.trans (same_new nL (o := .lst (bs ++ [v] ++ ds)))
    have smA : Same H _ := sm1.trans (sm3.trans st3)
    refine q L _ _ smA ((sm1.trans (sm3.trans st2)).free nL) upd_same ?_
    unfold putI
    rw [List.map_append, List.map_append]
    exact (((tB.mono (Tk.of (sm3.trans st3))).append (.cons (tv.mono (Tk.of smA)) .nil))).append (tD.mono (Tk.of st3))
end

end KV

namespace KV
open PySem PySem.Spec PyProof.Rows L2 KA
theorem sorted_nodup {l : List It1} (s : SortedI l) (o : OkL l) : l.Nodup := List.Pairwise.imp_of_mem (fun {a b} ha hb h z => key_ne h (okK_of (o b hb)) (by rw [z])) s
theorem putI_len {l : List It1} {i : It1} (s : SortedI l) (o : OkL l) (oi : okI i) : (putI l i).length ≤ l.length + 1 := by
  have h := nodup_le (m := i :: l) (sorted_nodup (sorted_putI s o oi) (ok_putI o oi)) fun x hx => by
    rcases (mem_putI o oi x).mp hx with e | h
    · rw [e]
      exact List.mem_cons_self
    · exact List.mem_cons_of_mem _ h.1
  rwa [List.length_cons] at h
theorem puts_ok : ∀ {js its : List It1}, OkL js → SortedI its → OkL its → SortedI (puts its js) ∧ OkL (puts its js) ∧ (puts its js).length ≤ its.length + js.length
  | [], its, _, s, o => ⟨s, o, Nat.le_refl _⟩
  | j :: js, its, oj, s, o => by
    have o1 : okI j := oj j List.mem_cons_self
    obtain ⟨h1, h2, h3⟩ := puts_ok (js := js) (its := putI its j) (fun i hi => oj i (List.mem_cons_of_mem _ hi)) (sorted_putI s o o1) (ok_putI o o1)
    have h4 := putI_len s o o1
    refine ⟨h1, h2, ?_⟩
    have e : puts its (j :: js) = puts (putI its j) js := rfl
    rw [e, List.length_cons]
    omega
theorem puts_take {js its : List It1} {k : Nat} {j : It1} (e : js[k]? = some j) : puts its (js.take (k + 1)) = putI (puts its (js.take k)) j := by
  unfold puts
  rw [take_next e, List.foldl_append]
  rfl
section
variable {P : Program} {w : World} {K : PySem.W.Frag} {mg : Str → Option Value} {base : Heap} {C : Addr}
abbrev dPl (P : Program) (w : World) (K : PySem.W.Frag) (mg : Str → Option Value) (base : Heap) : Prop := Def P w K mg base "_law_placed" 4 ["items", "item"] spPl
end
end KV

namespace KV
open PySem PySem.Spec PyProof.Rows L2 KA
/-- two values that read the same -/
def SameV (H : Hp) (v u : V) : Prop := (∃ d, Tp H v d ∧ Tp H u d ∧ nice d ∧ d.depth ≤ 7) ∨
  ∃ p r xs ys ds, v = .ref p ∧ u = .ref r ∧ H p = some (.lst xs) ∧ H r = some (.lst ys) ∧ Tps H xs ds ∧ Tps H ys ds ∧ niceAll ds ∧ PyData.depthAll ds ≤ 7 ∧ ds.length ≤ 1000
theorem SameV.mono {H H' : Hp} {v u : V} (h : SameV H v u) (k : Tk H H') (l : ∀ a xs, H a = some (.lst xs) → H' a = some (.lst xs)) : SameV H' v u := by
  rcases h with ⟨d, t1, t2, n, dd⟩ | ⟨p, r, xs, ys, ds, e1, e2, h1, h2, t1, t2, n, dd, ln⟩
  · exact .inl ⟨d, t1.mono k, t2.mono k, n, dd⟩
  · exact .inr ⟨p, r, xs, ys, ds, e1, e2, l _ _ h1, l _ _ h2, t1.mono k, t2.mono k, n, dd, ln⟩
theorem same_true {H : Hp} {Q : VK} {E : XK} {v u : V} (h : SameV H v u) (q : Q (.bl true) H) : spSame [v, u] H Q E := by
  rcases h with ⟨d, t1, t2, n, dd⟩ | ⟨p, r, xs, ys, ds, rfl, rfl, h1, h2, t1, t2, n, dd, ln⟩
  · exact .inl ⟨v, u, d, d, rfl, t1, t2, n, n, dd, by rw [nice_plain n]; exact q⟩
  · exact .inr ⟨p, r, xs, ys, ds, ds, rfl, h1, h2, t1, t2, n, n, dd, ln, by rw [nice_plain.all_plain n]; exact q⟩
section
variable {P : Program} {w : World} {K : PySem.W.Frag} {mg : Str → Option Value} {base : Heap} {C : Addr}
/-! ### _law_is_dict -/
abbrev sID : Stmt := topS 50
abbrev nID : List Str := ["actual", "expected", "key"]
theorem scID : FnScope nID ["actual", "expected"] (defScope sID) := ⟨rfl, rfl, rfl, by decide +kernel, rfl, by decide +kernel, by decide +kernel⟩
def spID : Sp := fun vs H Q _ => ∃ (a b : Addr) (ks ls : List (Key × V)), vs = [.ref a, .ref b] ∧ H a = some (.dK ks) ∧ H b = some (.dK ls) ∧ a ≠ b ∧ nd ls ∧ ks.length = ls.length ∧ ls.length ≤ 1000 ∧ (∀ k u, (k, u) ∈ ls → ∃ v, valV ks k = some v ∧ SameV H v u) ∧ ∀ H', Same H H' → Q (.bl true) H'
theorem ok_id {f0 : Addr} {fd : FuncData} (F0 : Fun K "_law_is_dict" "_law_is_dict" sID f0 fd) (B : Bt mg) (hdi : mg "dict" = none) (DS : dSame P w K mg base) : FnOk P w K mg base CX0 10 f0 fd ["actual", "expected"] spID := by
  refine F0.ok scID (fun vs H Q E h => ?_) (fun cdv A outer s H vs Q E hr h => ?_)
  · obtain ⟨_, _, _, _, rfl, _⟩ := h
    rfl
  · obtain ⟨a, b, ks, ls, rfl, ea, eb, nab, ndl, hl, l1000, hsame, q⟩ := h
    have hu := hu_of hr
    refine ⟨_, pss_cons (ps_if (PW.pt (pw_or (pt_not (pt_val (pe_callB call_isi (by rfl) B.isi (by decide +kernel) (pa_cons (pv 0) (pa_cons (pe_bltn (v := .ty "dict") (u := .type "dict") (by rfl) hdi (by decide +kernel) rfl) pa_nil)))))
          (pw_or1 (pt_cmpR op_ne (pe_callB call_lenD (by rfl) B.len PySem.boot_len (pa_cons (pv 0) pa_nil)) (pe_callB call_lenD (by rfl) B.len PySem.boot_len (pa_cons (pv 1) pa_nil)) (nomark _))))) (pss_one (ps_ret pe_bl)) pss_nil)
      (pss_one (ps_ret (pe_cmpR op_notIn_seq pe_bl (pe_lock (pe_lc (own := [("key", 2)]) (g := gName 2) (tt := tYes) (by rfl) scID.nd (pi_keys (pv 1)) (blkOk_by (own := [("key", 2)]) (N := nID) (sc := defScope sID) (by decide +kernel))
        (fun _ _ _ _ _ => pg_name (i := 2) scID.nd rfl (Or.inl rfl)) (fun _ _ _ _ _ => pts_nil)
        (fun _ _ _ _ _ => pe_and (pe_cmp (pc_din hu (pv 2) (pv 0))) (pe_one (pe_def DS hr (by rfl) (pa_cons (pe_dget hu (pv 0) (pv 2) (fun _ _ => rfl)) (pa_cons (pe_dget hu (pv 1) (pv 2) (fun _ _ => rfl)) pa_nil))))))) rfl))), ?_⟩
    refine ⟨.ref a, rfl, .ref a, .ty "dict", _, _, true, rfl, .ty "dict", .base (.dK ea), kit_ty (by decide +kernel), true, rfl, iteF ?_⟩
    refine ⟨.ref a, rfl, a, ks, rfl, ea, .ref b, rfl, b, ls, rfl, eb, rfl, _, rfl, ?_⟩
    rw [hl]
    refine iteNS rfl ?_
    refine ⟨b, _, eb, trivial, fun od => ?_⟩
    refine ⟨.ref b, rfl, b, od, rfl, .inl ⟨ls, upd_same, fun D nD => ?_⟩⟩
    have nDb : D ≠ b := fun z => by rw [z, upd_same] at nD; cases nD
    have nDH : H D = none := by rw [upd_ne nDb] at nD; exact nD
    refine lc_it walk_keys (fun i H' => H' b = some (.frz od (.dK ls)) ∧ (∀ c o, c ≠ b → H c = some o → H' c = some o) ∧ H' D = some (.lst (List.replicate i (.bl true)))) ⟨?_, ?_, upd_same⟩ (fun i H' _ hP => hP.1) (fun i x H' H2 hi hP hY => ?_) (fun H2 hP => ?_)
    · rw [upd_ne nDb.symm]
      exact upd_same
    · intro c o n h
      rw [upd_ne (ne_of_none h nDH), upd_ne n]
      exact h
    · obtain ⟨rfl, k, u, ek, rfl⟩ := hY
      obtain ⟨h1, h2, eD⟩ := hP
      have mk := List.mem_of_getElem? ek
      obtain ⟨v, hv, sv⟩ := hsame k u mk
      have ea2 := h2 a _ nab ea
      have tk2 : Tk H H2 := fun c xs h => h2 c _ (fun z => by rw [z, eb] at h; cases h) h
      have sv2 := sv.mono tk2 (fun c xs h => h2 c _ (fun z => by rw [z, eb] at h; cases h) h)
      refine ⟨rfl, ?_⟩
      refine iteT (B := True) ?_
      refine ⟨kV k, rfl, .ref a, rfl, a, _, rfl, DGet.k (k := k) ea2, ?_⟩
      rw [hv]
      refine ⟨true, rfl, iteT ?_⟩
      refine ⟨.ref a, rfl, kV k, rfl, a, v, rfl, by rw [← hv]; exact DGet.k (k := k) ea2, .ref b, rfl, kV k, rfl, b, u, rfl, .inl ⟨ls, k, .inr ⟨od, h1⟩, rfl, ((mem_val ndl).mpr mk).symm⟩, same_true sv2 ?_⟩
      refine ⟨_, eD, small1000 (by rw [List.length_replicate]; omega), ?_, fun c o n h => ?_, ?_⟩
      · rw [upd_ne nDb.symm]
        exact h1
      · rw [upd_ne (ne_of_none h nDH)]
        exact h2 c o n h
      · rw [upd_same, List.replicate_succ']
    · obtain ⟨h1, h2, eD⟩ := hP
      refine ⟨h1, ?_⟩
      refine ⟨D, _, rfl, .inl (SqL.of (by rw [upd_ne nDb]; exact eD)), rfl, ?_, ?_⟩
      · rw [List.all_eq_true]
        intro x hx
        rw [List.eq_of_mem_replicate hx]
        rfl
      · have e : inV (.bl false) (List.replicate ls.length (.bl true)) = false := by
          unfold inV
          rw [List.any_eq_false]
          intro x hx
          rw [List.eq_of_mem_replicate hx]
          decide
        rw [e]
        refine q _ fun c o h => ?_
        by_cases z : c = b
        · rw [z, eb] at h
          rw [z, upd_same, ← h]
        · rw [upd_ne z]
          exact h2 c o z h
end

end KV

namespace KV
open PySem PySem.Spec PyProof.Rows L2 KA
noncomputable def rowOf (nm : Str) : It1 → Option (List PyData)
  | .fact a ds => if a = nm then some ds else none
  | _ => none
noncomputable def rowsOf (js : List It1) (nm : Str) : List (List PyData) := js.filterMap (rowOf nm)
theorem rowOf_some {nm : Str} {j : It1} {ds : List PyData} : rowOf nm j = some ds ↔ j = .fact nm ds := by
  cases j with
  | fact a es =>
    show (if a = nm then some es else none) = some ds ↔ _
    by_cases c : a = nm
    · rw [if_pos c, c]
      exact ⟨fun h => (by injection h with h; rw [h]), fun h => (by injection h with _ h; rw [h])⟩
    · rw [if_neg c]
      exact ⟨fun h => (by cases h), fun h => (by injection h with h; exact absurd h c)⟩
  | rel a n => exact ⟨fun h => (by cases h), fun h => (by cases h)⟩
  | rule a b c d => exact ⟨fun h => (by cases h), fun h => (by cases h)⟩
  | den a b => exact ⟨fun h => (by cases h), fun h => (by cases h)⟩
theorem rows_mem {js : List It1} {nm : Str} {ds : List PyData} : ds ∈ rowsOf js nm ↔ It1.fact nm ds ∈ js := by
  unfold rowsOf
  rw [List.mem_filterMap]
  constructor
  · rintro ⟨j, hj, e⟩
    rw [rowOf_some] at e
    rw [← e]
    exact hj
  · intro h
    exact ⟨_, h, rowOf_some.mpr rfl⟩
theorem rows_snoc_yes {js : List It1} {nm : Str} {ds : List PyData} : rowsOf (js ++ [.fact nm ds]) nm = rowsOf js nm ++ [ds] := by
  unfold rowsOf
  rw [List.filterMap_append]
  congr 1
  show List.filterMap (rowOf nm) [It1.fact nm ds] = [ds]
  rw [List.filterMap_cons, rowOf_some.mpr rfl]
  rfl
theorem rows_snoc_no {js : List It1} {nm : Str} {j : It1} (h : ∀ ds, j ≠ .fact nm ds) : rowsOf (js ++ [j]) nm = rowsOf js nm := by
  unfold rowsOf
  rw [List.filterMap_append]
  have e : rowOf nm j = none := by
    cases c : rowOf nm j with
    | none => rfl
    | some ds => exact absurd (rowOf_some.mp c) (h ds)
  rw [List.filterMap_cons, e, List.filterMap_nil, List.append_nil]
theorem rows_sorted {nm : Str} : ∀ {js : List It1}, SortedI js → SortedR (rowsOf js nm)
  | [], _ => List.Pairwise.nil
  | j :: js, s => by
    obtain ⟨h1, h2⟩ := List.pairwise_cons.mp s
    have ih := rows_sorted (nm := nm) h2
    unfold rowsOf
    rw [List.filterMap_cons]
    cases c : rowOf nm j with
    | none => exact ih
    | some ds =>
      have ej := rowOf_some.mp c
      show SortedR (ds :: rowsOf js nm)
      unfold SortedR
      rw [List.pairwise_cons]
      refine ⟨fun es he => ?_, ih⟩
      have h := h1 _ (rows_mem.mp he)
      rw [ej] at h
      have h : kc (1, nm, ds) (1, nm, es) < 0 := h
      rw [kc_lt_iff] at h
      rcases h with h | ⟨_, h | ⟨_, h⟩⟩
      · exact absurd (show (1 : Int) < 1 from h) (by decide)
      · exact absurd h (List.lt_irrefl _)
      · exact h
theorem rows_unique {rs es : List (List PyData)} (s1 : SortedR rs) (s2 : SortedR es) (o1 : ∀ r ∈ rs, Atoms r ∧ r.length ≤ 1000) (m : ∀ ds, ds ∈ rs ↔ ds ∈ es) : rs = es := by
  have lift : ∀ {l : List (List PyData)}, SortedR l → SortedI (l.map (It1.fact ("x" : Str))) := fun {l} s => by
    unfold SortedI
    rw [List.pairwise_map]
    exact List.Pairwise.imp (R := fun a c => rord a c < 0) (fun {a c} (h : rord a c < 0) => (kc_lt_iff (a := (1, ("x" : Str), a)) (b := (1, ("x" : Str), c))).mpr (.inr ⟨rfl, .inr ⟨rfl, h⟩⟩)) s
  have e := sorted_ext (lift s1) (lift s2) (fun i hi => by
    obtain ⟨r, hr, rfl⟩ := List.mem_map.mp hi
    exact o1 r hr) (fun i hi => by
    obtain ⟨r, hr, rfl⟩ := List.mem_map.mp hi
    exact o1 r ((m r).mpr hr)) fun i => by
    rw [List.mem_map, List.mem_map]
    exact ⟨fun ⟨r, h, z⟩ => ⟨r, (m r).mp h, z⟩, fun ⟨r, h, z⟩ => ⟨r, (m r).mpr h, z⟩⟩
  exact (List.map_inj_right (f := It1.fact ("x" : Str)) fun a b h => by injection h).mp e
/-- the dict of facts that the law expects -/
def FX (H : Hp) (kf : List (Key × V)) (jr jf : List It1) (N : Nat) : Prop := nd kf ∧ kf.length ≤ N ∧ (∀ k v, (k, v) ∈ kf → ∃ nm l xs, k = Sum.inr nm ∧ v = .ref l ∧ H l = some (.lst xs) ∧ Tps H xs ((rowsOf jf nm).map PyData.tuple)) ∧
  ∀ nm, (∃ v, ((Sum.inr nm : Key), v) ∈ kf) ↔ ((∃ n, It1.rel nm n ∈ jr) ∨ ∃ ds, It1.fact nm ds ∈ jf)
theorem FX.mono {H H' : Hp} {kf : List (Key × V)} {jr jf : List It1} {N N' : Nat} (h : FX H kf jr jf N) (k : Tk H H') (l : ∀ a xs, H a = some (.lst xs) → H' a = some (.lst xs)) (n : N ≤ N') : FX H' kf jr jf N' := by
  obtain ⟨h1, h2, h3, h4⟩ := h
  refine ⟨h1, Nat.le_trans h2 n, fun k1 v m => ?_, h4⟩
  obtain ⟨nm, a, xs, e1, e2, e3, e4⟩ := h3 k1 v m
  exact ⟨nm, a, xs, e1, e2, l _ _ e3, e4.mono k⟩
theorem FX.skip {H : Hp} {kf : List (Key × V)} {jr jf jr' jf' : List It1} {N : Nat} (h : FX H kf jr jf N) (hr : ∀ nm n, It1.rel nm n ∈ jr' ↔ It1.rel nm n ∈ jr) (hf : ∀ nm, rowsOf jf' nm = rowsOf jf nm) : FX H kf jr' jf' N := by
  obtain ⟨h1, h2, h3, h4⟩ := h
  refine ⟨h1, h2, fun k1 v m => ?_, fun nm => ?_⟩
  · obtain ⟨nm, a, xs, e1, e2, e3, e4⟩ := h3 k1 v m
    exact ⟨nm, a, xs, e1, e2, e3, by rw [hf nm]; exact e4⟩
  · rw [h4 nm]
    have e : ∀ ds, It1.fact nm ds ∈ jf' ↔ It1.fact nm ds ∈ jf := fun ds => by rw [← rows_mem, ← rows_mem, hf nm]
    constructor
    · rintro (⟨n, z⟩ | ⟨ds, z⟩)
      · exact .inl ⟨n, (hr _ _).mpr z⟩
      · exact .inr ⟨ds, (e ds).mpr z⟩
    · rintro (⟨n, z⟩ | ⟨ds, z⟩)
      · exact .inl ⟨n, (hr _ _).mp z⟩
      · exact .inr ⟨ds, (e ds).mp z⟩
/-- a list under a name -/
theorem FX.put {H : Hp} {kf : List (Key × V)} {jr jf jr' jf' : List It1} {N : Nat} {nm : Str} {L : Addr} {ys : List V} (h : FX H kf jr jf N) (el : H L = some (.lst ys)) (tl : Tps H ys ((rowsOf jf' nm).map PyData.tuple)) (hf : ∀ x, x ≠ nm → rowsOf jf' x = rowsOf jf x)
    (hr : ∀ x, x ≠ nm → ∀ n, It1.rel x n ∈ jr' ↔ It1.rel x n ∈ jr) (hn : (∃ n, It1.rel nm n ∈ jr') ∨ ∃ ds, It1.fact nm ds ∈ jf') : FX H (putK kf (Sum.inr nm : Key) (.ref L)) jr' jf' (N + 1) := by
  obtain ⟨h1, h2, h3, h4⟩ := h
  refine ⟨nd_put h1 _ _, Nat.le_trans (length_putK _ _ _) (Nat.succ_le_succ h2), fun k1 v m => ?_, fun x => ?_⟩
  · rcases (mem_put h1).mp m with ⟨rfl, rfl⟩ | ⟨c, m⟩
    · exact ⟨nm, L, ys, rfl, rfl, el, tl⟩
    · obtain ⟨x, a, xs, rfl, e2, e3, e4⟩ := h3 k1 v m
      exact ⟨x, a, xs, rfl, e2, e3, by rw [hf x (fun z => c (by rw [z]))]; exact e4⟩
  · by_cases c : x = nm
    · rw [c]
      exact ⟨fun _ => hn, fun _ => ⟨_, (mem_put h1).mpr (.inl ⟨rfl, rfl⟩)⟩⟩
    · have e : ∀ ds, It1.fact x ds ∈ jf' ↔ It1.fact x ds ∈ jf := fun ds => by rw [← rows_mem, ← rows_mem, hf x c]
      have c' : (Sum.inr x : Key) ≠ Sum.inr nm := fun z => c (by injection z)
      constructor
      · rintro ⟨v, m⟩
        rcases (mem_put h1).mp m with ⟨z, _⟩ | ⟨_, m⟩
        · exact absurd z c'
        · rcases (h4 x).mp ⟨v, m⟩ with ⟨n, z⟩ | ⟨ds, z⟩
          · exact .inl ⟨n, (hr x c n).mpr z⟩
          · exact .inr ⟨ds, (e ds).mpr z⟩
      · intro z
        obtain ⟨v, m⟩ := (h4 x).mpr (by
          rcases z with ⟨n, z⟩ | ⟨ds, z⟩
          · exact .inl ⟨n, (hr x c n).mp z⟩
          · exact .inr ⟨ds, (e ds).mp z⟩)
        exact ⟨v, (mem_put h1).mpr (.inr ⟨c', m⟩)⟩
theorem mem_snoc {α : Type} {l : List α} {x y : α} (n : y ≠ x) : y ∈ l ++ [x] ↔ y ∈ l := by
  rw [List.mem_append, List.mem_singleton]
  exact ⟨fun h => h.elim id (fun z => absurd z n), .inl⟩
theorem RelOk.snoc {kr : List (Key × V)} {js : List It1} {N : Nat} (h : RelOk kr js N) {nm : Str} {n : Int} (u : ∀ m, It1.rel nm m ∉ js) : RelOk (putK kr (Sum.inr nm : Key) (.int n)) (js ++ [.rel nm n]) (N + 1) := by
  obtain ⟨h1, h2, h3⟩ := h
  refine ⟨nd_put h1 _ _, Nat.le_trans (length_putK _ _ _) (Nat.succ_le_succ h2), fun k v => ?_⟩
  rw [mem_put h1]
  constructor
  · rintro (⟨rfl, rfl⟩ | ⟨c, m⟩)
    · exact ⟨nm, n, rfl, rfl, List.mem_append_right _ List.mem_cons_self⟩
    · obtain ⟨x, i, e1, e2, e3⟩ := (h3 k v).mp m
      exact ⟨x, i, e1, e2, List.mem_append_left _ e3⟩
  · rintro ⟨x, i, rfl, rfl, m⟩
    rcases List.mem_append.mp m with m | m
    · exact .inr ⟨fun z => u i (by injection z with z; rw [← z]; exact m), (h3 _ _).mpr ⟨x, i, rfl, rfl, m⟩⟩
    · have := List.mem_singleton.mp m
      injection this with a b
      exact .inl ⟨by rw [a], by rw [b]⟩
theorem RulOk.snoc {H : Hp} {ku : List (Key × V)} {js : List It1} {N : Nat} (h : RulOk H ku js N) {nm rl : Str} {ts bd : PyData} {v : V} (u : ∀ a b c, It1.rule nm a b c ∉ js) (t : Tp H v (.tuple [.str rl, ts, bd])) : RulOk H (putK ku (Sum.inr nm : Key) v) (js ++ [.rule nm rl ts bd]) (N + 1) := by
  obtain ⟨h1, h2, h3, h4⟩ := h
  refine ⟨nd_put h1 _ _, Nat.le_trans (length_putK _ _ _) (Nat.succ_le_succ h2), fun k w m => ?_, fun x a b c m => ?_⟩
  · rcases (mem_put h1).mp m with ⟨rfl, rfl⟩ | ⟨_, m⟩
    · exact ⟨nm, rl, ts, bd, rfl, t, List.mem_append_right _ List.mem_cons_self⟩
    · obtain ⟨x, a, b, c, e1, e2, e3⟩ := h3 k w m
      exact ⟨x, a, b, c, e1, e2, List.mem_append_left _ e3⟩
  · rcases List.mem_append.mp m with m | m
    · obtain ⟨w, z⟩ := h4 _ _ _ _ m
      exact ⟨w, (mem_put h1).mpr (.inr ⟨fun y => u a b c (by injection y with y; rw [← y]; exact m), z⟩)⟩
    · have := List.mem_singleton.mp m
      injection this with e _
      exact ⟨v, (mem_put h1).mpr (.inl ⟨by rw [e], rfl⟩)⟩
theorem DenOk.snoc {H : Hp} {kd : List (Key × V)} {js : List It1} {N : Nat} (h : DenOk H kd js N) {nm : Str} {bd : PyData} {v : V} (u : ∀ a, It1.den nm a ∉ js) (t : Tp H v bd) : DenOk H (putK kd (Sum.inr nm : Key) v) (js ++ [.den nm bd]) (N + 1) := by
  obtain ⟨h1, h2, h3, h4⟩ := h
  refine ⟨nd_put h1 _ _, Nat.le_trans (length_putK _ _ _) (Nat.succ_le_succ h2), fun k w m => ?_, fun x a m => ?_⟩
  · rcases (mem_put h1).mp m with ⟨rfl, rfl⟩ | ⟨_, m⟩
    · exact ⟨nm, bd, rfl, t, List.mem_append_right _ List.mem_cons_self⟩
    · obtain ⟨x, a, e1, e2, e3⟩ := h3 k w m
      exact ⟨x, a, e1, e2, List.mem_append_left _ e3⟩
  · rcases List.mem_append.mp m with m | m
    · obtain ⟨w, z⟩ := h4 _ _ m
      exact ⟨w, (mem_put h1).mpr (.inr ⟨fun y => u a (by injection y with y; rw [← y]; exact m), z⟩)⟩
    · have := List.mem_singleton.mp m
      injection this with e _
      exact ⟨v, (mem_put h1).mpr (.inl ⟨by rw [e], rfl⟩)⟩
/-- two tables with the same keys have one length -/
theorem len_same {ks ls : List (Key × V)} (n1 : nd ks) (n2 : nd ls) (h : ∀ k, (∃ v, (k, v) ∈ ks) ↔ ∃ v, (k, v) ∈ ls) : ks.length = ls.length := by
  have le : ∀ {a b : List (Key × V)}, nd a → (∀ k, (∃ v, (k, v) ∈ a) → ∃ v, (k, v) ∈ b) → a.length ≤ b.length := fun {a b} na hh => by
    have := nodup_le (m := b.map (·.1)) na fun k hk => by
      obtain ⟨⟨k', v⟩, m, rfl⟩ := List.mem_map.mp hk
      obtain ⟨w, m2⟩ := hh k' ⟨v, m⟩
      exact List.mem_map.mpr ⟨_, m2, rfl⟩
    rwa [List.length_map, List.length_map] at this
  exact Nat.le_antisymm (le n1 fun k hk => (h k).mp hk) (le n2 fun k hk => (h k).mpr hk)

end KV

namespace KV
open PySem PySem.Spec PyProof.Rows L2 KA
theorem cut5 : ¬ (HT.sIx 5 0 (some 2) = 0 ∧ HT.sIx 5 5 none = 5) := by decide
theorem depthAll_le {n : Nat} : ∀ {ds : List PyData}, (∀ d ∈ ds, d.depth ≤ n) → PyData.depthAll ds ≤ n
  | [], _ => Nat.zero_le _
  | d :: ds, h => by
    have h1 := h d List.mem_cons_self
    have h2 := depthAll_le (ds := ds) fun x hx => h x (List.mem_cons_of_mem _ hx)
    show max d.depth (PyData.depthAll ds) ≤ n
    omega
theorem row_depth {ds : List PyData} (h : Atoms ds) : (PyData.tuple ds).depth ≤ 1 := by
  show PyData.depthAll ds + 1 ≤ 1
  rw [atoms_depth h]
  exact Nat.le_refl _
section
variable {P : Program} {w : World} {K : PySem.W.Frag} {mg : Str → Option Value} {base : Heap} {C : Addr}
abbrev dID (P : Program) (w : World) (K : PySem.W.Frag) (mg : Str → Option Value) (base : Heap) : Prop := Def P w K mg base "_law_is_dict" 10 ["actual", "expected"] spID
abbrev sSt : Stmt := topS 51
abbrev nSt : List Str := ["actual", "ordered", "relations", "facts", "rules", "denials", "item"]
theorem scSt : FnScope nSt ["actual", "ordered"] (defScope sSt) := ⟨rfl, rfl, rfl, by decide +kernel, rfl, by decide +kernel, by decide +kernel⟩
def spSt (C : Addr) : Sp := fun vs H Q _ => ∃ (s b : Addr) (its : List It1) (xs : List V) (F : Addr → Prop) (N : Nat), vs = [.ref s, .ref b] ∧ StAt C H s its F N ∧ N ≤ 1000 ∧ its.length ≤ 400 ∧ Few its ∧ H b = some (.lst xs) ∧ Tps H xs (its.map itD) ∧ ∀ H', Same H H' → Q (.bl true) H'
theorem ok_st {f0 : Addr} {fd : FuncData} (F0 : Fun K "_law_is_state" "_law_is_state" sSt f0 fd) (T : Cs K mg C) (DD : dID P w K mg base) (DS : dSame P w K mg base) (MA : mAll P w K mg base C) : FnOk P w K mg base CX0 11 f0 fd ["actual", "ordered"] (spSt C) := by
  refine F0.ok scSt (fun vs H Q E h => ?_) (fun cdv A outer s0 H vs Q E hr h => ?_)
  · obtain ⟨_, _, _, _, _, _, rfl, _⟩ := h
    rfl
  · obtain ⟨s, b, its, xs, F, N, rfl, S, hN, h64, hfew, eb, tx, q⟩ := h
    have hu := hu_of hr
    have r1 : Room 1 _ := hr.mono (by decide)
    have r9 : Room 9 _ := hr.mono (by decide)
    refine ⟨_, pss_cons (ps_asg (pe_tup (pa_cons pe_dnewK (pa_cons pe_dnewK (pa_cons pe_dnewK (pa_cons pe_dnewK pa_nil))))) (pg_tup rfl (pgs_cons (pg_name (i := 2) scSt.nd rfl (.inl rfl)) (pgs_cons (pg_name (i := 3) scSt.nd rfl (.inl rfl)) (pgs_cons (pg_name (i := 4) scSt.nd rfl (.inl rfl)) (pgs_cons (pg_name (i := 5) scSt.nd rfl (.inl rfl)) pgs_nil))))))
      (C8.pss_cut (ps_for PassesOwn.never rfl (pi_list (pv 1)) (pg_name (i := 6) scSt.nd rfl (.inl rfl))
        (pss_one (ps_if (pt_cmpR op_eq (pe_ix ix_tup (pv 6) pe_int (fun _ _ => rfl)) pe_str (nomark _))
          (pss_cons (ps_dput hu (pv 2) (pe_ix ix_tup (pv 6) pe_int (fun _ _ => rfl)) (pe_ix ix_tup (pv 6) pe_int (fun _ _ => rfl)) rfl)
          (pss_one (ps_dput hu (pv 3) (pe_ix ix_tup (pv 6) pe_int (fun _ _ => rfl)) (pe_lst pa_nil) rfl))) pss_nil)))
      (C8.pss_cut (ps_for PassesOwn.never rfl (pi_list (pv 1)) (pg_name (i := 6) scSt.nd rfl (.inl rfl))
        (pss_cons (ps_if (pt_cmpR op_eq (pe_ix ix_tup (pv 6) pe_int (fun _ _ => rfl)) pe_str (nomark _))
          (pss_one (ps_dput hu (pv 3) (pe_ix ix_tup (pv 6) pe_int (fun _ _ => rfl)) (pe_op op_cat (pe_dget2 hu (pv 3) (pe_ix ix_tup (pv 6) pe_int (fun _ _ => rfl)) (pe_lst pa_nil) ⟨rfl, rfl, rfl, rfl⟩) (pe_lst (pa_cons (pe_ix ix_tup (pv 6) pe_int (fun _ _ => rfl)) pa_nil))) rfl)) pss_nil)
        (pss_cons (ps_if (pt_cmpR op_eq (pe_ix ix_tup (pv 6) pe_int (fun _ _ => rfl)) pe_str (nomark _))
          (pss_one (ps_dput hu (pv 4) (pe_ix ix_tup (pv 6) pe_int (fun _ _ => rfl)) (pe_slice sl_tup (pv 6) (po_some pe_int) po_none) rfl)) pss_nil)
        (pss_one (ps_if (pt_cmpR op_eq (pe_ix ix_tup (pv 6) pe_int (fun _ _ => rfl)) pe_str (nomark _))
          (pss_one (ps_dput hu (pv 5) (pe_ix ix_tup (pv 6) pe_int (fun _ _ => rfl)) (pe_ix ix_tup (pv 6) pe_int (fun _ _ => rfl)) rfl)) pss_nil)))))
      (pss_cons (ps_if (PW.pt (pw_or (pt_not (pt_val (pe_def DD hr (by rfl) (pa_cons (pe_fld (pv 0) rfl) (pa_cons (pv 2) pa_nil))))) (pw_or1 (pt_not (pt_val (pe_def DD hr (by rfl) (pa_cons (pe_fld (pv 0) rfl) (pa_cons (pv 3) pa_nil)))))))) (pss_one (ps_ret pe_bl)) pss_nil)
      (pss_cons (ps_if (PW.pt (pw_or (pt_not (pt_val (pe_def DD hr (by rfl) (pa_cons (pe_fld (pv 0) rfl) (pa_cons (pv 4) pa_nil))))) (pw_or1 (pt_not (pt_val (pe_def DD hr (by rfl) (pa_cons (pe_fld (pv 0) rfl) (pa_cons (pv 5) pa_nil)))))))) (pss_one (ps_ret pe_bl)) pss_nil)
      (pss_one (ps_ret (pe_def DS r9 (by rfl) (pa_cons (pe_mdef0 MA (pv 0) T.cl r1) (pa_cons (pv 1) pa_nil))))))))), ?_⟩
    obtain ⟨dx, r, f, u, d, kr, kf, ku, kd, bb⟩ := id S
    have lx : xs.length = its.length := by rw [tx.length, List.length_map]
    -- four new dicts
    intro R nR
    intro Fd nF
    intro U nU
    intro D nD
    refine ⟨(by show 4 ≤ sizeLine; decide), fun t nt => ?_⟩
    refine ⟨t, _, rfl, SqT.of upd_same, rfl, _, _, rfl, _, _, rfl, _, _, rfl, _, _, rfl, rfl, ?_⟩
    have sR := same_new (o := .dK []) nR
    have sF := sR.trans (same_new (o := .dK []) nF)
    have sU := sF.trans (same_new (o := .dK []) nU)
    have sD := sU.trans (same_new (o := .dK []) nD)
    have sT := sD.trans (same_new (o := .tup [.ref R, .ref Fd, .ref U, .ref D]) nt)
    have eR : (upd (upd (upd (upd (upd H R (.dK [])) Fd (.dK [])) U (.dK [])) D (.dK [])) t (.tup [.ref R, .ref Fd, .ref U, .ref D])) R = some (.dK []) := (same_new nt) _ _ ((same_new nD) _ _ ((same_new nU) _ _ ((same_new nF) _ _ upd_same)))
    have eF : (upd (upd (upd (upd (upd H R (.dK [])) Fd (.dK [])) U (.dK [])) D (.dK [])) t (.tup [.ref R, .ref Fd, .ref U, .ref D])) Fd = some (.dK []) := (same_new nt) _ _ ((same_new nD) _ _ ((same_new nU) _ _ upd_same))
    have eU : (upd (upd (upd (upd (upd H R (.dK [])) Fd (.dK [])) U (.dK [])) D (.dK [])) t (.tup [.ref R, .ref Fd, .ref U, .ref D])) U = some (.dK []) := (same_new nt) _ _ ((same_new nD) _ _ upd_same)
    have eD : (upd (upd (upd (upd (upd H R (.dK [])) Fd (.dK [])) U (.dK [])) D (.dK [])) t (.tup [.ref R, .ref Fd, .ref U, .ref D])) D = some (.dK []) := (same_new nt) _ _ upd_same
    have RF : R ≠ Fd := ne_of_none (upd_same (H := H) (a := R) (o := .dK [])) nF
    have RU : R ≠ U := ne_of_none ((same_new nF) _ _ (upd_same (H := H) (a := R) (o := .dK []))) nU
    have RD : R ≠ D := ne_of_none ((same_new nU) _ _ ((same_new nF) _ _ (upd_same (H := H) (a := R) (o := .dK [])))) nD
    have FU : Fd ≠ U := ne_of_none (upd_same (H := upd H R (.dK [])) (a := Fd) (o := .dK [])) nU
    have FD : Fd ≠ D := ne_of_none ((same_new nU) _ _ (upd_same (H := upd H R (.dK [])) (a := Fd) (o := .dK []))) nD
    have UD : U ≠ D := ne_of_none (upd_same (H := upd (upd H R (.dK [])) Fd (.dK [])) (a := U) (o := .dK [])) nD
    have nFH : H Fd = none := sR.free nF
    have nUH : H U = none := sF.free nU
    have nDH : H D = none := sU.free nD
    clear sR sF sU sD nF nU nD nt
    revert sT eR eF eU eD
    generalize upd (upd (upd (upd (upd H R (.dK [])) Fd (.dK [])) U (.dK [])) D (.dK [])) t (.tup [.ref R, .ref Fd, .ref U, .ref D]) = H0
    intro sT eR eF eU eD
    have nil0 : nd ([] : List (Key × V)) := List.nodup_nil
    -- what stands behind each loop
    have keepR : ∀ {H1 : Hp} {a0 : Addr} {o : HO}, Same H H1 → H a0 = none → Same H (upd H1 a0 o) := fun sm n => same_put sm n
    refine ⟨fun σ H1 => (∃ x6, σ = [some (.ref s), some (.ref b), some (.ref R), some (.ref Fd), some (.ref U), some (.ref D), x6]) ∧ Same H H1 ∧ H1 U = some (.dK []) ∧ H1 D = some (.dK []) ∧ (∃ ls, H1 R = some (.dK ls) ∧ RelOk ls its its.length) ∧ ∃ ls, H1 Fd = some (.dK ls) ∧ FX H1 ls its [] its.length, ?_, ?_⟩
    · refine ⟨.ref b, rfl, b, rfl, ⟨xs, SqL.of (sT _ _ eb)⟩, ?_⟩
      refine for_list (K := K) (a := b) (xs := xs) (fun i σ H1 => (∃ x6, σ = [some (.ref s), some (.ref b), some (.ref R), some (.ref Fd), some (.ref U), some (.ref D), x6]) ∧ Same H H1 ∧ H1 U = some (.dK []) ∧ H1 D = some (.dK []) ∧ (∃ ls, H1 R = some (.dK ls) ∧ RelOk ls (its.take i) i) ∧ ∃ ls, H1 Fd = some (.dK ls) ∧ FX H1 ls (its.take i) [] i)
        ⟨⟨none, rfl⟩, sT, eU, eD, ⟨[], eR, nil0, Nat.le_refl _, fun k v => ⟨fun h => (by cases h), fun ⟨_, _, _, _, h⟩ => (by cases h)⟩⟩, [], eF, nil0, Nat.le_refl _, (fun k v h => by cases h), fun nm => ⟨fun ⟨_, h⟩ => (by cases h), fun h => by rcases h with ⟨_, h⟩ | ⟨_, h⟩ <;> cases h⟩⟩
        (fun i σ H1 _ hP => SqL.of (hP.2.1 _ _ eb)) (fun i x σ H1 hx hP => ?_) (fun σ H1 hP => ?_)
      · obtain ⟨⟨x6, rfl⟩, sm, e3, e4, ⟨lr, e1, rok⟩, lf, e2, fok⟩ := hP
        obtain ⟨j, ej, tj⟩ := item_get tx hx
        have hi : i < its.length := (List.getElem?_eq_some_iff.mp ej).1
        have tj := tj.mono (Tk.of sm)
        cases j with
        | rel nm n =>
          obtain ⟨p, rfl, ep⟩ := inv3i tj
          refine ⟨.ref p, rfl, p, _, 0, .str "relation", rfl, rfl, SqT.of ep, rfl, rfl, _, rfl, yes_if ?_⟩
          refine ⟨.ref p, rfl, p, _, 2, .int n, rfl, rfl, SqT.of ep, rfl, .ref R, rfl, .ref p, rfl, p, _, 1, .str nm, rfl, rfl, SqT.of ep, rfl, R, _, rfl, DPut.k (k := Sum.inr nm) e1 (small1000 (by have := rok.2.1; omega)), ?_⟩
          have uq : ∀ m, It1.rel nm m ∉ its.take i := fun m h => key_new bb.srt bb.ok ej _ h rfl
          have sm1 : Same H (upd H1 R (.dK (putK lr (Sum.inr nm : Key) (.int n)))) := keepR sm nR
          have tk1 : Tk H1 (upd H1 R (.dK (putK lr (Sum.inr nm : Key) (.int n)))) := fun a ys h => by
            rw [upd_ne (fun z => by rw [z, e1] at h; cases h)]
            exact h
          have ll1 : ∀ a ys, H1 a = some (.lst ys) → (upd H1 R (.dK (putK lr (Sum.inr nm : Key) (.int n)))) a = some (.lst ys) := fun a ys h => by
            rw [upd_ne (lst_ne h e1)]
            exact h
          have e2' : (upd H1 R (.dK (putK lr (Sum.inr nm : Key) (.int n)))) Fd = some (.dK lf) := by rw [upd_ne RF.symm]; exact e2
          have e3' : (upd H1 R (.dK (putK lr (Sum.inr nm : Key) (.int n)))) U = some (.dK []) := by rw [upd_ne RU.symm]; exact e3
          have e4' : (upd H1 R (.dK (putK lr (Sum.inr nm : Key) (.int n)))) D = some (.dK []) := by rw [upd_ne RD.symm]; exact e4
          have e1' : (upd H1 R (.dK (putK lr (Sum.inr nm : Key) (.int n)))) R = some (.dK (putK lr (Sum.inr nm : Key) (.int n))) := upd_same
          have ep' := tk1 _ _ ep
          have fok' := fok.mono tk1 ll1 (Nat.le_refl _)
          revert sm1 e1' e2' e3' e4' ep' fok'
          generalize upd H1 R (.dK (putK lr (Sum.inr nm : Key) (.int n))) = H2
          intro sm1 e2' e3' e4' e1' ep' fok'
          refine ⟨Nat.zero_le _, fun L nL => ?_⟩
          have s2 : Same H2 (upd H2 L (.lst [])) := same_new nL
          refine ⟨.ref Fd, rfl, .ref p, rfl, p, _, 1, .str nm, rfl, rfl, SqT.of (s2 _ _ ep'), rfl, Fd, _, rfl, DPut.k (k := Sum.inr nm) (s2 _ _ e2') (small1000 (by have := fok.2.1; omega)), ?_⟩
          have fok2 := (fok'.mono (Tk.of s2) (fun a ys h => s2 _ _ h) (Nat.le_refl _)).put (jr' := its.take (i + 1)) (jf' := []) (nm := nm) (L := L) (ys := []) upd_same .nil (fun _ _ => rfl) (fun y c m => by rw [take_next ej]; exact mem_snoc (fun z => c (by injection z))) (.inl ⟨n, by rw [take_next ej]; exact List.mem_append_right _ List.mem_cons_self⟩)
          have eF2 := s2 _ _ e2'
          have tk3 : Tk (upd H2 L (.lst [])) (upd (upd H2 L (.lst [])) Fd (.dK (putK lf (Sum.inr nm : Key) (.ref L)))) := fun a ys h => by
            rw [upd_ne (fun z => by rw [z, eF2] at h; cases h)]
            exact h
          refine ⟨⟨_, rfl⟩, keepR (sm1.trans s2) nFH, ?_, ?_, ⟨putK lr (Sum.inr nm : Key) (.int n), ?_, ?_⟩, _, upd_same, fok2.mono tk3 (fun a ys h => by rw [upd_ne (lst_ne h eF2)]; exact h) (Nat.le_refl _)⟩
          · rw [upd_ne FU.symm]
            exact s2 _ _ e3'
          · rw [upd_ne FD.symm]
            exact s2 _ _ e4'
          · rw [upd_ne RF]
            exact s2 _ _ e1'
          · rw [take_next ej]
            exact rok.snoc uq
        | fact nm ds =>
          obtain ⟨p, rfl, y, ep, ty⟩ := inv3 tj
          refine ⟨.ref p, rfl, p, _, 0, .str "fact", rfl, rfl, SqT.of ep, rfl, rfl, _, rfl, no_if (by decide +kernel) ?_⟩
          rw [take_next ej]
          exact ⟨⟨_, rfl⟩, sm, e3, e4, ⟨lr, e1, rok.to (Nat.le_succ _) fun a m => mem_snoc (fun z => by cases z)⟩, lf, e2, (fok.mono (Tk.refl _) (fun _ _ h => h) (Nat.le_succ _)).skip (fun a m => mem_snoc (fun z => by cases z)) (fun _ => rfl)⟩
        | rule nm rl ts bd =>
          obtain ⟨p, rfl, y, z, ep, ty, tz⟩ := inv5t tj
          refine ⟨.ref p, rfl, p, _, 0, .str "rule", rfl, rfl, SqT.of ep, rfl, rfl, _, rfl, no_if (by decide +kernel) ?_⟩
          rw [take_next ej]
          exact ⟨⟨_, rfl⟩, sm, e3, e4, ⟨lr, e1, rok.to (Nat.le_succ _) fun a m => mem_snoc (fun z => by cases z)⟩, lf, e2, (fok.mono (Tk.refl _) (fun _ _ h => h) (Nat.le_succ _)).skip (fun a m => mem_snoc (fun z => by cases z)) (fun _ => rfl)⟩
        | den nm bd =>
          obtain ⟨p, rfl, y, ep, ty⟩ := inv3 tj
          refine ⟨.ref p, rfl, p, _, 0, .str "denial", rfl, rfl, SqT.of ep, rfl, rfl, _, rfl, no_if (by decide +kernel) ?_⟩
          rw [take_next ej]
          exact ⟨⟨_, rfl⟩, sm, e3, e4, ⟨lr, e1, rok.to (Nat.le_succ _) fun a m => mem_snoc (fun z => by cases z)⟩, lf, e2, (fok.mono (Tk.refl _) (fun _ _ h => h) (Nat.le_succ _)).skip (fun a m => mem_snoc (fun z => by cases z)) (fun _ => rfl)⟩
      · rw [lx, List.take_length] at hP
        exact hP
    · clear sT eR eF eU eD
      rintro σ H0 ⟨⟨x6, rfl⟩, sT, eU, eD, ⟨lr, eR, rok⟩, lf, eF, fok⟩
      refine ⟨fun σ H1 => (∃ x6, σ = [some (.ref s), some (.ref b), some (.ref R), some (.ref Fd), some (.ref U), some (.ref D), x6]) ∧ Same H H1 ∧ (∃ ls, H1 R = some (.dK ls) ∧ RelOk ls its its.length) ∧ (∃ ls, H1 Fd = some (.dK ls) ∧ FX H1 ls its its (its.length + its.length)) ∧ (∃ ls, H1 U = some (.dK ls) ∧ RulOk H1 ls its its.length) ∧ ∃ ls, H1 D = some (.dK ls) ∧ DenOk H1 ls its its.length, ?_, ?_⟩
      · refine ⟨.ref b, rfl, b, rfl, ⟨xs, SqL.of (sT _ _ eb)⟩, ?_⟩
        refine for_list (K := K) (a := b) (xs := xs) (fun i σ H1 => (∃ x6, σ = [some (.ref s), some (.ref b), some (.ref R), some (.ref Fd), some (.ref U), some (.ref D), x6]) ∧ Same H H1 ∧ H1 R = some (.dK lr) ∧ (∃ ls, H1 Fd = some (.dK ls) ∧ FX H1 ls its (its.take i) (its.length + i)) ∧ (∃ ls, H1 U = some (.dK ls) ∧ RulOk H1 ls (its.take i) i) ∧ ∃ ls, H1 D = some (.dK ls) ∧ DenOk H1 ls (its.take i) i)
          ⟨⟨_, rfl⟩, sT, eR, ⟨lf, eF, fok⟩, ⟨[], eU, nil0, Nat.le_refl _, (fun k v h => by cases h), fun _ _ _ _ h => by cases h⟩, [], eD, nil0, Nat.le_refl _, (fun k v h => by cases h), fun _ _ h => by cases h⟩
          (fun i σ H1 _ hP => SqL.of (hP.2.1 _ _ eb)) (fun i x σ H1 hx hP => ?_) (fun σ H1 hP => ?_)
        · obtain ⟨⟨x6, rfl⟩, sm, e1, ⟨lf, e2, fok⟩, ⟨lu, e3, uok⟩, ld, e4, dok⟩ := hP
          obtain ⟨j, ej, tj⟩ := item_get tx hx
          have hi : i < its.length := (List.getElem?_eq_some_iff.mp ej).1
          have tj := tj.mono (Tk.of sm)
          have uq := key_new bb.srt bb.ok ej
          cases j with
          | rel nm n =>
            obtain ⟨p, rfl, ep⟩ := inv3i tj
            refine ⟨.ref p, rfl, p, _, 0, .str "relation", rfl, rfl, SqT.of ep, rfl, rfl, _, rfl, no_if (by decide +kernel) ?_⟩
            refine ⟨.ref p, rfl, p, _, 0, .str "relation", rfl, rfl, SqT.of ep, rfl, rfl, _, rfl, no_if (by decide +kernel) ?_⟩
            refine ⟨.ref p, rfl, p, _, 0, .str "relation", rfl, rfl, SqT.of ep, rfl, rfl, _, rfl, no_if (by decide +kernel) ?_⟩
            rw [take_next ej]
            exact ⟨⟨_, rfl⟩, sm, e1, ⟨lf, e2, (fok.mono (Tk.refl _) (fun _ _ h => h) (Nat.le_succ _)).skip (fun _ _ => Iff.rfl) (fun _ => rows_snoc_no (fun ds z => by cases z))⟩, ⟨lu, e3, uok.to (Tk.refl _) (Nat.le_succ _) fun _ _ _ _ => mem_snoc (fun z => by cases z)⟩, ld, e4, dok.to (Tk.refl _) (Nat.le_succ _) fun _ _ => mem_snoc (fun z => by cases z)⟩
          | fact nm ds =>
            obtain ⟨p, rfl, y, ep, ty⟩ := inv3 tj
            refine ⟨.ref p, rfl, p, _, 0, .str "fact", rfl, rfl, SqT.of ep, rfl, rfl, _, rfl, yes_if ?_⟩
            refine ⟨.ref Fd, rfl, Fd, rfl, .inl ⟨lf, .of e2⟩, .ref p, rfl, p, _, 1, .str nm, rfl, rfl, SqT.of ep, rfl, Nat.zero_le _, fun t nt => ?_⟩
            have s1 : Same H1 (upd H1 t (.lst [])) := same_new nt
            refine ⟨_, DGet.k (k := Sum.inr nm) (s1 _ _ e2), ?_⟩
            -- behind the get
            have fin : ∀ (l : Addr) (ys : List V), (upd H1 t (.lst [])) l = some (.lst ys) → Tps (upd H1 t (.lst [])) ys ((rowsOf (its.take i) nm).map PyData.tuple) → ys.length ≤ 400 →
                ∃ v : V, ([some (V.ref s), some (V.ref b), some (V.ref R), some (V.ref Fd), some (V.ref U), some (V.ref D), some (V.ref p)] : List (Option V))[6]? = some (some v) ∧ ∃ a xs' i' x', v = .ref a ∧ V.int 2 = .int i' ∧ True := fun _ _ _ _ _ => ⟨_, rfl, p, ([] : List V), 2, V.non, rfl, rfl, trivial⟩
            have go : ∀ (l : Addr) (ys : List V), (upd H1 t (.lst [])) l = some (.lst ys) → Tps (upd H1 t (.lst [])) ys ((rowsOf (its.take i) nm).map PyData.tuple) → ys.length ≤ 400 → ∀ o1, (upd H1 t (.lst [])) o1 = none → ∀ L, (upd (upd H1 t (.lst [])) o1 (.lst [y])) L = none →
                FX (upd (upd (upd (upd H1 t (.lst [])) o1 (.lst [y])) L (.lst (ys ++ [y]))) Fd (.dK (putK lf (Sum.inr nm : Key) (.ref L)))) (putK lf (Sum.inr nm : Key) (.ref L)) its (its.take (i + 1)) (its.length + (i + 1)) ∧
                Same H (upd (upd (upd (upd H1 t (.lst [])) o1 (.lst [y])) L (.lst (ys ++ [y]))) Fd (.dK (putK lf (Sum.inr nm : Key) (.ref L)))) ∧ Same H1 (upd (upd (upd H1 t (.lst [])) o1 (.lst [y])) L (.lst (ys ++ [y]))) := fun l ys el ty2 hl o1 no1 L nL => by
              have s2 := same_new (o := .lst [y]) no1
              have s3 := same_new (o := .lst (ys ++ [y])) nL
              have s13 := s1.trans (s2.trans s3)
              have e23 := s13 _ _ e2
              have tk4 : Tk (upd (upd (upd H1 t (.lst [])) o1 (.lst [y])) L (.lst (ys ++ [y]))) (upd (upd (upd (upd H1 t (.lst [])) o1 (.lst [y])) L (.lst (ys ++ [y]))) Fd (.dK (putK lf (Sum.inr nm : Key) (.ref L)))) := fun a zs h => by
                rw [upd_ne (fun z => by rw [z, e23] at h; cases h)]
                exact h
              have ll4 : ∀ a zs, (upd (upd (upd H1 t (.lst [])) o1 (.lst [y])) L (.lst (ys ++ [y]))) a = some (.lst zs) → (upd (upd (upd (upd H1 t (.lst [])) o1 (.lst [y])) L (.lst (ys ++ [y]))) Fd (.dK (putK lf (Sum.inr nm : Key) (.ref L)))) a = some (.lst zs) := fun a zs h => by
                rw [upd_ne (lst_ne h e23)]
                exact h
              refine ⟨?_, keepR (sm.trans s13) nFH, s13⟩
              refine FX.mono (N := its.length + i + 1) ((fok.mono (Tk.of s13) (fun _ _ h => s13 _ _ h) (Nat.le_refl _)).put (nm := nm) (L := L) (ys := ys ++ [y]) upd_same ?_ (fun x c => by rw [take_next ej]; exact rows_snoc_no (fun ds' z => c (by injection z with z; exact z.symm))) (fun _ _ _ => Iff.rfl) (.inr ⟨ds, by rw [take_next ej]; exact List.mem_append_right _ List.mem_cons_self⟩)) tk4 ll4 (by omega)
              rw [take_next ej, rows_snoc_yes, List.map_append]
              exact (ty2.mono (Tk.of (s2.trans s3))).append (.cons (ty.mono (Tk.of s13)) .nil)
            have rest : ∀ (l : Addr) (ys : List V), (upd H1 t (.lst [])) l = some (.lst ys) → Tps (upd H1 t (.lst [])) ys ((rowsOf (its.take i) nm).map PyData.tuple) → ys.length ≤ 400 → True := fun _ _ _ _ _ => trivial
            have lrows : (rowsOf (its.take i) nm).length ≤ i := by
              unfold rowsOf
              refine Nat.le_trans (List.length_filterMap_le _ _) ?_
              rw [List.length_take]
              omega
            cases hv : valV lf (Sum.inr nm : Key) with
            | none =>
              have nof : rowsOf (its.take i) nm = [] := by
                cases c : rowsOf (its.take i) nm with
                | nil => rfl
                | cons r0 rr =>
                  have m0 : It1.fact nm r0 ∈ its.take i := rows_mem.mp (by rw [c]; exact List.mem_cons_self)
                  obtain ⟨v, m⟩ := (fok.2.2.2 nm).mpr (.inr ⟨_, m0⟩)
                  exact absurd m ((val_none fok.1).mp hv v)
              have tz : Tps (upd H1 t (.lst [])) [] ((rowsOf (its.take i) nm).map PyData.tuple) := by
                rw [nof]
                exact .nil
              refine ⟨.ref p, rfl, p, _, 2, y, rfl, rfl, SqT.of (s1 _ _ ep), rfl, (by show 1 ≤ sizeLine; decide), fun o1 no1 => ⟨t, o1, [], [y], rfl, rfl, (same_new no1) _ _ upd_same, upd_same, (by show 1 ≤ sizeLine; decide), fun L nL => ?_⟩⟩
              obtain ⟨g1, g2, g3⟩ := go t [] upd_same tz (Nat.zero_le _) o1 no1 L nL
              refine ⟨.ref Fd, rfl, .ref p, rfl, p, _, 1, .str nm, rfl, rfl, SqT.of (g3 _ _ ep), rfl, Fd, _, rfl, DPut.k (k := Sum.inr nm) (g3 _ _ e2) (small1000 (by have := fok.2.1; omega)), ?_⟩
              have ep4 : (upd (upd (upd (upd H1 t (.lst [])) o1 (.lst [y])) L (.lst ([] ++ [y]))) Fd (.dK (putK lf (Sum.inr nm : Key) (.ref L)))) p = some (.tup [.str "fact", .str nm, y]) := by
                rw [upd_ne (fun z => by rw [z, e2] at ep; cases ep)]
                exact g3 _ _ ep
              have tk5 : Tk H1 (upd (upd (upd (upd H1 t (.lst [])) o1 (.lst [y])) L (.lst ([] ++ [y]))) Fd (.dK (putK lf (Sum.inr nm : Key) (.ref L)))) := fun a zs h => by
                rw [upd_ne (fun z => by rw [z, e2] at h; cases h)]
                exact g3 _ _ h
              refine ⟨.ref p, rfl, p, _, 0, .str "fact", rfl, rfl, SqT.of ep4, rfl, rfl, _, rfl, no_if (by decide +kernel) ?_⟩
              refine ⟨.ref p, rfl, p, _, 0, .str "fact", rfl, rfl, SqT.of ep4, rfl, rfl, _, rfl, no_if (by decide +kernel) ?_⟩
              refine ⟨⟨_, rfl⟩, g2, by rw [upd_ne RF]; exact g3 _ _ e1, ⟨_, upd_same, g1⟩, ⟨lu, by rw [upd_ne FU.symm]; exact g3 _ _ e3, ?_⟩, ld, by rw [upd_ne FD.symm]; exact g3 _ _ e4, ?_⟩
              · rw [take_next ej]
                exact uok.to tk5 (Nat.le_succ _) fun _ _ _ _ => mem_snoc (fun z => by cases z)
              · rw [take_next ej]
                exact dok.to tk5 (Nat.le_succ _) fun _ _ => mem_snoc (fun z => by cases z)
            | some v0 =>
              obtain ⟨x', l, ys, e5, rfl, el, tl⟩ := fok.2.2.1 _ _ ((mem_val fok.1).mp hv)
              injection e5 with e5
              subst e5
              have ly : ys.length ≤ 400 := by
                rw [tl.length, List.length_map]
                omega
              have el1 := s1 _ _ el
              refine ⟨.ref p, rfl, p, _, 2, y, rfl, rfl, SqT.of (s1 _ _ ep), rfl, (by show 1 ≤ sizeLine; decide), fun o1 no1 => ⟨l, o1, ys, [y], rfl, rfl, (same_new no1) _ _ el1, upd_same, Nat.le_of_lt (small1000 (by rw [List.length_singleton]; omega)), fun L nL => ?_⟩⟩
              obtain ⟨g1, g2, g3⟩ := go l ys el1 (tl.mono (Tk.of s1)) ly o1 no1 L nL
              refine ⟨.ref Fd, rfl, .ref p, rfl, p, _, 1, .str nm, rfl, rfl, SqT.of (g3 _ _ ep), rfl, Fd, _, rfl, DPut.k (k := Sum.inr nm) (g3 _ _ e2) (small1000 (by have := fok.2.1; omega)), ?_⟩
              have ep4 : (upd (upd (upd (upd H1 t (.lst [])) o1 (.lst [y])) L (.lst (ys ++ [y]))) Fd (.dK (putK lf (Sum.inr nm : Key) (.ref L)))) p = some (.tup [.str "fact", .str nm, y]) := by
                rw [upd_ne (fun z => by rw [z, e2] at ep; cases ep)]
                exact g3 _ _ ep
              have tk5 : Tk H1 (upd (upd (upd (upd H1 t (.lst [])) o1 (.lst [y])) L (.lst (ys ++ [y]))) Fd (.dK (putK lf (Sum.inr nm : Key) (.ref L)))) := fun a zs h => by
                rw [upd_ne (fun z => by rw [z, e2] at h; cases h)]
                exact g3 _ _ h
              refine ⟨.ref p, rfl, p, _, 0, .str "fact", rfl, rfl, SqT.of ep4, rfl, rfl, _, rfl, no_if (by decide +kernel) ?_⟩
              refine ⟨.ref p, rfl, p, _, 0, .str "fact", rfl, rfl, SqT.of ep4, rfl, rfl, _, rfl, no_if (by decide +kernel) ?_⟩
              refine ⟨⟨_, rfl⟩, g2, by rw [upd_ne RF]; exact g3 _ _ e1, ⟨_, upd_same, g1⟩, ⟨lu, by rw [upd_ne FU.symm]; exact g3 _ _ e3, ?_⟩, ld, by rw [upd_ne FD.symm]; exact g3 _ _ e4, ?_⟩
              · rw [take_next ej]
                exact uok.to tk5 (Nat.le_succ _) fun _ _ _ _ => mem_snoc (fun z => by cases z)
              · rw [take_next ej]
                exact dok.to tk5 (Nat.le_succ _) fun _ _ => mem_snoc (fun z => by cases z)
          | rule nm rl ts bd =>
            obtain ⟨p, rfl, y, z, ep, ty, tz⟩ := inv5t tj
            refine ⟨.ref p, rfl, p, _, 0, .str "rule", rfl, rfl, SqT.of ep, rfl, rfl, _, rfl, no_if (by decide +kernel) ?_⟩
            refine ⟨.ref p, rfl, p, _, 0, .str "rule", rfl, rfl, SqT.of ep, rfl, rfl, _, rfl, yes_if ?_⟩
            refine ⟨.ref p, rfl, 2, rfl, p, _, rfl, SqT.of ep, cut5, fun t nt => ?_⟩
            have s1 : Same H1 (upd H1 t (.tup [.str rl, y, z])) := same_new nt
            have tt : Tp (upd H1 t (.tup [.str rl, y, z])) (.ref t) (.tuple [.str rl, ts, bd]) := .tup upd_same (.cons (.str rl) (.cons (ty.mono (Tk.of s1)) (.cons (tz.mono (Tk.of s1)) .nil)))
            refine ⟨.ref U, rfl, .ref p, rfl, p, _, 1, .str nm, rfl, rfl, SqT.of (s1 _ _ ep), rfl, U, _, rfl, DPut.k (k := Sum.inr nm) (s1 _ _ e3) (small1000 (by have := uok.2.1; omega)), ?_⟩
            have e31 := s1 _ _ e3
            have tk2 : Tk (upd H1 t (.tup [.str rl, y, z])) (upd (upd H1 t (.tup [.str rl, y, z])) U (.dK (putK lu (Sum.inr nm : Key) (.ref t)))) := fun a zs h => by
              rw [upd_ne (fun w => by rw [w, e31] at h; cases h)]
              exact h
            have ll2 : ∀ a zs, (upd H1 t (.tup [.str rl, y, z])) a = some (.lst zs) → (upd (upd H1 t (.tup [.str rl, y, z])) U (.dK (putK lu (Sum.inr nm : Key) (.ref t)))) a = some (.lst zs) := fun a zs h => by
              rw [upd_ne (lst_ne h e31)]
              exact h
            refine ⟨.ref p, rfl, p, _, 0, .str "rule", rfl, rfl, SqT.of (tk2 _ _ (s1 _ _ ep)), rfl, rfl, _, rfl, no_if (by decide +kernel) ?_⟩
            refine ⟨⟨_, rfl⟩, keepR (sm.trans s1) nUH, by rw [upd_ne RU]; exact s1 _ _ e1, ⟨lf, by rw [upd_ne FU]; exact s1 _ _ e2, ?_⟩, ⟨_, upd_same, ?_⟩, ld, by rw [upd_ne UD.symm]; exact s1 _ _ e4, ?_⟩
            · rw [take_next ej]
              exact ((fok.mono (Tk.of s1) (fun _ _ h => s1 _ _ h) (Nat.le_succ _)).mono tk2 ll2 (Nat.le_refl _)).skip (fun _ _ => Iff.rfl) (fun _ => rows_snoc_no (fun ds z => by cases z))
            · rw [take_next ej]
              exact ((uok.to (Tk.of s1) (Nat.le_refl _) (fun _ _ _ _ => Iff.rfl)).snoc (fun a b c h => uq _ h rfl) tt).to tk2 (Nat.le_refl _) (fun _ _ _ _ => Iff.rfl)
            · rw [take_next ej]
              exact (dok.to (Tk.of s1) (Nat.le_succ _) fun _ _ => mem_snoc (fun z => by cases z)).to tk2 (Nat.le_refl _) (fun _ _ => Iff.rfl)
          | den nm bd =>
            obtain ⟨p, rfl, y, ep, ty⟩ := inv3 tj
            refine ⟨.ref p, rfl, p, _, 0, .str "denial", rfl, rfl, SqT.of ep, rfl, rfl, _, rfl, no_if (by decide +kernel) ?_⟩
            refine ⟨.ref p, rfl, p, _, 0, .str "denial", rfl, rfl, SqT.of ep, rfl, rfl, _, rfl, no_if (by decide +kernel) ?_⟩
            refine ⟨.ref p, rfl, p, _, 0, .str "denial", rfl, rfl, SqT.of ep, rfl, rfl, _, rfl, yes_if ?_⟩
            refine ⟨.ref p, rfl, p, _, 2, y, rfl, rfl, SqT.of ep, rfl, .ref D, rfl, .ref p, rfl, p, _, 1, .str nm, rfl, rfl, SqT.of ep, rfl, D, _, rfl, DPut.k (k := Sum.inr nm) e4 (small1000 (by have := dok.2.1; omega)), ?_⟩
            have tk2 : Tk H1 (upd H1 D (.dK (putK ld (Sum.inr nm : Key) y))) := fun a zs h => by
              rw [upd_ne (fun w => by rw [w, e4] at h; cases h)]
              exact h
            have ll2 : ∀ a zs, H1 a = some (.lst zs) → (upd H1 D (.dK (putK ld (Sum.inr nm : Key) y))) a = some (.lst zs) := fun a zs h => by
              rw [upd_ne (lst_ne h e4)]
              exact h
            refine ⟨⟨_, rfl⟩, keepR sm nDH, by rw [upd_ne RD]; exact e1, ⟨lf, by rw [upd_ne FD]; exact e2, ?_⟩, ⟨lu, by rw [upd_ne UD]; exact e3, ?_⟩, _, upd_same, ?_⟩
            · rw [take_next ej]
              exact (fok.mono tk2 ll2 (Nat.le_succ _)).skip (fun _ _ => Iff.rfl) (fun _ => rows_snoc_no (fun ds z => by cases z))
            · rw [take_next ej]
              exact uok.to tk2 (Nat.le_succ _) fun _ _ _ _ => mem_snoc (fun z => by cases z)
            · rw [take_next ej]
              exact (dok.snoc (fun a h => uq _ h rfl) ty).to tk2 (Nat.le_refl _) (fun _ _ => Iff.rfl)
        · rw [lx, List.take_length] at hP
          obtain ⟨w1, w2, w3, w4, w5, w6⟩ := hP
          exact ⟨w1, w2, ⟨lr, w3, rok⟩, w4, w5, w6⟩
      · clear sT eR eF eU eD rok fok
        rintro σ H0 ⟨⟨x6, rfl⟩, sT, ⟨lr, eR, rok⟩, ⟨lf, eF, fok⟩, ⟨lu, eU, uok⟩, ld, eD, dok⟩
        have b0 := bb.up sT (Nat.le_refl N)
        obtain ⟨r1', r2', r3'⟩ := id bb.rel
        obtain ⟨f1, f2, f3, f4, f5⟩ := id b0.fac
        obtain ⟨u1, u2, u3, u4⟩ := id b0.rul
        obtain ⟨d1, d2, d3, d4⟩ := id b0.den
        have nw : ∀ {a z : Addr} {kvs : List (Key × V)}, H a = some (.dK kvs) → H z = none → a ≠ z := fun e n => ne_of_none e n
        have lr1000 : lr.length ≤ 1000 := by have := rok.2.1; omega
        have lf1000 : lf.length ≤ 1000 := by have := fok.2.1; omega
        have lu1000 : lu.length ≤ 1000 := by have := uok.2.1; omega
        have ld1000 : ld.length ≤ 1000 := by have := dok.2.1; omega
        -- relations
        have hR : kr.length = lr.length := len_same r1' rok.1 fun k => by
          constructor
          · rintro ⟨v, m⟩
            exact ⟨v, (rok.2.2 k v).mpr ((r3' k v).mp m)⟩
          · rintro ⟨v, m⟩
            exact ⟨v, (r3' k v).mpr ((rok.2.2 k v).mp m)⟩
        refine ⟨.ref s, rfl, s, C, dx, _, _, rfl, b0.hs, T.cl, T.nR, fl_rel _ _ _ _, .ref R, rfl, r, R, kr, lr, rfl, b0.hr, eR, nw bb.hr nR, rok.1, hR, lr1000, fun k v m => ?_, fun H1 s1 => ⟨_, rfl, iteF ?_⟩⟩
        · obtain ⟨nm, n, e1, e2, e3⟩ := (rok.2.2 k v).mp m
          exact ⟨v, (mem_val r1').mpr ((r3' k v).mpr ⟨nm, n, e1, e2, e3⟩), .inl ⟨.int n, by rw [e2]; exact .int n, by rw [e2]; exact .int n, nice_int n, Nat.zero_le _⟩⟩
        -- facts
        have b1 := b0.up s1 (Nat.le_refl N)
        have inr_f : ∀ k v, (k, v) ∈ kf → ∃ nm : Str, k = Sum.inr nm := fun k v m => let ⟨nm, _, _, e, _⟩ := f3 k v m; ⟨nm, e⟩
        have inr_x : ∀ k v, (k, v) ∈ lf → ∃ nm : Str, k = Sum.inr nm := fun k v m => let ⟨nm, _, _, e, _⟩ := fok.2.2.1 k v m; ⟨nm, e⟩
        have names : ∀ nm : Str, (∃ v, ((Sum.inr nm : Key), v) ∈ kf) ↔ ∃ v, ((Sum.inr nm : Key), v) ∈ lf := fun nm => (f4 nm).trans (fok.2.2.2 nm).symm
        have hF : kf.length = lf.length := len_same f1 fok.1 fun k => by
          constructor
          · rintro ⟨v, m⟩
            obtain ⟨nm, rfl⟩ := inr_f k v m
            exact (names nm).mp ⟨v, m⟩
          · rintro ⟨v, m⟩
            obtain ⟨nm, rfl⟩ := inr_x k v m
            exact (names nm).mpr ⟨v, m⟩
        refine ⟨.ref s, rfl, s, C, dx, _, _, rfl, b1.hs, T.cl, T.nF, fl_fac _ _ _ _, .ref Fd, rfl, f, Fd, kf, lf, rfl, b1.hf, s1 _ _ eF, nw bb.hf nFH, fok.1, hF, lf1000, fun k v m => ?_, fun H2 s2 => ⟨_, rfl, iteF ?_⟩⟩
        · obtain ⟨nm, l, ys, rfl, rfl, e3, e4⟩ := fok.2.2.1 k v m
          obtain ⟨v0, m0⟩ := (names nm).mpr ⟨_, m⟩
          obtain ⟨nm2, l2, rs, e5, rfl, _, ⟨⟨zs, e6, e7⟩, e8, e9, e10⟩, e11⟩ := f3 _ _ m0
          injection e5 with e5
          subst e5
          have er : rs = rowsOf its nm := rows_unique e8 (rows_sorted bb.srt) e9 fun ds => (e11 ds).trans rows_mem.symm
          rw [← er] at e4
          refine ⟨_, (mem_val f1).mpr m0, .inr ⟨l2, l, zs, ys, _, rfl, rfl, s1 _ _ e6, s1 _ _ e3, e7.mono (Tk.of s1), e4.mono (Tk.of s1), niceAll_of fun d hd => ?_, depthAll_le fun d hd => ?_, ?_⟩⟩
          · obtain ⟨row, hrow, rfl⟩ := List.mem_map.mp hd
            exact nice_row (e9 row hrow).1 (e9 row hrow).2
          · obtain ⟨row, hrow, rfl⟩ := List.mem_map.mp hd
            exact Nat.le_trans (row_depth (e9 row hrow).1) (by decide)
          · rw [List.length_map]
            omega
        -- rules
        have b2 := b1.up s2 (Nat.le_refl N)
        have s12 := s1.trans s2
        have hU : ku.length = lu.length := len_same u1 uok.1 fun k => by
          constructor
          · rintro ⟨v, m⟩
            obtain ⟨nm, rl, ts, bd, rfl, _, hit⟩ := u3 k v m
            exact uok.2.2.2 _ _ _ _ hit
          · rintro ⟨v, m⟩
            obtain ⟨nm, rl, ts, bd, rfl, _, hit⟩ := uok.2.2.1 k v m
            exact u4 _ _ _ _ hit
        refine ⟨.ref s, rfl, s, C, dx, _, _, rfl, b2.hs, T.cl, T.nU, fl_rul _ _ _ _, .ref U, rfl, u, U, ku, lu, rfl, b2.hu, s12 _ _ eU, nw bb.hu nUH, uok.1, hU, lu1000, fun k v m => ?_, fun H3 s3 => ⟨_, rfl, iteF ?_⟩⟩
        · obtain ⟨nm, rl, ts, bd, rfl, t1, hit⟩ := uok.2.2.1 k v m
          obtain ⟨v0, m0⟩ := u4 _ _ _ _ hit
          obtain ⟨nm2, rl2, ts2, bd2, e5, t2, hit2⟩ := u3 _ _ m0
          injection e5 with e5
          subst e5
          have ei := sorted_key bb.srt bb.ok hit hit2 rfl
          injection ei with _ ea ec eb'
          subst ea ec eb'
          have oi := bb.ok _ hit
          obtain ⟨o1, o2, o3, o4⟩ : nice ts ∧ nice bd ∧ ts.depth ≤ 4 ∧ bd.depth ≤ 4 := oi
          exact ⟨v0, (mem_val u1).mpr m0, .inl ⟨_, t2.mono (Tk.of s12), t1.mono (Tk.of s12), n3 (nice_str _) o1 o2, Nat.le_trans (dep3 (k := 4) (Nat.zero_le _) o3 o4) (by decide)⟩⟩
        -- denials
        have b3 := b2.up s3 (Nat.le_refl N)
        have s13 := s12.trans s3
        have hD : kd.length = ld.length := len_same d1 dok.1 fun k => by
          constructor
          · rintro ⟨v, m⟩
            obtain ⟨nm, bd, rfl, _, hit⟩ := d3 k v m
            exact dok.2.2.2 _ _ hit
          · rintro ⟨v, m⟩
            obtain ⟨nm, bd, rfl, _, hit⟩ := dok.2.2.1 k v m
            exact d4 _ _ hit
        refine ⟨.ref s, rfl, s, C, dx, _, _, rfl, b3.hs, T.cl, T.nD, fl_den _ _ _ _, .ref D, rfl, d, D, kd, ld, rfl, b3.hd, s13 _ _ eD, nw bb.hd nDH, dok.1, hD, ld1000, fun k v m => ?_, fun H4 s4 => ⟨_, rfl, iteF ?_⟩⟩
        · obtain ⟨nm, bd, rfl, t1, hit⟩ := dok.2.2.1 k v m
          obtain ⟨v0, m0⟩ := d4 _ _ hit
          obtain ⟨nm2, bd2, e5, t2, hit2⟩ := d3 _ _ m0
          injection e5 with e5
          subst e5
          have ei := sorted_key bb.srt bb.ok hit hit2 rfl
          injection ei with _ ea
          subst ea
          have oi := bb.ok _ hit
          obtain ⟨o1, o2⟩ : nice bd ∧ bd.depth ≤ 4 := oi
          exact ⟨v0, (mem_val d1).mpr m0, .inl ⟨_, t2.mono (Tk.of s13), t1.mono (Tk.of s13), o1, Nat.le_trans o2 (by decide)⟩⟩
        -- all the items
        have b4 := b3.up s4 (Nat.le_refl N)
        have s14 := s13.trans s4
        have sH4 : Same H H4 := sT.trans s14
        refine ⟨.ref s, rfl, s, dx, _, rfl, b4.hs, fl_no _ _ _ _ (by decide +kernel) (by decide +kernel) (by decide +kernel) (by decide +kernel), s, its, F, N, rfl, ⟨dx, r, f, u, d, kr, kf, ku, kd, b4⟩, hN, h64, hfew, fun L ys H5 s5 nL eL tL => ?_⟩
        have s05 := sH4.trans s5
        refine ⟨.ref b, rfl, same_true (.inr ⟨L, b, ys, xs, _, rfl, rfl, eL, s05 _ _ eb, tL, tx.mono (Tk.of s05), niceAll_of fun d hd => ?_, depthAll_le fun d hd => ?_, ?_⟩) (q _ s05)⟩
        · obtain ⟨i, hi, rfl⟩ := List.mem_map.mp hd
          exact (okI_nice (bb.ok i hi)).1
        · obtain ⟨i, hi, rfl⟩ := List.mem_map.mp hd
          exact Nat.le_trans (okI_nice (bb.ok i hi)).2 (by decide)
        · rw [List.length_map]
          omega
end

end KV

/-! Ranges with a step as values; data of lists and tuples. -/
namespace KA
open PySem PySem.Spec PyProof.Rows L2
/-- a range object a, a + c, .. below b, at p -/
def rng3 (p : Addr) (a b c : Int) : HO := .ext fun h => ∃ t u v, IsRange h p a b c t u v
section
variable {X : Cx}
theorem cr_range3 : CallR X (.type "range") (fun vs H Q => ∃ i j c, vs = [V.int i, V.int j, V.int c] ∧ c ≠ 0 ∧ c.natAbs < 1073741824 ∧ ∀ p, H p = none → Q (.ref p) (upd H p (rng3 p i j c))) := by
  intro pins s σ H vs us Q I r h
  obtain ⟨i, j, c, rfl, c0, c1, q⟩ := h
  cases r with
  | cons r1 rr =>
    cases rr with
    | cons r2 rr =>
      cases rr with
      | cons r3 rr =>
        cases rr
        obtain ⟨t, rfl⟩ := r1
        obtain ⟨u, rfl⟩ := r2
        obtain ⟨v, rfl⟩ := r3
        refine call_range_3 c0 ?_ (.inl (PyProof.noPylong_small c1))
        refine ⟨.ref s.heap.objs.size, upd H s.heap.objs.size (rng3 s.heap.objs.size i j c), I.laid (t' := s.toks) (fun b o e => Heap.get?_push_of_some _ e) (Nat.le_refl _) ?_, rfl, q _ (I.hok.fresh (Nat.le_refl _))⟩
        refine ⟨⟨t, u, v, IsRange.new ..⟩, ⟨_, Heap.get?_push_size _ rfl⟩, fun h1 h2 ⟨t1, u1, v1, e⟩ k => ⟨t1, u1, v1, k _ e⟩⟩
theorem call_len_rng3 : CallR X (.builtin "len") (fun xs H Q => ∃ p i j c n, xs = [.ref p] ∧ H p = some (rng3 p i j c) ∧ RgC i j c n ∧ n < 2 ^ 62 ∧ Q (.int (n : Nat)) H) := by
  intro pins s σ H xs us Q I r h
  obtain ⟨p, i, j, c, n, rfl, hp, ⟨_, _, _, c3⟩, hn, q⟩ := h
  obtain ⟨u, rfl, rx⟩ := vals1 r
  cases rx
  obtain ⟨⟨t, u, v, e⟩, _⟩ := I.hok p _ hp
  exact call_len_range e c3 (by omega) ⟨.int (n : Nat), H, I.tok _, ⟨_, rfl⟩, q⟩
def iRngV (te : TE) : TI := fun σ H R => te σ H fun x H1 => ∃ p i j c n, x = .ref p ∧ H1 p = some (rng3 p i j c) ∧ RgC i j c n ∧ R (Itc i c n) H1
theorem pi_rng3 {tg e : Expr} {te : TE} (he : PE X e te) : PI X tg e (iRngV te) := by
  refine ⟨fun pins s σ H R I h => ?_⟩
  refine thn (he.run pins s σ H _ I h) fun v s1 ⟨x, H1, I1, r1, q1⟩ => ?_
  obtain ⟨p, i, j, c, n, e, hp, ⟨c0, c1, c2, c3⟩, q⟩ := q1
  subst e
  cases r1
  obtain ⟨⟨t, u, v, ho⟩, _⟩ := I1.hok p _ hp
  refine wpAny_pyIter_range ho c2 ?_
  refine pi_one (tk := s1.toks) I1 _ (turn_rangeC _ i c n) ?_ q
  have e1 : i + ((0 : Nat) : Int) * c = i := by simp
  have e2 : (n : Int) - ((0 : Nat) : Int) = Builtin.Range.rangeSize i j c := by rw [c3]; simp
  show IsRangeIter _ _ (i + ((0 : Nat) : Int) * c) ((n : Int) - ((0 : Nat) : Int)) c
  rw [e1, e2]
  exact Heap.get?_push_size _ rfl
end
theorem fits_l {i : Int} (h1 : -(2 ^ 62) ≤ i) (h2 : i < 2 ^ 62) : Builtin.Range.rangeFitsLong i = true := by
  unfold Builtin.Range.rangeFitsLong
  rw [Bool.and_eq_true]
  exact ⟨decide_eq_true (by omega), decide_eq_true (by omega)⟩
/-- range(0, m, 54): its turns -/
theorem rg_up {m : Nat} (hm : m < 1000000) : RgC 0 m 54 ((m + 53) / 54) := by
  have e : Builtin.Range.rangeSize 0 (m : Int) 54 = (((m + 53) / 54 : Nat) : Int) := by
    unfold Builtin.Range.rangeSize
    rw [if_pos (by decide)]
    split
    · omega
    · omega
  refine ⟨by decide, by decide, ?_, e⟩
  unfold Builtin.Range.small
  rw [e, fits_l (by omega) (by omega), fits_l (by omega) (by omega), fits_l (by omega) (by omega), fits_l (by omega) (by omega), if_pos (by decide), fits_l (by omega) (by omega), Bool.or_true]
  rfl
end KA

/-! Data over lists and tuples that stand at H; lists of ints; lists of such. -/
namespace KA
open PySem PySem.Spec PyProof.Rows L2
mutual
inductive Dl (H : Hp) : V → PyData → Prop
  | non : Dl H .non .none
  | bl (b : Bool) : Dl H (.bl b) (.bool b)
  | int (i : Int) : Dl H (.int i) (.int i)
  | str (x : Str) : Dl H (.str x) (.str x)
  | tup {a : Addr} {xs : List V} {ds : List PyData} : H a = some (.tup xs) → Dls H xs ds → Dl H (.ref a) (.tuple ds)
  | lst {a : Addr} {xs : List V} {ds : List PyData} : H a = some (.lst xs) → Dls H xs ds → Dl H (.ref a) (.list ds)
inductive Dls (H : Hp) : List V → List PyData → Prop
  | nil : Dls H [] []
  | cons {v : V} {vs : List V} {d : PyData} {ds : List PyData} : Dl H v d → Dls H vs ds → Dls H (v :: vs) (d :: ds)
end
mutual
theorem Dl.mono {H H' : Hp} (k : Same H H') : ∀ {d : PyData} {v : V}, Dl H v d → Dl H' v d
  | .none, _, h => by cases h; exact .non
  | .bool _, _, h => by cases h; exact .bl _
  | .int _, _, h => by cases h; exact .int _
  | .str _, _, h => by cases h; exact .str _
  | .tuple _, _, h => by
    cases h with
    | tup e r => exact .tup (k _ _ e) (Dls.mono k r)
  | .list _, _, h => by
    cases h with
    | lst e r => exact .lst (k _ _ e) (Dls.mono k r)
  | .dict _, _, h => nomatch h
theorem Dls.mono {H H' : Hp} (k : Same H H') : ∀ {ds : List PyData} {vs : List V}, Dls H vs ds → Dls H' vs ds
  | [], _, h => by cases h; exact .nil
  | _ :: _, _, h => by
    cases h with
    | cons a r => exact .cons (Dl.mono k a) (Dls.mono k r)
end
mutual
theorem Dl.dp {K : PySem.W.Frag} {H : Hp} : ∀ {d : PyData} {v : V}, Dl H v d → Dp K H v d
  | .none, _, h => by cases h; exact .non
  | .bool _, _, h => by cases h; exact .bl _
  | .int _, _, h => by cases h; exact .int _
  | .str _, _, h => by cases h; exact .str _
  | .tuple _, _, h => by
    cases h with
    | tup e r => exact .tup (SqT.of e) (Dls.dp r)
  | .list _, _, h => by
    cases h with
    | lst e r => exact .lst (SqL.of e) (Dls.dp r)
  | .dict _, _, h => nomatch h
theorem Dls.dp {K : PySem.W.Frag} {H : Hp} : ∀ {ds : List PyData} {vs : List V}, Dls H vs ds → DpAll K H vs ds
  | [], _, h => by cases h; exact .nil
  | _ :: _, _, h => by
    cases h with
    | cons a r => exact .cons (Dl.dp a) (Dls.dp r)
end
mutual
theorem Dl.plain {H : Hp} : ∀ {d : PyData} {v : V}, Dl H v d → d.plain = true
  | .none, _, _ => rfl
  | .bool _, _, _ => rfl
  | .int _, _, _ => rfl
  | .str _, _, _ => rfl
  | .tuple _, _, h => by
    cases h with
    | tup e r => exact Dls.plain r
  | .list _, _, h => by
    cases h with
    | lst e r => exact Dls.plain r
  | .dict _, _, h => nomatch h
theorem Dls.plain {H : Hp} : ∀ {ds : List PyData} {vs : List V}, Dls H vs ds → PyData.plainAll ds = true
  | [], _, _ => rfl
  | _ :: _, _, h => by
    cases h with
    | cons a r =>
      rw [PyData.plainAll, Dl.plain a, Dls.plain r]
      rfl
end
mutual
theorem Tp.dl {H : Hp} : ∀ {d : PyData} {v : V}, Tp H v d → Dl H v d
  | .none, _, h => by cases h; exact .non
  | .bool _, _, h => by cases h; exact .bl _
  | .int _, _, h => by cases h; exact .int _
  | .str _, _, h => by cases h; exact .str _
  | .tuple _, _, h => by
    cases h with
    | tup e r => exact .tup e (Tps.dl r)
  | .list _, _, h => nomatch h
  | .dict _, _, h => nomatch h
theorem Tps.dl {H : Hp} : ∀ {ds : List PyData} {vs : List V}, Tps H vs ds → Dls H vs ds
  | [], _, h => by cases h; exact .nil
  | _ :: _, _, h => by
    cases h with
    | cons a r => exact .cons (Tp.dl a) (Tps.dl r)
end
theorem Dls.length {H : Hp} : ∀ {ds : List PyData} {vs : List V}, Dls H vs ds → vs.length = ds.length
  | [], _, h => by cases h; rfl
  | _ :: _, _, h => by
    cases h with
    | cons a r => rw [List.length_cons, List.length_cons, Dls.length r]
theorem Dls.at_ {H : Hp} : ∀ {ds : List PyData} {vs : List V} {i : Nat} {d : PyData}, Dls H vs ds → ds[i]? = some d → ∃ v, vs[i]? = some v ∧ Dl H v d
  | [], _, _, _, h, e => by
    simp at e
  | d :: _, _, 0, _, h, e => by
    cases h with
    | cons a r =>
      cases e
      exact ⟨_, rfl, a⟩
  | _ :: _, _, i + 1, _, h, e => by
    cases h with
    | cons a r => exact Dls.at_ (i := i) r e
mutual
/-- no dict in it, nothing too long -/
def okD : PyData → Prop
  | .none => True
  | .bool _ => True
  | .int _ => True
  | .str _ => True
  | .tuple ds => ds.length ≤ 1000000 ∧ okDs ds
  | .list ds => ds.length ≤ 1000000 ∧ okDs ds
  | _ => False
def okDs : List PyData → Prop
  | [] => True
  | d :: r => okD d ∧ okDs r
end
theorem okDs_mem : ∀ {ds : List PyData} {d : PyData}, okDs ds → d ∈ ds → okD d
  | x :: r, d, h, m => by
    rw [okDs] at h
    rcases List.mem_cons.mp m with e | e
    · rw [e]
      exact h.1
    · exact okDs_mem h.2 e
theorem okDs_of : ∀ {ds : List PyData}, (∀ d ∈ ds, okD d) → okDs ds
  | [], _ => by rw [okDs]; trivial
  | x :: r, h => by
    rw [okDs]
    exact ⟨h x List.mem_cons_self, okDs_of fun d m => h d (List.mem_cons_of_mem _ m)⟩
theorem depth_at2 : ∀ {ds : List PyData} {i : Nat} {d : PyData}, ds[i]? = some d → d.depth ≤ PyData.depthAll ds
  | [], i, d, h => by simp at h
  | x :: r, 0, d, h => by
    cases h
    rw [PyData.depthAll]
    exact Nat.le_max_left _ _
  | x :: r, i + 1, d, h => by
    rw [PyData.depthAll]
    exact Nat.le_trans (depth_at2 (i := i) h) (Nat.le_max_right _ _)
theorem depthAll_of {n : Nat} : ∀ {ds : List PyData}, (∀ d ∈ ds, d.depth ≤ n) → PyData.depthAll ds ≤ n
  | [], _ => Nat.zero_le _
  | x :: r, h => by
    rw [PyData.depthAll]
    exact Nat.max_le.mpr ⟨h x List.mem_cons_self, depthAll_of fun d m => h d (List.mem_cons_of_mem _ m)⟩
/-- == and != of data -/
def rEqD (neg : Bool) : R2 := fun x y H Q => ∃ d e, Dl H x d ∧ Dl H y e ∧ small e ∧ Q (.bl (if neg then !PyData.eqv d e else PyData.eqv d e)) H
theorem op_eqQ {X : Cx} (hu : X.A.units + 64 < cLine) : OpR X (compareOp .Eq) (rEqD false) := by
  intro pins s σ H x y v u Q I rx ry h
  obtain ⟨d, e, hd, he, se, q⟩ := h
  obtain ⟨as, r1⟩ := Dp.reads I d x v hd.dp rx
  obtain ⟨bs, r2⟩ := Dp.reads I e y u he.dp ry
  refine SeqAt.eq_plain r1 r2 hd.plain he.plain ?_ ⟨.bl _, H, I, rfl, q⟩
  have h1 : e.depth ≤ 64 := se
  have h2 : min d.depth e.depth ≤ e.depth := Nat.min_le_right _ _
  omega
theorem op_neQ {X : Cx} (hu : X.A.units + 64 < cLine) : OpR X (compareOp .NotEq) (rEqD true) := by
  intro pins s σ H x y v u Q I rx ry h
  obtain ⟨d, e, hd, he, se, q⟩ := h
  obtain ⟨as, r1⟩ := Dp.reads I d x v hd.dp rx
  obtain ⟨bs, r2⟩ := Dp.reads I e y u he.dp ry
  refine SeqAt.ne_plain r1 r2 hd.plain he.plain ?_ ⟨.bl _, H, I, rfl, q⟩
  have h1 : e.depth ≤ 64 := se
  have h2 : min d.depth e.depth ≤ e.depth := Nat.min_le_right _ _
  omega
/-! ### lists of ints -/
abbrev intsD (ns : List Int) : List PyData := ns.map PyData.int
theorem dls_ints {H : Hp} : ∀ ns : List Int, Dls H (ns.map V.int) (intsD ns)
  | [] => .nil
  | n :: r => .cons (.int n) (dls_ints r)
/-- the value is a list of these ints -/
def IL (H : Hp) (v : V) (ns : List Int) : Prop := ∃ p, v = .ref p ∧ H p = some (.lst (ns.map V.int))
theorem IL.dl {H : Hp} {v : V} {ns : List Int} (h : IL H v ns) : Dl H v (.list (intsD ns)) := by
  obtain ⟨p, rfl, e⟩ := h
  exact .lst e (dls_ints ns)
theorem IL.mono {H H' : Hp} {v : V} {ns : List Int} (h : IL H v ns) (k : Same H H') : IL H' v ns := by
  obtain ⟨p, e, e2⟩ := h
  exact ⟨p, e, k _ _ e2⟩
/-- lists of ints, one for each -/
inductive Ils (H : Hp) : List V → List (List Int) → Prop
  | nil : Ils H [] []
  | cons {v : V} {vs : List V} {d : List Int} {ds : List (List Int)} : IL H v d → Ils H vs ds → Ils H (v :: vs) (d :: ds)
theorem Ils.length {H : Hp} {vs : List V} {ds : List (List Int)} (h : Ils H vs ds) : vs.length = ds.length := by
  induction h with
  | nil => rfl
  | cons a r ih => rw [List.length_cons, List.length_cons, ih]
theorem Ils.mono {H H' : Hp} {vs : List V} {ds : List (List Int)} (h : Ils H vs ds) (k : Same H H') : Ils H' vs ds := by
  induction h with
  | nil => exact .nil
  | cons a r ih => exact .cons (a.mono k) ih
theorem Ils.app {H : Hp} {vs ws : List V} {ds es : List (List Int)} (h : Ils H vs ds) (h2 : Ils H ws es) : Ils H (vs ++ ws) (ds ++ es) := by
  induction h with
  | nil => exact h2
  | cons a r ih => exact .cons a ih
theorem Ils.one {H : Hp} {v : V} {d : List Int} (h : IL H v d) : Ils H [v] [d] := .cons h .nil
theorem Ils.take {H : Hp} {vs : List V} {ds : List (List Int)} (h : Ils H vs ds) : ∀ n, Ils H (vs.take n) (ds.take n) := by
  induction h with
  | nil => intro n; rw [List.take_nil, List.take_nil]; exact .nil
  | cons a r ih =>
    intro n
    cases n with
    | zero => exact .nil
    | succ n => exact .cons a (ih n)
theorem Ils.drop {H : Hp} {vs : List V} {ds : List (List Int)} (h : Ils H vs ds) : ∀ n, Ils H (vs.drop n) (ds.drop n) := by
  induction h with
  | nil => intro n; rw [List.drop_nil, List.drop_nil]; exact .nil
  | cons a r ih =>
    intro n
    cases n with
    | zero => exact .cons a r
    | succ n => exact ih n
theorem Ils.at_ {H : Hp} {vs : List V} {ds : List (List Int)} (h : Ils H vs ds) : ∀ {i : Nat} {d : List Int}, ds[i]? = some d → ∃ v, vs[i]? = some v ∧ IL H v d := by
  induction h with
  | nil => intro i d e; simp at e
  | cons a r ih =>
    intro i d e
    cases i with
    | zero => cases e; exact ⟨_, rfl, a⟩
    | succ i => exact ih (i := i) e
theorem Ils.get {H : Hp} {vs : List V} {ds : List (List Int)} (h : Ils H vs ds) : ∀ {i : Nat} {v : V}, vs[i]? = some v → ∃ d, ds[i]? = some d ∧ IL H v d := by
  induction h with
  | nil => intro i d e; simp at e
  | cons a r ih =>
    intro i d e
    cases i with
    | zero => cases e; exact ⟨_, rfl, a⟩
    | succ i => exact ih (i := i) e
theorem Ils.dls {H : Hp} {vs : List V} {ds : List (List Int)} (h : Ils H vs ds) : Dls H vs (ds.map fun ns => PyData.list (intsD ns)) := by
  induction h with
  | nil => exact .nil
  | cons a r ih => exact .cons a.dl ih
/-- the value is a list of lists of ints -/
def LL (H : Hp) (v : V) (nss : List (List Int)) : Prop := ∃ p xs, v = .ref p ∧ H p = some (.lst xs) ∧ Ils H xs nss
theorem LL.mono {H H' : Hp} {v : V} {nss : List (List Int)} (h : LL H v nss) (k : Same H H') : LL H' v nss := by
  obtain ⟨p, xs, e, e2, e3⟩ := h
  exact ⟨p, xs, e, k _ _ e2, e3.mono k⟩
theorem LL.dl {H : Hp} {v : V} {nss : List (List Int)} (h : LL H v nss) : Dl H v (.list (nss.map fun ns => PyData.list (intsD ns))) := by
  obtain ⟨p, xs, rfl, e, r⟩ := h
  exact .lst e r.dls
theorem okD_ints {ns : List Int} (h : ns.length ≤ 1000000) : okD (.list (intsD ns)) := by
  rw [okD]
  refine ⟨by rw [List.length_map]; exact h, okDs_of fun d m => ?_⟩
  obtain ⟨n, _, rfl⟩ := List.mem_map.mp m
  rw [okD]
  trivial
theorem depth_ints (ns : List Int) : (PyData.list (intsD ns)).depth ≤ 1 := by
  show PyData.depthAll (intsD ns) + 1 ≤ 1
  have : PyData.depthAll (intsD ns) ≤ 0 := depthAll_of fun d m => by
    obtain ⟨n, _, rfl⟩ := List.mem_map.mp m
    exact Nat.le_refl _
  omega
theorem okD_lls {nss : List (List Int)} (h : nss.length ≤ 1000000) (h2 : ∀ ns ∈ nss, ns.length ≤ 1000000) : okD (.list (nss.map fun ns => PyData.list (intsD ns))) := by
  rw [okD]
  refine ⟨by rw [List.length_map]; exact h, okDs_of fun d m => ?_⟩
  obtain ⟨n, hn, rfl⟩ := List.mem_map.mp m
  exact okD_ints (h2 n hn)
theorem depth_lls (nss : List (List Int)) : (PyData.list (nss.map fun ns => PyData.list (intsD ns))).depth ≤ 2 := by
  show PyData.depthAll _ + 1 ≤ 2
  have : PyData.depthAll (nss.map fun ns => PyData.list (intsD ns)) ≤ 1 := depthAll_of fun d m => by
    obtain ⟨n, _, rfl⟩ := List.mem_map.mp m
    exact depth_ints n
  omega
/-! ### == of data by equality -/
theorem eqvI (i j : Int) : PyData.eqv (.int i) (.int j) = decide (i = j) := by
  show (i == j) = _
  by_cases h : i = j
  · rw [h, decide_eq_true rfl, beq_self_eq_true]
  · rw [decide_eq_false h, beq_eq_false_iff_ne.mpr h]
theorem eqv_ints : ∀ a b : List Int, PyData.eqvAll (intsD a) (intsD b) = decide (a = b)
  | [], [] => rfl
  | [], _ :: _ => rfl
  | _ :: _, [] => rfl
  | x :: a, y :: b => by
    show (PyData.eqv (.int x) (.int y) && PyData.eqvAll (intsD a) (intsD b)) = _
    rw [eqv_ints a b, eqvI]
    by_cases h : x = y
    · subst h
      simp
    · simp [h]
theorem eqv_il (a b : List Int) : PyData.eqv (.list (intsD a)) (.list (intsD b)) = decide (a = b) := eqv_ints a b
/-! ### slices -/
theorem cut_to (xs : List V) (k : Nat) : cutV xs none (some (k : Int)) = xs.take k := by
  unfold cutV
  rw [HT.sIx_none, HT.sIx_nat, List.drop_zero, Nat.sub_zero]
  rcases Nat.le_total k xs.length with h | h
  · rw [Nat.min_eq_left h]
  · rw [Nat.min_eq_right h, List.take_of_length_le h, List.take_of_length_le (Nat.le_refl _)]
theorem cut_from (xs : List V) (k : Nat) : cutV xs (some (k : Int)) none = xs.drop k := by
  unfold cutV
  rw [HT.sIx_none, HT.sIx_nat]
  rcases Nat.le_total k xs.length with h | h
  · rw [Nat.min_eq_left h, List.take_of_length_le (by rw [List.length_drop]; exact Nat.le_refl _)]
  · rw [Nat.min_eq_right h, Nat.sub_self, List.take_zero, List.drop_eq_nil_of_le h]
theorem cut_mid (xs : List V) (i j : Nat) : cutV xs (some (i : Int)) (some ((i + j : Nat) : Int)) = (xs.drop i).take j := by
  unfold cutV
  rw [HT.sIx_nat, HT.sIx_nat]
  rcases Nat.le_total (i + j) xs.length with h | h
  · rw [Nat.min_eq_left h, Nat.min_eq_left (by omega)]
    congr 1
    omega
  · rcases Nat.le_total i xs.length with h2 | h2
    · rw [Nat.min_eq_right h, Nat.min_eq_left h2, List.take_of_length_le (i := xs.length - i) (by rw [List.length_drop]; exact Nat.le_refl _), List.take_of_length_le (by rw [List.length_drop]; omega)]
    · rw [Nat.min_eq_right h, Nat.min_eq_right h2, Nat.sub_self, List.drop_eq_nil_of_le h2, List.drop_eq_nil_of_le (Nat.le_refl _)]
      simp
theorem cut_to' {xs : List V} {z : Int} (h : 0 ≤ z) : cutV xs none (some z) = xs.take z.toNat := by
  have : z = ((z.toNat : Nat) : Int) := by omega
  rw [this, cut_to, Int.toNat_natCast]
theorem map_take {ns : List Int} (k : Nat) : (ns.map V.int).take k = (ns.take k).map V.int := List.map_take.symm
theorem map_drop {ns : List Int} (k : Nat) : (ns.map V.int).drop k = (ns.drop k).map V.int := List.map_drop.symm
section
variable {X : Cx}
/-- a module's constant -/
theorem pe_con {x : Str} {i : Int} {pos : Pos} (hg : Gl X x) (h : ∃ t, X.mg x = some (.int i t)) (hd : (x == ("__debug__" : Str)) = false := by decide) : PE X (.Name x pos) (tC (.int i)) := by
  obtain ⟨t, h⟩ := h
  exact pe_glob hg h ⟨_, rfl⟩ hd
end
end KA

namespace KV
open PySem PySem.Spec PyProof.Rows L2 KA
/-! ### numbers as bytes -/
def encN (n : Nat) : List Int := if h : n ≤ 127 then [(n : Int)] else (128 + ((n % 128 : Nat) : Int)) :: encN (n / 128)
termination_by n
decreasing_by omega
theorem encN_lo {n : Nat} (h : n ≤ 127) : encN n = [(n : Int)] := by
  rw [encN, dif_pos h]
theorem encN_hi {n : Nat} (h : ¬ n ≤ 127) : encN n = (128 + ((n % 128 : Nat) : Int)) :: encN (n / 128) := by
  rw [encN, dif_neg h]
theorem encN_pos (n : Nat) : 1 ≤ (encN n).length := by
  by_cases h : n ≤ 127
  · rw [encN_lo h]; exact Nat.le_refl _
  · rw [encN_hi h, List.length_cons]; omega
theorem encN_len : ∀ (k n : Nat), n < 128 ^ k → 0 < k → (encN n).length ≤ k
  | 0, n, _, h => absurd h (Nat.lt_irrefl _)
  | k + 1, n, h, _ => by
    by_cases c : n ≤ 127
    · rw [encN_lo c]; exact Nat.succ_le_succ (Nat.zero_le _)
    · rw [encN_hi c, List.length_cons]
      have h2 : n / 128 < 128 ^ k := by
        rw [Nat.pow_succ] at h
        exact Nat.div_lt_of_lt_mul (by rw [Nat.mul_comm]; exact h)
      have k0 : 0 < k := by
        rcases Nat.eq_zero_or_pos k with z | z
        · rw [z] at h2
          have : n / 128 = 0 := by omega
          omega
        · exact z
      exact Nat.succ_le_succ (encN_len k _ h2 k0)
def big : Nat := 128 ^ 18
theorem encN_len18 {n : Nat} (h : n < big) : (encN n).length ≤ 18 := encN_len 18 n h (by decide)
/-! ### lists, texts -/
def encL (bs : List (List Int)) : List Int := encN bs.length ++ bs.flatten
/-- a character that has a code -/
def GoodC (c : Nat) : Prop := 32 ≤ c ∧ c ≤ 126 ∧ c ≠ 37
def GoodS (s : Str) : Prop := s.cps.toList.length ≤ 100 ∧ ∀ c ∈ s.cps.toList, GoodC c
def encS (s : Str) : List Int := encN s.cps.toList.length ++ s.cps.toList.map fun c : Nat => (c : Int)
theorem encS_len {s : Str} (h : GoodS s) : (encS s).length ≤ 118 := by
  unfold encS
  rw [List.length_append, List.length_map]
  have := encN_len18 (n := s.cps.toList.length) (Nat.lt_of_le_of_lt h.1 (by decide))
  have := h.1
  omega
theorem encS_pos (s : Str) : 1 ≤ (encS s).length := by
  unfold encS
  rw [List.length_append]
  have := encN_pos s.cps.toList.length
  omega
theorem encL_pos (bs : List (List Int)) : 1 ≤ (encL bs).length := by
  unfold encL
  rw [List.length_append]
  have := encN_pos bs.length
  omega
theorem flat_len {m : Nat} : ∀ {bs : List (List Int)}, (∀ b ∈ bs, b.length ≤ m) → bs.flatten.length ≤ bs.length * m
  | [], _ => Nat.zero_le _
  | b :: bs, h => by
    have h1 := h b List.mem_cons_self
    have h2 := flat_len (bs := bs) fun x hx => h x (List.mem_cons_of_mem _ hx)
    rw [List.flatten_cons, List.length_append, List.length_cons, Nat.succ_mul]
    omega
theorem flat_min : ∀ {bs : List (List Int)}, (∀ b ∈ bs, 1 ≤ b.length) → bs.length ≤ bs.flatten.length
  | [], _ => Nat.zero_le _
  | b :: bs, h => by
    have h1 := h b List.mem_cons_self
    have h2 := flat_min (bs := bs) fun x hx => h x (List.mem_cons_of_mem _ hx)
    rw [List.flatten_cons, List.length_append, List.length_cons]
    omega
theorem encL_len {m : Nat} {bs : List (List Int)} (h : ∀ b ∈ bs, b.length ≤ m) (l : bs.length < big) : (encL bs).length ≤ 18 + bs.length * m := by
  unfold encL
  rw [List.length_append]
  have := encN_len18 l
  have := flat_len h
  omega
/-! ### which data have which bytes -/
abbrev Rel := PyData → List Int → Prop
inductive Els (E : Rel) : List PyData → List (List Int) → Prop
  | nil : Els E [] []
  | cons {d : PyData} {b : List Int} {ds : List PyData} {bs : List (List Int)} : E d b → Els E ds bs → Els E (d :: ds) (b :: bs)
theorem Els.length {E : Rel} {ds : List PyData} {bs : List (List Int)} (h : Els E ds bs) : ds.length = bs.length := by
  induction h with
  | nil => rfl
  | cons _ _ ih => rw [List.length_cons, List.length_cons, ih]
theorem Els.app {E : Rel} {ds es : List PyData} {bs cs : List (List Int)} (h : Els E ds bs) (h2 : Els E es cs) : Els E (ds ++ es) (bs ++ cs) := by
  induction h with
  | nil => exact h2
  | cons a _ ih => exact .cons a ih
theorem Els.get {E : Rel} {ds : List PyData} {bs : List (List Int)} (h : Els E ds bs) : ∀ {i : Nat} {d : PyData}, ds[i]? = some d → ∃ b, bs[i]? = some b ∧ E d b := by
  induction h with
  | nil => intro i d e; cases e
  | cons a _ ih =>
    intro i d e
    cases i with
    | zero => cases e; exact ⟨_, rfl, a⟩
    | succ i => exact ih (i := i) e
theorem Els.all {E : Rel} {ds : List PyData} {bs : List (List Int)} (h : Els E ds bs) : (∀ d ∈ ds, ∃ b, E d b) ∧ ∀ b ∈ bs, ∃ d, E d b := by
  induction h with
  | nil => exact ⟨fun d h => (by cases h), fun b h => by cases h⟩
  | cons a _ ih =>
    refine ⟨fun d h => ?_, fun b h => ?_⟩
    · rcases List.mem_cons.mp h with rfl | h
      · exact ⟨_, a⟩
      · exact ih.1 d h
    · rcases List.mem_cons.mp h with rfl | h
      · exact ⟨_, a⟩
      · exact ih.2 b h
inductive EV : Rel
  | int (i : Int) : i.natAbs < big → EV (.int i) ([0, if i < 0 then 1 else 0] ++ encN i.natAbs)
  | str (s : Str) : GoodS s → EV (.str s) ([1] ++ encS s)
/-- a tuple of such things -/
inductive ETup (E : Rel) (m : Nat) : Rel
  | mk {ds : List PyData} {bs : List (List Int)} : Els E ds bs → ds.length ≤ m → ETup E m (.tuple ds) (encL bs)
abbrev ERow : Rel := ETup EV 5
inductive ET : Rel
  | any : ET (.tuple [.str "any"]) [2]
  | val {d : PyData} {b : List Int} : EV d b → ET (.tuple [.str "value", d]) ([0] ++ b)
  | var {s : Str} : GoodS s → ET (.tuple [.str "variable", .str s]) ([1] ++ encS s)
abbrev ETs : Rel := ETup ET 5
def opsC : List Str := ["=", "<>", "<", "<=", ">", ">="]
def opsR : List Str := ["+", "-", "*"]
inductive ELit : Rel
  | fact {r : Str} {t : PyData} {b : List Int} : GoodS r → ETs t b → ELit (.tuple [.str "fact", .str r, t]) ([0] ++ encS r ++ b)
  | notl {r : Str} {t : PyData} {b : List Int} : GoodS r → ETs t b → ELit (.tuple [.str "not", .str r, t]) ([1] ++ encS r ++ b)
  | cmp {k : Nat} {o : Str} {x y : PyData} {a b : List Int} : opsC[k]? = some o → ET x a → ET y b → ELit (.tuple [.str "compare", .str o, x, y]) ([2, (k : Int)] ++ a ++ b)
  | isl {k : Nat} {v o : Str} {x y : PyData} {a b : List Int} : GoodS v → opsR[k]? = some o → ET x a → ET y b → ELit (.tuple [.str "is", .str v, .str o, x, y]) ([3] ++ encS v ++ [(k : Int)] ++ a ++ b)
  | cnt {v r : Str} {t : PyData} {b : List Int} : GoodS v → GoodS r → ETs t b → ELit (.tuple [.str "count", .str v, .str r, t]) ([4] ++ encS v ++ encS r ++ b)
abbrev EB : Rel := ETup ELit 5
inductive EI : It1 → List Int → Prop
  | rel {nm : Str} {n : Nat} : GoodS nm → n < 100 → EI (.rel nm n) ([0] ++ encS nm ++ encN n)
  | fact {nm : Str} {ds : List PyData} {b : List Int} : GoodS nm → ERow (.tuple ds) b → EI (.fact nm ds) ([1] ++ encS nm ++ b)
  | rule {nm rl : Str} {ts bd : PyData} {a b : List Int} : GoodS nm → GoodS rl → ETs ts a → EB bd b → EI (.rule nm rl ts bd) ([2] ++ encS nm ++ encS rl ++ a ++ b)
  | den {nm : Str} {bd : PyData} {b : List Int} : GoodS nm → EB bd b → EI (.den nm bd) ([3] ++ encS nm ++ b)
inductive EItem : Rel
  | mk {i : It1} {b : List Int} : EI i b → EItem (itD i) b
inductive EC : Rel
  | comes {d : PyData} {b : List Int} : EItem d b → EC (.tuple [.str "comes", d]) ([0] ++ b)
  | goes {k : Nat} {nm : Str} {r : PyData} {b : List Int} : k < 4 → GoodS nm → ERow r b → EC (.tuple [.str "goes", .tuple [.int (k : Int), .str nm, r]]) ([1, (k : Int)] ++ encS nm ++ b)
/-! ### bounds -/
theorem EV.len {d : PyData} {b : List Int} (h : EV d b) : 1 ≤ b.length ∧ b.length ≤ 120 := by
  cases h with
  | int i h =>
    have := encN_len18 h
    rw [List.length_append]
    show 1 ≤ 2 + _ ∧ 2 + _ ≤ 120
    omega
  | str s h =>
    have := encS_len h
    rw [List.length_append]
    show 1 ≤ 1 + _ ∧ 1 + _ ≤ 120
    omega
theorem ETup.len {E : Rel} {m n : Nat} (hE : ∀ {d b}, E d b → 1 ≤ b.length ∧ b.length ≤ n) (hm : m < big) {d : PyData} {b : List Int} (h : ETup E m d b) : 1 ≤ b.length ∧ b.length ≤ 18 + m * n := by
  cases h with
  | @mk ds bs h l =>
    refine ⟨encL_pos bs, ?_⟩
    have le := h.length
    have := encL_len (m := n) (bs := bs) (fun b hb => by obtain ⟨d, hd⟩ := h.all.2 b hb; exact (hE hd).2) (by omega)
    have := Nat.mul_le_mul_right n (show bs.length ≤ m by omega)
    omega
theorem ERow.len {d : PyData} {b : List Int} (h : ERow d b) : 1 ≤ b.length ∧ b.length ≤ 618 := ETup.len EV.len (by decide) h
theorem ET.len {d : PyData} {b : List Int} (h : ET d b) : 1 ≤ b.length ∧ b.length ≤ 121 := by
  cases h with
  | any => exact ⟨by decide, by decide⟩
  | val h =>
    have := h.len
    rw [List.length_append]
    show 1 ≤ 1 + _ ∧ 1 + _ ≤ 121
    omega
  | var h =>
    have := encS_len h
    rw [List.length_append]
    show 1 ≤ 1 + _ ∧ 1 + _ ≤ 121
    omega
theorem ETs.len {d : PyData} {b : List Int} (h : ETs d b) : 1 ≤ b.length ∧ b.length ≤ 623 := ETup.len ET.len (by decide) h
theorem ELit.len {d : PyData} {b : List Int} (h : ELit d b) : 1 ≤ b.length ∧ b.length ≤ 900 := by
  cases h with
  | fact h1 h2 =>
    have := encS_len h1
    have := h2.len
    rw [List.length_append, List.length_append]
    show 1 ≤ 1 + _ + _ ∧ 1 + _ + _ ≤ 900
    omega
  | notl h1 h2 =>
    have := encS_len h1
    have := h2.len
    rw [List.length_append, List.length_append]
    show 1 ≤ 1 + _ + _ ∧ 1 + _ + _ ≤ 900
    omega
  | cmp _ h1 h2 =>
    have := h1.len
    have := h2.len
    rw [List.length_append, List.length_append]
    show 1 ≤ 2 + _ + _ ∧ 2 + _ + _ ≤ 900
    omega
  | isl h0 _ h1 h2 =>
    have := encS_len h0
    have := h1.len
    have := h2.len
    rw [List.length_append, List.length_append, List.length_append, List.length_append]
    show 1 ≤ 1 + _ + 1 + _ + _ ∧ 1 + _ + 1 + _ + _ ≤ 900
    omega
  | cnt h0 h1 h2 =>
    have := encS_len h0
    have := encS_len h1
    have := h2.len
    rw [List.length_append, List.length_append, List.length_append]
    show 1 ≤ 1 + _ + _ + _ ∧ 1 + _ + _ + _ ≤ 900
    omega
theorem EB.len {d : PyData} {b : List Int} (h : EB d b) : 1 ≤ b.length ∧ b.length ≤ 4518 := ETup.len ELit.len (by decide) h
theorem EI.len {i : It1} {b : List Int} (h : EI i b) : 1 ≤ b.length ∧ b.length ≤ 5400 := by
  cases h with
  | rel h0 h1 =>
    have := encS_len h0
    have := encN_len18 (Nat.lt_trans h1 (show 100 < big by decide))
    rw [List.length_append, List.length_append]
    show 1 ≤ 1 + _ + _ ∧ 1 + _ + _ ≤ 5400
    omega
  | fact h0 h1 =>
    have := encS_len h0
    have := h1.len
    rw [List.length_append, List.length_append]
    show 1 ≤ 1 + _ + _ ∧ 1 + _ + _ ≤ 5400
    omega
  | rule h0 h1 h2 h3 =>
    have := encS_len h0
    have := encS_len h1
    have := h2.len
    have := h3.len
    rw [List.length_append, List.length_append, List.length_append, List.length_append]
    show 1 ≤ 1 + _ + _ + _ + _ ∧ 1 + _ + _ + _ + _ ≤ 5400
    omega
  | den h0 h1 =>
    have := encS_len h0
    have := h1.len
    rw [List.length_append, List.length_append]
    show 1 ≤ 1 + _ + _ ∧ 1 + _ + _ ≤ 5400
    omega
theorem EItem.len {d : PyData} {b : List Int} (h : EItem d b) : 1 ≤ b.length ∧ b.length ≤ 5400 := by
  cases h with
  | mk h => exact h.len
theorem EC.len {d : PyData} {b : List Int} (h : EC d b) : 1 ≤ b.length ∧ b.length ≤ 5401 := by
  cases h with
  | comes h =>
    have := h.len
    rw [List.length_append]
    show 1 ≤ 1 + _ ∧ 1 + _ ≤ 5401
    omega
  | goes _ h0 h1 =>
    have := encS_len h0
    have := h1.len
    rw [List.length_append, List.length_append]
    show 1 ≤ 2 + _ + _ ∧ 2 + _ + _ ≤ 5401
    omega
end KV

namespace KV
open PySem PySem.Spec PyProof.Rows L2 KA
/-! ### what an expression gives: a list of ints that is new; a value at once -/
def Yl (te : TE) (σ : L2.St) (H : Hp) (b : List Int) : Prop := ∀ Q : VK, (∀ p H', Same H H' → H p = none → H' p = some (.lst (b.map V.int)) → Q (.ref p) H') → te σ H Q
def Yv (te : TE) (σ : L2.St) (H : Hp) (v : V) : Prop := ∀ Q : VK, Q v H → te σ H Q
def spW (E : Rel) : Sp := fun vs H Q _ => ∃ v d b, vs = [v] ∧ Tp H v d ∧ E d b ∧ ∀ p H', Same H H' → H p = none → H' p = some (.lst (b.map V.int)) → Q (.ref p) H'
def spWN : Sp := fun vs H Q _ => ∃ n : Nat, vs = [.int (n : Int)] ∧ n < big ∧ ∀ p H', Same H H' → H p = none → H' p = some (.lst ((encN n).map V.int)) → Q (.ref p) H'
def spWS : Sp := fun vs H Q _ => ∃ s : Str, vs = [.str s] ∧ GoodS s ∧ ∀ p H', Same H H' → H p = none → H' p = some (.lst ((encS s).map V.int)) → Q (.ref p) H'
def spWL : Sp := fun vs H Q _ => ∃ (a : Addr) (xs : List V) (bs : List (List Int)), vs = [.ref a] ∧ H a = some (.lst xs) ∧ Ils H xs bs ∧ bs.flatten.length ≤ 8000000 ∧ bs.length ≤ 1000 ∧ ∀ p H', Same H H' → H p = none → H' p = some (.lst ((encL bs).map V.int)) → Q (.ref p) H'
section
variable {σ : L2.St} {H : Hp} {K : PySem.W.Frag} {t u : TE} {v : V} {a b : List Int} {p : Addr} {xs : List V} {i j : Nat} {E : Rel} {dvs : XK} {d : PyData}
theorem yv_c : Yv (tC v) σ H v := fun Q q => q
theorem yv_var (h : σ[i]? = some (some v)) : Yv (tVar i) σ H v := fun Q q => ⟨v, h, q⟩
theorem yv_ix {k : Int} (h : Yv t σ H (.ref p)) (e : H p = some (.tup xs)) (ei : atI xs k = some v) : Yv (tOp (rIxT K) t (tC (.int k))) σ H v := fun Q q => h _ ⟨p, xs, k, v, rfl, rfl, SqT.of e, ei, q⟩
theorem len8 {n : Nat} (h : n ≤ 16000000) : n ≤ sizeLine := by rw [sizeLine_eq]; omega
theorem yl_cat (h1 : Yl t σ H a) (h2 : ∀ H', Same H H' → Yl u σ H' b) (l : a.length + b.length ≤ 16000000) : Yl (tOp rCat t u) σ H (a ++ b) := fun Q q =>
  h1 _ fun p1 H1 s1 n1 e1 => h2 H1 s1 _ fun p2 H2 s2 n2 e2 => ⟨p1, p2, _, _, rfl, rfl, s2 _ _ e1, e2, len8 (by rw [List.length_map, List.length_map]; exact l), fun p3 n3 => by
    have s12 := s1.trans s2
    refine q p3 _ (s12.trans (same_new n3)) ?_ (by rw [upd_same, List.map_append])
    cases c : H p3 with
    | none => rfl
    | some o => rw [s12 _ _ c] at n3; cases n3⟩
theorem yl_one {k : Int} (h : Yv t σ H (.int k)) : Yl (tLst (tCons t tNil)) σ H [k] := fun Q q => h _ ⟨by show 1 ≤ sizeLine; decide, fun p n => q p _ (same_new n) n upd_same⟩
theorem yl_two {k l : Int} (h : Yv t σ H (.int k)) (h2 : Yv u σ H (.int l)) : Yl (tLst (tCons t (tCons u tNil))) σ H [k, l] := fun Q q => h _ (h2 _ ⟨by show 2 ≤ sizeLine; decide, fun p n => q p _ (same_new n) n upd_same⟩)
theorem yl_call (h : Yv t σ H v) (tv : Tp H v d) (e : E d b) : Yl (tCall (spW E) [] dvs (tCons t tNil)) σ H b := fun Q q => h _ ⟨v, d, b, rfl, tv, e, q⟩
theorem yl_num {n : Nat} (h : Yv t σ H (.int (n : Int))) (l : n < big) : Yl (tCall spWN [] dvs (tCons t tNil)) σ H (encN n) := fun Q q => h _ ⟨n, rfl, l, q⟩
theorem yl_str {s : Str} (h : Yv t σ H (.str s)) (g : GoodS s) : Yl (tCall spWS [] dvs (tCons t tNil)) σ H (encS s) := fun Q q => h _ ⟨s, rfl, g, q⟩
theorem Yl.eq {b' : List Int} (h : Yl t σ H b) (e : b = b') : Yl t σ H b' := by rw [← e]; exact h
end
/-- a comprehension that gives lists of ints -/
theorem lc_ils {J : It} {n : Nat} {G : Hp → Prop} {Y : Nat → Hp → V → Hp → Prop} (w : Walk J n G Y) {g : TG} {tt : TT} {te : TE} {vs : List Nat} {σ : L2.St} {H1 : Hp} {D : Addr} {Qd : Hp → Prop} (bs : List (List Int)) (hl : bs.length = n) (hn : n ≤ 1000) (nD : H1 D = none)
    (hG : ∀ H, Same H1 H → G H)
    (hs : ∀ i x H2 H3 (Q : V → Hp → Prop) (R : Hp → Prop), i < n → Same H1 H2 → Y i H2 x H3 → (∀ p H5 b, Same H2 H5 → bs[i]? = some b → H5 p = some (.lst (b.map V.int)) → H2 p = none → Q (.ref p) H5) → g x (wipe σ vs) H3 fun σ2 H4 => wipe σ2 vs = wipe σ vs ∧ tt σ2 H4 fun b H5 => if b = true then te σ2 H5 Q else R H5)
    (hd : ∀ H acc, Same H1 H → H D = some (.lst acc) → Ils H acc bs → Qd H) :
    ∃ W : Nat → Nat → Hp → Prop, (∃ m, W 0 m (upd H1 D (.lst []))) ∧ ∀ i m H, W i m H →
      (J.stop i H ∧ Qd H) ∨ (J.go i H ∧ ∃ Nx : Hp → Prop, (∀ H', Nx H' → ∃ m', m' < m ∧ W (i + 1) m' H') ∧ ∀ x H', J.yld i H x H' → g x (wipe σ vs) H' fun σ2 H2 => wipe σ2 vs = wipe σ vs ∧ tt σ2 H2 fun b H3 =>
        if b = true then te σ2 H3 fun y H4 => ∃ acc, H4 D = some (.lst acc) ∧ acc.length < sizeLine ∧ Nx (upd H4 D (.lst (acc ++ [y]))) else Nx H3) := by
  have out : ∀ {H H' : Hp} {vs : List V} {ds : List (List Int)} {zs zs' : List V}, H D = some (.lst zs) → (∀ v ∈ vs, v ≠ .ref D) → Ils H vs ds → H' = upd H D (.lst zs') → Ils H' vs ds := fun {H H' vs ds zs zs'} eD hv hi e => by
    induction hi with
    | nil => exact .nil
    | @cons v vs d ds a r ih =>
      obtain ⟨p, rfl, ep⟩ := a
      have np : p ≠ D := fun z => hv (.ref p) List.mem_cons_self (by rw [z])
      exact .cons ⟨p, rfl, by rw [e, upd_ne np]; exact ep⟩ (ih fun x hx => hv x (List.mem_cons_of_mem _ hx))
  refine lc_it w (fun i H => Same H1 H ∧ ∃ acc, H D = some (.lst acc) ∧ (∀ v ∈ acc, v ≠ .ref D) ∧ Ils H acc (bs.take i)) ⟨same_new nD, [], upd_same, (fun v h => by cases h), .nil⟩ (fun i H _ hP => hG H hP.1) (fun i x H H' hi hP hY => ?_) (fun H hP => ?_)
  · obtain ⟨sm, acc, eD, hv, ta⟩ := hP
    refine hs i x H H' _ _ hi sm hY fun p H5 b s5 eb ep np => ?_
    have la := ta.length
    rw [List.length_take] at la
    have eD5 := s5 _ _ eD
    have npD : p ≠ D := fun z => by rw [z, eD] at np; cases np
    refine ⟨acc, eD5, by rw [sizeLine_eq]; omega, same_put (sm.trans s5) nD, _, upd_same, fun v h => ?_, ?_⟩
    · rcases List.mem_append.mp h with h | h
      · exact hv v h
      · rw [List.mem_singleton.mp h]
        exact fun z => npD (by injection z)
    · have e1 : bs.take (i + 1) = bs.take i ++ [b] := by rw [List.take_add_one, eb]; rfl
      rw [e1]
      exact (out eD5 hv (ta.mono s5) rfl).app (.one ⟨p, rfl, by rw [upd_ne npD]; exact ep⟩)
  · obtain ⟨sm, acc, eD, hv, ta⟩ := hP
    rw [← hl, List.take_length] at ta
    exact hd H acc sm eD ta
section
variable {σ : L2.St} {H : Hp} {K : PySem.W.Frag} {t te : TE} {a : Addr} {xs : List V} {ds : List PyData} {bs : List (List Int)} {i j : Nat} {E : Rel} {dvs : XK}
theorem set_wipe (σ : L2.St) (j : Nat) (x : Option V) : wipe ((wipe σ [j]).set j x) [j] = wipe σ [j] := by
  show ((σ.set j none).set j x).set j none = σ.set j none
  rw [List.set_set, List.set_set]
theorem slot_set {σ : L2.St} {j : Nat} {x : Option V} (h : j < σ.length) : ((wipe σ [j]).set j x)[j]? = some x := by
  show ((σ.set j none).set j x)[j]? = some x
  rw [List.getElem?_set_self (by rw [List.length_set]; exact h)]
/-- f(x) for x in a tuple -/
theorem yl_mapT (hv : Yv t σ H (.ref a)) (ea : H a = some (.tup xs)) (td : Tps H xs ds) (els : Els E ds bs) (hn : ds.length ≤ 1000) (hj : j < σ.length) (Q : VK) (q : ∀ D acc H', Same H H' → H' D = some (.lst acc) → Ils H' acc bs → Q (.ref D) H') :
    tLc (iTup K t) (gName j) tYes (tCall (spW E) [] dvs (tCons (tVar j) tNil)) [j] σ H Q := by
  refine hv _ ⟨a, rfl, ⟨xs, SqT.of ea⟩, fun D nD => ?_⟩
  have l1 := td.length
  have l2 := els.length
  refine lc_ils walk_tup bs (by omega) (by omega) nD (fun H' sm => SqT.of (sm _ _ ea)) (fun k x H5 H6 Q2 R hi sm hY qq => ?_) (fun H' acc sm eA tA => q D acc H' sm eA tA)
  obtain ⟨rfl, hx⟩ := hY
  obtain ⟨d, ed, tx⟩ := td.get hx
  obtain ⟨b, eb, hb⟩ := els.get ed
  refine ⟨set_wipe σ j _, ?_⟩
  refine iteT (B := R H6) ?_
  exact ⟨x, slot_set hj, x, d, b, rfl, tx.mono (Tk.of sm), hb, fun p H' s' n' e' => qq p H' b s' eb e' n'⟩
/-- f(x) for x in a list -/
theorem yl_mapL (hv : Yv t σ H (.ref a)) (ea : H a = some (.lst xs)) (td : Tps H xs ds) (els : Els E ds bs) (hn : ds.length ≤ 1000) (hj : j < σ.length) (Q : VK) (q : ∀ D acc H', Same H H' → H' D = some (.lst acc) → Ils H' acc bs → Q (.ref D) H') :
    tLc (iList K t) (gName j) tYes (tCall (spW E) [] dvs (tCons (tVar j) tNil)) [j] σ H Q := by
  refine hv _ ⟨a, rfl, ⟨xs, SqL.of ea⟩, fun D nD => ?_⟩
  have l1 := td.length
  have l2 := els.length
  refine lc_ils walk_list bs (by omega) (by omega) nD (fun H' sm => SqL.of (sm _ _ ea)) (fun k x H5 H6 Q2 R hi sm hY qq => ?_) (fun H' acc sm eA tA => q D acc H' sm eA tA)
  obtain ⟨rfl, hx⟩ := hY
  obtain ⟨d, ed, tx⟩ := td.get hx
  obtain ⟨b, eb, hb⟩ := els.get ed
  refine ⟨set_wipe σ j _, ?_⟩
  refine iteT (B := R H6) ?_
  exact ⟨x, slot_set hj, x, d, b, rfl, tx.mono (Tk.of sm), hb, fun p H' s' n' e' => qq p H' b s' eb e' n'⟩
end
end KV

namespace KV
open PySem PySem.Spec PyProof.Rows L2 KA
/-- more built-in names -/
structure Bt4 (mg : Str → Option Value) : Prop where
  abs : mg "abs" = none
  ord : mg "ord" = none
theorem gen_up {H H' : Hp} {p : Addr} {o : HO} (h : upd H p o = H') (n : H p = none) : Same H H' ∧ H' p = some o := by
  subst h
  exact ⟨same_new n, upd_same⟩
theorem flat_part {bs : List (List Int)} {i : Nat} {b : List Int} (eb : bs[i]? = some b) : (bs.take i).flatten.length + b.length ≤ bs.flatten.length := by
  have h := List.take_append_drop (i + 1) bs
  have e1 : bs.take (i + 1) = bs.take i ++ [b] := by rw [List.take_add_one, eb]; rfl
  rw [e1] at h
  have e2 : ((bs.take i ++ [b]) ++ bs.drop (i + 1)).flatten.length = bs.flatten.length := by rw [h]
  rw [List.flatten_append, List.flatten_append, List.length_append, List.length_append] at e2
  have : ([b] : List (List Int)).flatten.length = b.length := by simp
  omega
section
variable {P : Program} {w : World} {K : PySem.W.Frag} {mg : Str → Option Value} {base : Heap}
abbrev dWN (P : Program) (w : World) (K : PySem.W.Frag) (mg : Str → Option Value) (base : Heap) : Prop := Def P w K mg base "write_number" 1 ["number"] spWN
abbrev dCN (P : Program) (w : World) (K : PySem.W.Frag) (mg : Str → Option Value) (base : Heap) : Prop := Def P w K mg base "_law_number" 1 ["number"] spWN
abbrev dWL (P : Program) (w : World) (K : PySem.W.Frag) (mg : Str → Option Value) (base : Heap) : Prop := Def P w K mg base "write_list" 2 ["parts"] spWL
abbrev dCLd (P : Program) (w : World) (K : PySem.W.Frag) (mg : Str → Option Value) (base : Heap) : Prop := Def P w K mg base "_law_listed" 2 ["parts"] spWL
abbrev sWN : Stmt := topS 17
abbrev nWN : List Str := ["number", "made", "rest"]
theorem scWN : FnScope nWN ["number"] (defScope sWN) := ⟨rfl, rfl, rfl, by decide +kernel, rfl, by decide +kernel, by decide +kernel⟩
theorem big_small {n : Nat} (h : n < big) : (n : Int) < 2 ^ 200 := by
  have : n < 2 ^ 200 := Nat.lt_of_lt_of_le h (by decide)
  exact_mod_cast this
theorem ok_wn {f : Addr} {fd : FuncData} (F : Fun K "write_number" "write_number" sWN f fd) : FnOk P w K mg base CX0 1 f fd ["number"] spWN := by
  refine F.ok scWN (fun vs H Q E h => ?_) (fun cdv A outer s H vs Q E hr h => ?_)
  · obtain ⟨_, rfl, _⟩ := h
    rfl
  · obtain ⟨n, rfl, hn, q⟩ := h
    refine ⟨_, (pss_cons (ps_set (i := 1) scWN.nd rfl (.inl rfl) (pe_lst pa_nil))
      (pss_cons (ps_set (i := 2) scWN.nd rfl (.inl rfl) (pv 0))
      (pss_cons (ps_while PassesOwn.never (pt_cmpR op_gt (pv 2) pe_int (nomark _))
        (pss_cons (ps_expr (pe_bm PySem.F.plainAttrs_list PySem.F.slot_list_append PySem.F.type_list_append mt_append (pv 1) (pa_cons (pe_op op_add pe_int (pe_op op_mod (pv 2) pe_int)) pa_nil)))
        (pss_one (ps_set (i := 2) scWN.nd rfl (.inl rfl) (pe_op op_fdiv (pv 2) pe_int)))))
      (pss_cons (ps_expr (pe_bm PySem.F.plainAttrs_list PySem.F.slot_list_append PySem.F.type_list_append mt_append (pv 1) (pa_cons (pv 2) pa_nil)))
      (pss_one (ps_ret (pv 1))))))), ?_⟩
    refine ⟨Nat.zero_le _, fun p np => ?_⟩
    generalize hG : upd _ p _ = H1
    obtain ⟨s1, e1⟩ := gen_up hG np
    clear hG
    refine ⟨.int (n : Int), rfl, ?_⟩
    refine ⟨fun m σ H' => ∃ (r : Nat) (acc : List Int), σ = [some (.int (n : Int)), some (.ref p), some (.int (r : Int))] ∧ (∀ a o, a ≠ p → H a = some o → H' a = some o) ∧ H' p = some (.lst (acc.map V.int)) ∧ acc ++ encN r = encN n ∧ m = r, ⟨n, n, [], rfl, fun a o _ h => s1 _ _ h, e1, rfl, rfl⟩, fun m σ H' hW => ?_⟩
    obtain ⟨r, acc, rfl, kp, ep, eq, rfl⟩ := hW
    have lacc : acc.length + 1 ≤ 18 := by
      have h1 := encN_len18 hn
      have h2 := encN_pos m
      rw [← eq, List.length_append] at h1
      omega
    refine ⟨_, rfl, _, _, rfl, rfl, _, rfl, ite2 (fun c => ?_) (fun c => ?_)⟩
    · have c1 : (127 : Int) < m := of_decide_eq_true c
      have hm : ¬ m ≤ 127 := by omega
      refine ⟨fun σ' H' => ∃ m', m' < m ∧ ∃ (r : Nat) (acc : List Int), σ' = [some (.int (n : Int)), some (.ref p), some (.int (r : Int))] ∧ (∀ a o, a ≠ p → H a = some o → H' a = some o) ∧ H' p = some (.lst (acc.map V.int)) ∧ acc ++ encN r = encN n ∧ m' = r, fun σ' H' h => h, ?_⟩
      refine ⟨.ref p, rfl, .inl ⟨rfl, _, SqL.of ep⟩, _, rfl, _, _, rfl, rfl, (by show (0 : Int) < 128; decide), _, _, rfl, rfl, ?_⟩
      refine ⟨p, _, _, rfl, rfl, ep, by rw [sizeLine_eq, List.length_map]; omega, ?_⟩
      refine ⟨_, rfl, _, _, rfl, rfl, ⟨by decide, by decide⟩, m / 128, by omega, m / 128, acc ++ [128 + ((m % 128 : Nat) : Int)], ?_, fun a o n h => by rw [upd_ne n]; exact kp a o n h, ?_, ?_, rfl⟩
      · show _ = [some (V.int (n : Int)), some (V.ref p), some (V.int ((m / 128 : Nat) : Int))]
        rw [Int.natCast_ediv]
        rfl
      · rw [upd_same, List.map_append]
        rfl
      · rw [List.append_assoc, ← eq, encN_hi hm]
        rfl
    · have c1 : ¬ (127 : Int) < m := fun z => c (decide_eq_true z)
      have hm : m ≤ 127 := by omega
      refine ⟨.ref p, rfl, .inl ⟨rfl, _, SqL.of ep⟩, _, rfl, p, _, _, rfl, rfl, ep, by rw [sizeLine_eq, List.length_map]; omega, ?_⟩
      refine ⟨.ref p, rfl, q p _ (fun a o h => ?_) np ?_⟩
      · have nap : a ≠ p := fun z => by rw [z, np] at h; cases h
        rw [upd_ne nap]
        exact kp a o nap h
      · rw [upd_same, ← eq, encN_lo hm, List.map_append]
        rfl
abbrev sWL : Stmt := topS 18
abbrev nWL : List Str := ["parts", "made", "part"]
theorem scWL : FnScope nWL ["parts"] (defScope sWL) := ⟨rfl, rfl, rfl, by decide +kernel, rfl, by decide +kernel, by decide +kernel⟩
theorem ok_wl {f : Addr} {fd : FuncData} (F : Fun K "write_list" "write_list" sWL f fd) (B : Bt mg) (DWN : dWN P w K mg base) : FnOk P w K mg base CX0 2 f fd ["parts"] spWL := by
  refine F.ok scWL (fun vs H Q E h => ?_) (fun cdv A outer s H vs Q E hr h => ?_)
  · obtain ⟨_, _, _, rfl, _⟩ := h
    rfl
  · obtain ⟨a, xs, bs, rfl, ea, ib, hf, hl, q⟩ := h
    refine ⟨_, (pss_cons (ps_set (i := 1) scWL.nd rfl (.inl rfl) (pe_def DWN (hr.mono (by decide)) (by rfl) (pa_cons (pe_callB call_len_seq (by rfl) B.len PySem.boot_len (pa_cons (pv 0) pa_nil)) pa_nil)))
      (pss_cons (ps_for PassesOwn.never rfl (pi_list (pv 0)) (pg_name (i := 2) scWL.nd rfl (Or.inl rfl))
        (pss_one (ps_expr (pe_bm PySem.F.plainAttrs_list PySem.F.slot_list_extend PySem.F.type_list_extend mt_extend (pv 1) (pa_cons (pv 2) pa_nil)))))
      (pss_one (ps_ret (pv 1))))), ?_⟩
    have lx := ib.length
    refine ⟨.ref a, rfl, a, xs, rfl, .inl (SqL.of ea), xs.length, rfl, Nat.lt_of_le_of_lt (by omega : xs.length ≤ 1000) (by decide), fun p H1 s1 n1 e1 => ?_⟩
    refine ⟨.ref a, rfl, a, rfl, ⟨_, SqL.of (s1 _ _ ea)⟩, ?_⟩
    have l18 := encN_len18 (n := xs.length) (Nat.lt_of_le_of_lt (by omega : xs.length ≤ 1000) (by decide))
    refine for_list (K := K) (a := a) (xs := xs) (fun i σ H' => (∃ y, σ = [some (.ref a), some (.ref p), y]) ∧ (∀ c o, c ≠ p → H c = some o → H' c = some o) ∧ H' p = some (.lst ((encN bs.length ++ (bs.take i).flatten).map V.int))) ⟨⟨_, rfl⟩, fun c o _ h => s1 _ _ h, by rw [e1, lx]; simp⟩ (fun i σ H' _ hP => SqL.of (hP.2.1 _ _ (fun z => by rw [z, n1] at ea; cases ea) ea)) (fun i x σ H' hi hP => ?_) (fun σ H' hP => ?_)
    · obtain ⟨⟨y, rfl⟩, kp, ep⟩ := hP
      obtain ⟨b, eb, p2, rfl, ep2⟩ := ib.get hi
      have np2 : p2 ≠ p := fun z => by rw [z, n1] at ep2; cases ep2
      have lf := flat_part eb
      refine ⟨.ref p, rfl, .inl ⟨rfl, _, SqL.of ep⟩, .ref p2, rfl, p, p2, _, _, rfl, rfl, ep, kp _ _ np2 ep2, ?_, ?_⟩
      · rw [sizeLine_eq, List.length_map, List.length_map, List.length_append]
        rw [lx] at l18
        omega
      · refine ⟨⟨_, rfl⟩, fun c o n h => by rw [upd_ne n]; exact kp c o n h, ?_⟩
        rw [upd_same, ← List.map_append, List.append_assoc, List.take_add_one, eb]
        congr 3
        rw [List.flatten_append]
        simp
    · obtain ⟨⟨y, rfl⟩, kp, ep⟩ := hP
      rw [lx, List.take_length] at ep
      refine ⟨.ref p, rfl, q p _ (fun c o h => kp c o (fun z => by rw [z, n1] at h; cases h) h) n1 ep⟩
abbrev sCN : Stmt := topS 52
abbrev nCN : List Str := ["number", "data", "k"]
theorem scCN : FnScope nCN ["number"] (defScope sCN) := ⟨rfl, rfl, rfl, by decide +kernel, rfl, by decide +kernel, by decide +kernel⟩
theorem ok_cn {f : Addr} {fd : FuncData} (F : Fun K "_law_number" "_law_number" sCN f fd) (B : Bt mg) : FnOk P w K mg base CX0 1 f fd ["number"] spWN := by
  refine F.ok scCN (fun vs H Q E h => ?_) (fun cdv A outer s H vs Q E hr h => ?_)
  · obtain ⟨_, rfl, _⟩ := h
    rfl
  · obtain ⟨n, rfl, hn, q⟩ := h
    refine ⟨_, (pss_cons (ps_set (i := 1) scCN.nd rfl (.inl rfl) (pe_lst pa_nil))
      (pss_cons (ps_for PassesOwn.never rfl (pi_range1 (by rfl) B.rng (pa_cons pe_int pa_nil)) (pg_name (i := 2) scCN.nd rfl (Or.inl rfl))
        (pss_one (ps_if (pt_cmpR op_gt (pv 0) pe_int (nomark _))
          (pss_cons (ps_expr (pe_bm PySem.F.plainAttrs_list PySem.F.slot_list_append PySem.F.type_list_append mt_append (pv 1) (pa_cons (pe_op op_add pe_int (pe_op op_mod (pv 0) pe_int)) pa_nil)))
          (pss_one (ps_set (i := 0) scCN.nd rfl (.inl rfl) (pe_op op_fdiv (pv 0) pe_int))))
          pss_nil)))
      (pss_one (ps_ret (pe_op op_cat (pv 1) (pe_lst (pa_cons (pv 0) pa_nil))))))), ?_⟩
    refine ⟨Nat.zero_le _, fun p np => ?_⟩
    generalize hG : upd _ p _ = H1
    obtain ⟨s1, e1⟩ := gen_up hG np
    clear hG
    refine ⟨20, rfl, by decide, by decide, ?_⟩
    refine for_range (lo := 0) (n := (20 : Int).toNat) (fun j σ H' => ∃ (r : Nat) (acc : List Int) (y : Option V), σ = [some (.int (r : Int)), some (.ref p), y] ∧ (∀ a o, a ≠ p → H a = some o → H' a = some o) ∧ H' p = some (.lst (acc.map V.int)) ∧ acc ++ encN r = encN n ∧ (r ≤ 127 ∨ r < 128 ^ (20 - j))) ⟨n, [], _, rfl, fun a o _ h => s1 _ _ h, e1, rfl, .inr (Nat.lt_of_lt_of_le hn (by decide))⟩ (fun j σ H' hj hP => ?_) (fun σ H' hP => ?_)
    · obtain ⟨r, acc, y, rfl, kp, ep, eq, hr'⟩ := hP
      have lacc : acc.length + 1 ≤ 18 := by
        have h1 := encN_len18 hn
        have h2 := encN_pos r
        rw [← eq, List.length_append] at h1
        omega
      refine ⟨_, rfl, _, _, rfl, rfl, _, rfl, ite2 (fun c => ?_) (fun c => ?_)⟩
      · have c1 : (127 : Int) < r := of_decide_eq_true c
        have hm : ¬ r ≤ 127 := by omega
        refine ⟨.ref p, rfl, .inl ⟨rfl, _, SqL.of ep⟩, _, rfl, _, _, rfl, rfl, (by show (0 : Int) < 128; decide), _, _, rfl, rfl, ?_⟩
        refine ⟨p, _, _, rfl, rfl, ep, by rw [sizeLine_eq, List.length_map]; omega, ?_⟩
        refine ⟨_, rfl, _, _, rfl, rfl, ⟨by decide, by decide⟩, r / 128, acc ++ [128 + ((r % 128 : Nat) : Int)], some (.int (0 + (j : Int))), ?_, fun a o n h => by rw [upd_ne n]; exact kp a o n h, ?_, ?_, .inr ?_⟩
        · show _ = [some (V.int ((r / 128 : Nat) : Int)), some (V.ref p), _]
          rw [Int.natCast_ediv]
          rfl
        · rw [upd_same, List.map_append]
          rfl
        · rw [List.append_assoc, ← eq, encN_hi hm]
          rfl
        · have hj2 : j < 20 := hj
          rcases hr' with z | z
          · exact absurd z hm
          · have e : 20 - j = (20 - (j + 1)) + 1 := by omega
            rw [e, Nat.pow_succ] at z
            exact Nat.div_lt_of_lt_mul (by rw [Nat.mul_comm]; exact z)
      · have c1 : ¬ (127 : Int) < r := fun z => c (decide_eq_true z)
        exact ⟨r, acc, _, rfl, kp, ep, eq, .inl (by omega)⟩
    · obtain ⟨r, acc, y, rfl, kp, ep, eq, hr'⟩ := hP
      have hm : r ≤ 127 := by
        rcases hr' with z | z
        · exact z
        · have z : r < 1 := z
          omega
      have lacc : acc.length + 1 ≤ 18 := by
        have h1 := encN_len18 hn
        have h2 := encN_pos r
        rw [← eq, List.length_append] at h1
        omega
      refine ⟨.ref p, rfl, .int (r : Int), rfl, (by show 1 ≤ sizeLine; decide), fun p2 np2 => ?_⟩
      generalize hG : upd _ p2 _ = H2
      obtain ⟨s2, e2⟩ := gen_up hG np2
      clear hG
      have sH : ∀ {a o}, H a = some o → H2 a = some o := fun {a o} h => s2 _ _ (kp a o (fun z => by rw [z, np] at h; cases h) h)
      refine ⟨p, p2, _, _, rfl, rfl, s2 _ _ ep, e2, by rw [sizeLine_eq, List.length_map]; show _ + 1 ≤ _; omega, fun p3 n3 => q p3 _ (fun a o h => ?_) ?_ ?_⟩
      · rw [upd_ne (fun z => by rw [z] at h; rw [sH h] at n3; cases n3)]
        exact sH h
      · cases c : H p3 with
        | none => rfl
        | some o => rw [sH c] at n3; cases n3
      · rw [upd_same, ← eq, encN_lo hm, List.map_append]
        rfl
abbrev sCLd : Stmt := topS 53
abbrev nCLd : List Str := ["parts", "data", "part"]
theorem scCLd : FnScope nCLd ["parts"] (defScope sCLd) := ⟨rfl, rfl, rfl, by decide +kernel, rfl, by decide +kernel, by decide +kernel⟩
theorem ok_cld {f : Addr} {fd : FuncData} (F : Fun K "_law_listed" "_law_listed" sCLd f fd) (B : Bt mg) (DCN : dCN P w K mg base) : FnOk P w K mg base CX0 2 f fd ["parts"] spWL := by
  refine F.ok scCLd (fun vs H Q E h => ?_) (fun cdv A outer s H vs Q E hr h => ?_)
  · obtain ⟨_, _, _, rfl, _⟩ := h
    rfl
  · obtain ⟨a, xs, bs, rfl, ea, ib, hf, hl, q⟩ := h
    refine ⟨_, (pss_cons (ps_set (i := 1) scCLd.nd rfl (.inl rfl) (pe_def DCN (hr.mono (by decide)) (by rfl) (pa_cons (pe_callB call_len_seq (by rfl) B.len PySem.boot_len (pa_cons (pv 0) pa_nil)) pa_nil)))
      (pss_cons (ps_for PassesOwn.never rfl (pi_list (pv 0)) (pg_name (i := 2) scCLd.nd rfl (Or.inl rfl))
        (pss_one (ps_set (i := 1) scCLd.nd rfl (.inl rfl) (pe_op op_cat (pv 1) (pv 2)))))
      (pss_one (ps_ret (pv 1))))), ?_⟩
    have lx := ib.length
    have l18 := encN_len18 (n := xs.length) (Nat.lt_of_le_of_lt (by omega : xs.length ≤ 1000) (by decide))
    refine ⟨.ref a, rfl, a, xs, rfl, .inl (SqL.of ea), xs.length, rfl, Nat.lt_of_le_of_lt (by omega : xs.length ≤ 1000) (by decide), fun p H1 s1 n1 e1 => ?_⟩
    refine ⟨.ref a, rfl, a, rfl, ⟨_, SqL.of (s1 _ _ ea)⟩, ?_⟩
    refine for_list (K := K) (a := a) (xs := xs) (fun i σ H' => ∃ (p : Addr) (y : Option V), σ = [some (.ref a), some (.ref p), y] ∧ Same H H' ∧ H p = none ∧ H' p = some (.lst ((encN bs.length ++ (bs.take i).flatten).map V.int))) ⟨p, _, rfl, s1, n1, by rw [e1, lx]; simp⟩ (fun i σ H' _ hP => by obtain ⟨_, _, _, sm, _⟩ := hP; exact SqL.of (sm _ _ ea)) (fun i x σ H' hi hP => ?_) (fun σ H' hP => ?_)
    · obtain ⟨p, y, rfl, sm, np, ep⟩ := hP
      obtain ⟨b, eb, p2, rfl, ep2⟩ := ib.get hi
      have lf := flat_part eb
      refine ⟨.ref p, rfl, .ref p2, rfl, p, p2, _, _, rfl, rfl, ep, sm _ _ ep2, ?_, fun p3 n3 => ?_⟩
      · rw [sizeLine_eq, List.length_map, List.length_map, List.length_append]
        rw [lx] at l18
        omega
      · refine ⟨p3, _, rfl, sm.trans (same_new n3), ?_, ?_⟩
        · cases c : H p3 with
          | none => rfl
          | some o => rw [sm _ _ c] at n3; cases n3
        · rw [upd_same, ← List.map_append, List.append_assoc, List.take_add_one, eb]
          congr 3
          rw [List.flatten_append]
          simp
    · obtain ⟨p, y, rfl, sm, np, ep⟩ := hP
      rw [lx, List.take_length] at ep
      exact ⟨.ref p, rfl, q p _ sm np ep⟩
end
end KV

namespace KV
open PySem PySem.Spec PyProof.Rows L2 KA
def charsS : Str := " !\"#$&'()*+,-./0123456789:;<=>?@ABCDEFGHIJKLMNOPQRSTUVWXYZ[\\]^_`abcdefghijklmnopqrstuvwxyz{|}~"
def okC (c : Nat) : Bool := match Builtin.Str.occurrences charsS ⟨#[c]⟩ 0 charsS.length 1 with
  | i :: _ => (32 + (i : Int) + (if decide ((i : Int) > 4) = true then 1 else 0)) == (c : Int)
  | [] => false
theorem chars_at : ∀ c : Nat, c < 127 → 32 ≤ c → c ≠ 37 → okC c = true := by decide +kernel
theorem chars_ix {c : Nat} (h : GoodC c) : ∃ i rest, Builtin.Str.occurrences charsS ⟨#[c]⟩ 0 charsS.length 1 = i :: rest ∧ 32 + (i : Int) + (if decide ((i : Int) > 4) = true then 1 else 0) = (c : Int) := by
  have := chars_at c (by have := h.2.1; omega) h.1 h.2.2
  unfold okC at this
  cases e : Builtin.Str.occurrences charsS ⟨#[c]⟩ 0 charsS.length 1 with
  | nil => rw [e] at this; cases this
  | cons i rest =>
    rw [e] at this
    exact ⟨i, rest, rfl, eq_of_beq this⟩
def rSIdx : V → List V → Hp → VK → Prop := fun x xs H Q => ∃ a b i rest, x = .str a ∧ xs = [.str b] ∧ Builtin.Str.occurrences a b 0 a.length 1 = i :: rest ∧ Q (.int (i : Nat)) H
theorem mt_sIdx {X : Cx} : MtR X "str.index" rSIdx := mt_sindex
section
variable {P : Program} {w : World} {K : PySem.W.Frag} {mg : Str → Option Value} {base : Heap}
abbrev sCh : Stmt := topS 35
abbrev nCh : List Str := []
theorem scCh : FnScope nCh [] (defScope sCh) := ⟨rfl, rfl, rfl, by decide +kernel, rfl, by decide +kernel, by decide +kernel⟩
def spCh : Sp := fun vs H Q _ => vs = [] ∧ Q (.str charsS) H
theorem ok_ch {f : Addr} {fd : FuncData} (F : Fun K "_law_characters" "_law_characters" sCh f fd) : FnOk P w K mg base CX0 1 f fd [] spCh := by
  refine F.ok scCh (fun vs H Q E h => ?_) (fun cdv A outer s H vs Q E hr h => ?_)
  · obtain ⟨rfl, _⟩ := h
    rfl
  · obtain ⟨rfl, q⟩ := h
    exact ⟨_, pss_one (ps_ret pe_str), q⟩
abbrev dCh (P : Program) (w : World) (K : PySem.W.Frag) (mg : Str → Option Value) (base : Heap) : Prop := Def P w K mg base "_law_characters" 1 [] spCh
abbrev sWS : Stmt := topS 19
abbrev nWS : List Str := ["text", "character"]
theorem scWS : FnScope nWS ["text"] (defScope sWS) := ⟨rfl, rfl, rfl, by decide +kernel, rfl, by decide +kernel, by decide +kernel⟩
theorem ok_ws {f : Addr} {fd : FuncData} (F : Fun K "write_text" "write_text" sWS f fd) (B : Bt mg) (B4 : Bt4 mg) (DWN : dWN P w K mg base) : FnOk P w K mg base CX0 2 f fd ["text"] spWS := by
  refine F.ok scWS (fun vs H Q E h => ?_) (fun cdv A outer s H vs Q E hr h => ?_)
  · obtain ⟨_, rfl, _⟩ := h
    rfl
  · obtain ⟨z, rfl, gz, q⟩ := h
    refine ⟨_, (pss_one (ps_ret (pe_op op_cat (pe_def DWN (hr.mono (by decide)) (by rfl) (pa_cons (pe_callB call_len_str (by rfl) B.len PySem.boot_len (pa_cons (pv 0) pa_nil)) pa_nil)) (pe_lc (own := [("character", 1)]) (g := (gName 1)) (tt := tYes) (te := (tCB _ (tCons (tVar 1) tNil))) rfl scWS.nd (pi_str (pv 0)) (blkOk_by (own := [("character", 1)]) (N := nWS) (sc := defScope sWS) (by decide +kernel)) (fun _ _ _ _ _ => (pg_name (i := 1) scWS.nd rfl (Or.inl rfl))) (fun _ _ _ _ _ => pts_nil) (fun _ _ _ _ _ => (pe_callB call_ord (by rfl) B4.ord (by decide +kernel) (pa_cons (pv 1) pa_nil))))))), ?_⟩
    have lz : z.length = z.cps.toList.length := by
      show z.cps.size = _
      exact Array.length_toList.symm
    have lz2 := gz.1
    refine ⟨.str z, rfl, z, rfl, by rw [sizeLine_eq]; omega, z.cps.toList.length, ?_, Nat.lt_of_le_of_lt lz2 (by decide), fun p H1 s1 n1 e1 => ?_⟩
    · rw [lz]
      rfl
    · refine ⟨.str z, rfl, z, rfl, fun D nD => ?_⟩
      have lsz : z.cps.size = z.cps.toList.length := Array.length_toList.symm
      refine lc_it walk_str (fun i H' => Same H1 H' ∧ H' D = some (.lst ((z.cps.toList.take i).map fun c : Nat => V.int (c : Int)))) ⟨same_new nD, by rw [upd_same]; rfl⟩ (fun i H' _ hP => trivial) (fun i x H' H6 hi hP hY => ?_) (fun H' hP => ?_)
      · obtain ⟨sm, eD⟩ := hP
        obtain ⟨rfl, c, ec, rfl⟩ := hY
        refine ⟨rfl, ?_⟩
        refine iteT (B := True) ?_
        refine ⟨.str ⟨#[c]⟩, rfl, ⟨#[c]⟩, rfl, rfl, _, eD, by rw [sizeLine_eq, List.length_map, List.length_take]; omega, same_put sm nD, ?_⟩
        have ec2 : z.cps.toList[i]? = some c := by rw [← Array.getElem?_toList] at ec; exact ec
        rw [upd_same, take_next ec2, List.map_append]
        rfl
      · obtain ⟨sm, eD⟩ := hP
        rw [lsz, List.take_length] at eD
        have l18 := encN_len18 (n := z.cps.toList.length) (Nat.lt_of_le_of_lt lz2 (by decide))
        refine ⟨p, D, _, _, rfl, rfl, sm _ _ e1, eD, by rw [sizeLine_eq, List.length_map, List.length_map]; omega, fun p3 n3 => ?_⟩
        have s13 := s1.trans sm
        refine q p3 _ (s13.trans (same_new n3)) ?_ ?_
        · cases c : H p3 with
          | none => rfl
          | some o => rw [s13 _ _ c] at n3; cases n3
        · rw [upd_same]
          unfold encS
          rw [List.map_append, List.map_map]
          rfl
abbrev dWS (P : Program) (w : World) (K : PySem.W.Frag) (mg : Str → Option Value) (base : Heap) : Prop := Def P w K mg base "write_text" 2 ["text"] spWS
abbrev sCS : Stmt := topS 54
abbrev nCS : List Str := ["text", "chars", "each"]
theorem scCS : FnScope nCS ["text"] (defScope sCS) := ⟨rfl, rfl, rfl, by decide +kernel, rfl, by decide +kernel, by decide +kernel⟩
theorem ok_cs {f : Addr} {fd : FuncData} (F : Fun K "_law_string_code" "_law_string_code" sCS f fd) (B : Bt mg) (DCh : dCh P w K mg base) (DCLd : dCLd P w K mg base) : FnOk P w K mg base CX0 3 f fd ["text"] spWS := by
  refine F.ok scCS (fun vs H Q E h => ?_) (fun cdv A outer s H vs Q E hr h => ?_)
  · obtain ⟨_, rfl, _⟩ := h
    rfl
  · obtain ⟨z, rfl, gz, q⟩ := h
    refine ⟨_, (pss_cons (ps_set (i := 1) scCS.nd rfl (.inr rfl) (pe_def0 DCh (hr.mono (by decide)) (by rfl)))
      (pss_one (ps_ret (pe_def DCLd (hr.mono (by decide)) (by rfl) (pa_cons (pe_lc (own := [("each", 2)]) (g := (gName 2)) (tt := tYes) (te := (tLst (tCons (tOp _ (tOp _ (tC (.int 32)) (tBM K "str" rSIdx (tVar 1) (tCons (tVar 2) tNil))) (tCB _ (tCons (tOp _ (tBM K "str" rSIdx (tVar 1) (tCons (tVar 2) tNil)) (tC (.int 4))) tNil))) tNil))) rfl scCS.nd (pi_str (pv 0)) (blkOk_by (own := [("each", 2)]) (N := nCS) (sc := defScope sCS) (by decide +kernel)) (fun _ _ _ _ _ => (pg_name (i := 2) scCS.nd rfl (Or.inl rfl))) (fun _ _ _ _ _ => pts_nil) (fun _ _ _ _ _ => (pe_lst (pa_cons (pe_op op_add (pe_op op_add pe_int (pe_bm PySem.F.plainAttrs_str PySem.F.slot_str_index PySem.F.type_str_index mt_sIdx (pv 1) (pa_cons (pv 2) pa_nil))) (pe_callTy call_int1 (by rfl) B.int (by decide +kernel) (pa_cons (pe_cmpR op_gt (pe_bm PySem.F.plainAttrs_str PySem.F.slot_str_index PySem.F.type_str_index mt_sIdx (pv 1) (pa_cons (pv 2) pa_nil)) pe_int (nomark _)) pa_nil))) pa_nil)))) pa_nil))))), ?_⟩
    have lz2 := gz.1
    have lsz : z.cps.size = z.cps.toList.length := Array.length_toList.symm
    refine ⟨rfl, ?_⟩
    refine ⟨.str z, rfl, z, rfl, fun D nD => ?_⟩
    refine lc_ils walk_str (z.cps.toList.map fun c : Nat => [(c : Int)]) (by rw [List.length_map, lsz]) (by omega) nD (fun H' sm => trivial) (fun i x H5 H6 Q2 R hi sm hY qq => ?_) (fun H' acc sm eA tA => ?_)
    · obtain ⟨rfl, c, ec, rfl⟩ := hY
      have ec2 : z.cps.toList[i]? = some c := by rw [← Array.getElem?_toList] at ec; exact ec
      obtain ⟨k, rest, e1, e2⟩ := chars_ix (gz.2 c (List.mem_of_getElem? ec2))
      refine ⟨rfl, ?_⟩
      refine iteT (B := R H6) ?_
      refine ⟨.str charsS, rfl, rfl, .str ⟨#[c]⟩, rfl, charsS, ⟨#[c]⟩, k, rest, rfl, rfl, e1, 32, (k : Int), rfl, rfl, .str charsS, rfl, rfl, .str ⟨#[c]⟩, rfl, charsS, ⟨#[c]⟩, k, rest, rfl, rfl, e1, (k : Int), 4, rfl, rfl, .inr ⟨_, rfl, 32 + (k : Int), _, rfl, rfl, (by show 1 ≤ sizeLine; decide), fun p np => ?_⟩⟩
      refine qq p _ [(c : Int)] (same_new np) ?_ ?_ np
      · rw [List.getElem?_map, ec2]
        rfl
      · rw [upd_same, ← e2]
        rfl
    · have hfl : ∀ l : List Nat, (l.map fun c : Nat => [(c : Int)]).flatten = l.map fun c : Nat => (c : Int) := fun l => by
        induction l with
        | nil => rfl
        | cons a l ih => rw [List.map_cons, List.flatten_cons, ih]; rfl
      refine ⟨D, acc, _, rfl, eA, tA, by rw [hfl, List.length_map]; omega, by rw [List.length_map]; omega, fun p H2 s2 n2 e3 => ?_⟩
      refine q p H2 (sm.trans s2) ?_ ?_
      · cases c : H p with
        | none => rfl
        | some o => rw [sm _ _ c] at n2; cases n2
      · rw [e3]
        unfold encL encS
        rw [hfl, List.length_map]
abbrev dCS (P : Program) (w : World) (K : PySem.W.Frag) (mg : Str → Option Value) (base : Heap) : Prop := Def P w K mg base "_law_string_code" 3 ["text"] spWS
end
end KV

namespace KV
open PySem PySem.Spec PyProof.Rows L2 KA
section
variable {H : Hp} {v : V} {a b c d e : PyData} {s : Str} {i : Int}
theorem nx_of {D : Ends} {σ : L2.St} (h : D.nx σ H) : tNext D σ H := h
theorem str_inv (t : Tp H v (.str s)) : v = .str s := by cases t; rfl
theorem int_inv (t : Tp H v (.int i)) : v = .int i := by cases t; rfl
theorem tup_inv {ds : List PyData} (t : Tp H v (.tuple ds)) : ∃ p xs, v = .ref p ∧ H p = some (.tup xs) ∧ Tps H xs ds := by
  cases t with
  | tup e r => exact ⟨_, _, rfl, e, r⟩
theorem tup_inv1 (t : Tp H v (.tuple [a])) : ∃ p x, v = .ref p ∧ H p = some (.tup [x]) ∧ Tp H x a := by
  obtain ⟨p, xs, rfl, e, r⟩ := tup_inv t
  cases r with
  | cons a1 r => cases r; exact ⟨_, _, rfl, e, a1⟩
theorem tup_inv2 (t : Tp H v (.tuple [a, b])) : ∃ p x y, v = .ref p ∧ H p = some (.tup [x, y]) ∧ Tp H x a ∧ Tp H y b := by
  obtain ⟨p, xs, rfl, e, r⟩ := tup_inv t
  cases r with
  | cons a1 r => cases r with
    | cons a2 r => cases r; exact ⟨_, _, _, rfl, e, a1, a2⟩
theorem tup_inv3 (t : Tp H v (.tuple [a, b, c])) : ∃ p x y z, v = .ref p ∧ H p = some (.tup [x, y, z]) ∧ Tp H x a ∧ Tp H y b ∧ Tp H z c := by
  obtain ⟨p, xs, rfl, e, r⟩ := tup_inv t
  cases r with
  | cons a1 r => cases r with
    | cons a2 r => cases r with
      | cons a3 r => cases r; exact ⟨_, _, _, _, rfl, e, a1, a2, a3⟩
theorem tup_inv4 (t : Tp H v (.tuple [a, b, c, d])) : ∃ p x y z w, v = .ref p ∧ H p = some (.tup [x, y, z, w]) ∧ Tp H x a ∧ Tp H y b ∧ Tp H z c ∧ Tp H w d := by
  obtain ⟨p, xs, rfl, e, r⟩ := tup_inv t
  cases r with
  | cons a1 r => cases r with
    | cons a2 r => cases r with
      | cons a3 r => cases r with
        | cons a4 r => cases r; exact ⟨_, _, _, _, _, rfl, e, a1, a2, a3, a4⟩
theorem tup_inv5 (t : Tp H v (.tuple [a, b, c, d, e])) : ∃ p x y z w u, v = .ref p ∧ H p = some (.tup [x, y, z, w, u]) ∧ Tp H x a ∧ Tp H y b ∧ Tp H z c ∧ Tp H w d ∧ Tp H u e := by
  obtain ⟨p, xs, rfl, e, r⟩ := tup_inv t
  cases r with
  | cons a1 r => cases r with
    | cons a2 r => cases r with
      | cons a3 r => cases r with
        | cons a4 r => cases r with
          | cons a5 r => cases r; exact ⟨_, _, _, _, _, _, rfl, e, a1, a2, a3, a4, a5⟩
end
section
variable {σ : L2.St} {H : Hp} {K : PySem.W.Frag} {t u : TE}
theorem yv_int1 {b : Bool} (h : ∀ Q : VK, Q (.bl b) H → t σ H Q) {r : List V → Hp → VK → Prop} (hr : ∀ Q : VK, Q (.int (if b = true then 1 else 0)) H → r [.bl b] H Q) : Yv (tCB r (tCons t tNil)) σ H (.int (if b = true then 1 else 0)) := fun Q q => h _ (hr Q q)
end
section
variable {P : Program} {w : World} {K : PySem.W.Frag} {mg : Str → Option Value} {base : Heap}
abbrev sWV : Stmt := topS 20
abbrev nWV : List Str := ["value"]
theorem scWV : FnScope nWV ["value"] (defScope sWV) := ⟨rfl, rfl, rfl, by decide +kernel, rfl, by decide +kernel, by decide +kernel⟩
theorem ok_wv {f : Addr} {fd : FuncData} (F : Fun K "write_value" "write_value" sWV f fd) (B : Bt mg) (B4 : Bt4 mg) (DWN : dWN P w K mg base) (DWS : dWS P w K mg base) : FnOk P w K mg base CX0 4 f fd ["value"] (spW EV) := by
  refine F.ok scWV (fun vs H Q E h => ?_) (fun cdv A outer s H vs Q E hr h => ?_)
  · obtain ⟨_, _, _, rfl, _⟩ := h
    rfl
  · obtain ⟨v, d, b, rfl, tv, en, q⟩ := h
    refine ⟨_, (pss_cons (ps_if (pt_val (pe_callB call_isi (by rfl) B.isi (by decide +kernel) (pa_cons (pv 0) (pa_cons (pe_bltn (v := .ty "str") (u := .type "str") (by rfl) B.str (by decide +kernel) rfl) pa_nil))))
        (pss_one (ps_ret (pe_op op_cat (pe_lst (pa_cons pe_int pa_nil)) (pe_def DWS (hr.mono (by decide)) (by rfl) (pa_cons (pv 0) pa_nil)))))
        pss_nil)
      (pss_one (ps_ret (pe_op op_cat (pe_lst (pa_cons pe_int (pa_cons (pe_callTy call_int1 (by rfl) B.int (by decide +kernel) (pa_cons (pe_cmpR op_lt (pv 0) pe_int (nomark _)) pa_nil)) pa_nil))) (pe_def DWN (hr.mono (by decide)) (by rfl) (pa_cons (pe_callB call_abs (by rfl) B4.abs (by decide +kernel) (pa_cons (pv 0) pa_nil)) pa_nil)))))), ?_⟩
    cases en with
    | str z gz =>
      have e := str_inv tv
      subst e
      refine ⟨.str z, rfl, isi_yes (.base (.str z)) (by decide +kernel) ?_⟩
      have l := encS_len gz
      exact (yl_cat (yl_one yv_c) (fun H' s => yl_str (yv_var rfl) gz) (by show 1 + _ ≤ _; omega)) _ q
    | int i hi =>
      have e := int_inv tv
      subst e
      refine ⟨.int i, rfl, isi_no (.base (.int i)) (by decide +kernel) ?_⟩
      have l := encN_len18 hi
      have e1 : (if decide (i < 0) = true then (1 : Int) else 0) = if i < 0 then 1 else 0 := by
        by_cases c : i < 0
        · rw [decide_eq_true c, if_pos rfl, if_pos c]
        · rw [decide_eq_false c, if_neg Bool.false_ne_true, if_neg c]
      have e2 : (if i < 0 then -i else i) = ((i.natAbs : Nat) : Int) := by
        by_cases c : i < 0
        · rw [if_pos c]; omega
        · rw [if_neg c]; omega
      rw [← e1] at q
      refine nx_of ?_
      dsimp only
      exact (yl_cat (yl_two yv_c (yv_int1 (b := decide (i < 0)) (fun Q q => ⟨.int i, rfl, i, 0, rfl, rfl, q⟩) (fun Q q => .inr ⟨_, rfl, q⟩))) (fun H' s => yl_num (n := i.natAbs) (fun Q q => ⟨.int i, rfl, i, rfl, by rw [e2]; exact q⟩) hi) (by show 2 + _ ≤ _; omega)) _ q
abbrev dWV (P : Program) (w : World) (K : PySem.W.Frag) (mg : Str → Option Value) (base : Heap) : Prop := Def P w K mg base "write_value" 4 ["value"] (spW EV)
abbrev sCV : Stmt := topS 55
abbrev nCV : List Str := ["value"]
theorem scCV : FnScope nCV ["value"] (defScope sCV) := ⟨rfl, rfl, rfl, by decide +kernel, rfl, by decide +kernel, by decide +kernel⟩
theorem ok_cv {f : Addr} {fd : FuncData} (F : Fun K "_law_value_code" "_law_value_code" sCV f fd) (B : Bt mg) (B4 : Bt4 mg) (DCN : dCN P w K mg base) (DCS : dCS P w K mg base) : FnOk P w K mg base CX0 4 f fd ["value"] (spW EV) := by
  refine F.ok scCV (fun vs H Q E h => ?_) (fun cdv A outer s H vs Q E hr h => ?_)
  · obtain ⟨_, _, _, rfl, _⟩ := h
    rfl
  · obtain ⟨v, d, b, rfl, tv, en, q⟩ := h
    refine ⟨_, (pss_cons (ps_if (pt_val (pe_callB call_isi (by rfl) B.isi (by decide +kernel) (pa_cons (pv 0) (pa_cons (pe_bltn (v := .ty "str") (u := .type "str") (by rfl) B.str (by decide +kernel) rfl) pa_nil))))
        (pss_one (ps_ret (pe_op op_cat (pe_lst (pa_cons pe_int pa_nil)) (pe_def DCS (hr.mono (by decide)) (by rfl) (pa_cons (pv 0) pa_nil)))))
        pss_nil)
      (pss_one (ps_ret (pe_op op_cat (pe_lst (pa_cons pe_int (pa_cons (pe_callTy call_int1 (by rfl) B.int (by decide +kernel) (pa_cons (pe_cmpR op_lt (pv 0) pe_int (nomark _)) pa_nil)) pa_nil))) (pe_def DCN (hr.mono (by decide)) (by rfl) (pa_cons (pe_callB call_abs (by rfl) B4.abs (by decide +kernel) (pa_cons (pv 0) pa_nil)) pa_nil)))))), ?_⟩
    cases en with
    | str z gz =>
      have e := str_inv tv
      subst e
      refine ⟨.str z, rfl, isi_yes (.base (.str z)) (by decide +kernel) ?_⟩
      have l := encS_len gz
      exact (yl_cat (yl_one yv_c) (fun H' s => yl_str (yv_var rfl) gz) (by show 1 + _ ≤ _; omega)) _ q
    | int i hi =>
      have e := int_inv tv
      subst e
      refine ⟨.int i, rfl, isi_no (.base (.int i)) (by decide +kernel) ?_⟩
      have l := encN_len18 hi
      have e1 : (if decide (i < 0) = true then (1 : Int) else 0) = if i < 0 then 1 else 0 := by
        by_cases c : i < 0
        · rw [decide_eq_true c, if_pos rfl, if_pos c]
        · rw [decide_eq_false c, if_neg Bool.false_ne_true, if_neg c]
      have e2 : (if i < 0 then -i else i) = ((i.natAbs : Nat) : Int) := by
        by_cases c : i < 0
        · rw [if_pos c]; omega
        · rw [if_neg c]; omega
      rw [← e1] at q
      refine nx_of ?_
      dsimp only
      exact (yl_cat (yl_two yv_c (yv_int1 (b := decide (i < 0)) (fun Q q => ⟨.int i, rfl, i, 0, rfl, rfl, q⟩) (fun Q q => .inr ⟨_, rfl, q⟩))) (fun H' s => yl_num (n := i.natAbs) (fun Q q => ⟨.int i, rfl, i, rfl, by rw [e2]; exact q⟩) hi) (by show 2 + _ ≤ _; omega)) _ q
abbrev dCV (P : Program) (w : World) (K : PySem.W.Frag) (mg : Str → Option Value) (base : Heap) : Prop := Def P w K mg base "_law_value_code" 4 ["value"] (spW EV)
abbrev sWR : Stmt := topS 21
abbrev nWR : List Str := ["row", "value"]
theorem scWR : FnScope nWR ["row"] (defScope sWR) := ⟨rfl, rfl, rfl, by decide +kernel, rfl, by decide +kernel, by decide +kernel⟩
theorem ok_wr {f : Addr} {fd : FuncData} (F : Fun K "write_row" "write_row" sWR f fd) (DWL : dWL P w K mg base) (DWV : dWV P w K mg base) : FnOk P w K mg base CX0 5 f fd ["row"] (spW ERow) := by
  refine F.ok scWR (fun vs H Q E h => ?_) (fun cdv A outer s H vs Q E hr h => ?_)
  · obtain ⟨_, _, _, rfl, _⟩ := h
    rfl
  · obtain ⟨v, d, b, rfl, tv, en, q⟩ := h
    refine ⟨_, (pss_one (ps_ret (pe_def DWL (hr.mono (by decide)) (by rfl) (pa_cons (pe_lc (own := [("value", 1)]) (g := (gName 1)) (tt := tYes) (te := (tCall (spW EV) [] E0 (tCons (tVar 1) tNil))) rfl scWR.nd (pi_tup (pv 0)) (blkOk_by (own := [("value", 1)]) (N := nWR) (sc := defScope sWR) (by decide +kernel)) (fun _ _ _ _ _ => (pg_name (i := 1) scWR.nd rfl (Or.inl rfl))) (fun _ _ _ _ _ => pts_nil) (fun _ _ _ _ _ => (pe_def DWV (hr.mono (by decide)) (by rfl) (pa_cons (pv 1) pa_nil)))) pa_nil)))), ?_⟩
    cases en with
    | @mk ds bs els hl =>
      obtain ⟨p, xs, rfl, ep, ts⟩ := tup_inv tv
      refine yl_mapT (K := K) (t := tVar 0) (j := 1) (dvs := E0) (σ := [some (.ref p), none]) (yv_var rfl) ep ts els (by omega) (by show 1 < 2; decide) (fun x H1 => spWL ([x] ++ []) H1 Q E0) fun D acc H' s' eD il => ?_
      have l := els.length
      refine ⟨D, acc, bs, rfl, eD, il, Nat.le_trans (flat_len (m := 120) fun b hb => by obtain ⟨d, hd⟩ := els.all.2 b hb; exact hd.len.2) (by omega), by omega, fun p2 H2 s2 n2 e2 => q p2 H2 (s'.trans s2) ?_ e2⟩
      cases c : H p2 with
      | none => rfl
      | some o => rw [s' _ _ c] at n2; cases n2
abbrev dWR (P : Program) (w : World) (K : PySem.W.Frag) (mg : Str → Option Value) (base : Heap) : Prop := Def P w K mg base "write_row" 5 ["row"] (spW ERow)
abbrev sCR : Stmt := topS 56
abbrev nCR : List Str := ["row", "value"]
theorem scCR : FnScope nCR ["row"] (defScope sCR) := ⟨rfl, rfl, rfl, by decide +kernel, rfl, by decide +kernel, by decide +kernel⟩
theorem ok_cr {f : Addr} {fd : FuncData} (F : Fun K "_law_row_code" "_law_row_code" sCR f fd) (DCLd : dCLd P w K mg base) (DCV : dCV P w K mg base) : FnOk P w K mg base CX0 5 f fd ["row"] (spW ERow) := by
  refine F.ok scCR (fun vs H Q E h => ?_) (fun cdv A outer s H vs Q E hr h => ?_)
  · obtain ⟨_, _, _, rfl, _⟩ := h
    rfl
  · obtain ⟨v, d, b, rfl, tv, en, q⟩ := h
    refine ⟨_, (pss_one (ps_ret (pe_def DCLd (hr.mono (by decide)) (by rfl) (pa_cons (pe_lc (own := [("value", 1)]) (g := (gName 1)) (tt := tYes) (te := (tCall (spW EV) [] E0 (tCons (tVar 1) tNil))) rfl scCR.nd (pi_tup (pv 0)) (blkOk_by (own := [("value", 1)]) (N := nCR) (sc := defScope sCR) (by decide +kernel)) (fun _ _ _ _ _ => (pg_name (i := 1) scCR.nd rfl (Or.inl rfl))) (fun _ _ _ _ _ => pts_nil) (fun _ _ _ _ _ => (pe_def DCV (hr.mono (by decide)) (by rfl) (pa_cons (pv 1) pa_nil)))) pa_nil)))), ?_⟩
    cases en with
    | @mk ds bs els hl =>
      obtain ⟨p, xs, rfl, ep, ts⟩ := tup_inv tv
      refine yl_mapT (K := K) (t := tVar 0) (j := 1) (dvs := E0) (σ := [some (.ref p), none]) (yv_var rfl) ep ts els (by omega) (by show 1 < 2; decide) (fun x H1 => spWL ([x] ++ []) H1 Q E0) fun D acc H' s' eD il => ?_
      have l := els.length
      refine ⟨D, acc, bs, rfl, eD, il, Nat.le_trans (flat_len (m := 120) fun b hb => by obtain ⟨d, hd⟩ := els.all.2 b hb; exact hd.len.2) (by omega), by omega, fun p2 H2 s2 n2 e2 => q p2 H2 (s'.trans s2) ?_ e2⟩
      cases c : H p2 with
      | none => rfl
      | some o => rw [s' _ _ c] at n2; cases n2
abbrev dCR (P : Program) (w : World) (K : PySem.W.Frag) (mg : Str → Option Value) (base : Heap) : Prop := Def P w K mg base "_law_row_code" 5 ["row"] (spW ERow)
abbrev sWT : Stmt := topS 22
abbrev nWT : List Str := ["term"]
theorem scWT : FnScope nWT ["term"] (defScope sWT) := ⟨rfl, rfl, rfl, by decide +kernel, rfl, by decide +kernel, by decide +kernel⟩
theorem ok_wt {f : Addr} {fd : FuncData} (F : Fun K "write_term" "write_term" sWT f fd) (DWS : dWS P w K mg base) (DWV : dWV P w K mg base) : FnOk P w K mg base CX0 5 f fd ["term"] (spW ET) := by
  refine F.ok scWT (fun vs H Q E h => ?_) (fun cdv A outer s H vs Q E hr h => ?_)
  · obtain ⟨_, _, _, rfl, _⟩ := h
    rfl
  · obtain ⟨v, d, b, rfl, tv, en, q⟩ := h
    refine ⟨_, (pss_cons (ps_if (pt_cmpR op_eq (pe_ix ix_tup (pv 0) pe_int (fun _ _ => rfl)) pe_str (nomark _))
        (pss_one (ps_ret (pe_op op_cat (pe_lst (pa_cons pe_int pa_nil)) (pe_def DWV (hr.mono (by decide)) (by rfl) (pa_cons (pe_ix ix_tup (pv 0) pe_int (fun _ _ => rfl)) pa_nil)))))
        pss_nil)
      (pss_cons (ps_if (pt_cmpR op_eq (pe_ix ix_tup (pv 0) pe_int (fun _ _ => rfl)) pe_str (nomark _))
        (pss_one (ps_ret (pe_op op_cat (pe_lst (pa_cons pe_int pa_nil)) (pe_def DWS (hr.mono (by decide)) (by rfl) (pa_cons (pe_ix ix_tup (pv 0) pe_int (fun _ _ => rfl)) pa_nil)))))
        pss_nil)
      (pss_one (ps_ret (pe_lst (pa_cons pe_int pa_nil)))))), ?_⟩
    cases en with
    | any =>
      obtain ⟨p, x, rfl, ep, t1⟩ := tup_inv1 tv
      have e := str_inv t1
      subst e
      refine ⟨.ref p, rfl, p, _, 0, .str "any", rfl, rfl, SqT.of ep, rfl, rfl, _, rfl, no_if (by decide +kernel) ?_⟩
      refine ⟨.ref p, rfl, p, _, 0, .str "any", rfl, rfl, SqT.of ep, rfl, rfl, _, rfl, no_if (by decide +kernel) ?_⟩
      refine nx_of ?_
      dsimp only
      exact (yl_one yv_c) _ q
    | val hv =>
      obtain ⟨p, x, y, rfl, ep, t1, t2⟩ := tup_inv2 tv
      have e := str_inv t1
      subst e
      have l := hv.len
      refine ⟨.ref p, rfl, p, _, 0, .str "value", rfl, rfl, SqT.of ep, rfl, rfl, _, rfl, yes_if ?_⟩
      exact (yl_cat (yl_one yv_c) (fun H' s => yl_call (yv_ix (yv_var rfl) (s _ _ ep) rfl) (t2.mono (Tk.of s)) hv) (by show 1 + _ ≤ _; omega)) _ q
    | @var z gz =>
      obtain ⟨p, x, y, rfl, ep, t1, t2⟩ := tup_inv2 tv
      have e := str_inv t1
      subst e
      have e := str_inv t2
      subst e
      have l := encS_len gz
      refine ⟨.ref p, rfl, p, _, 0, .str "variable", rfl, rfl, SqT.of ep, rfl, rfl, _, rfl, no_if (by decide +kernel) ?_⟩
      refine ⟨.ref p, rfl, p, _, 0, .str "variable", rfl, rfl, SqT.of ep, rfl, rfl, _, rfl, yes_if ?_⟩
      exact (yl_cat (yl_one yv_c) (fun H' s => yl_str (yv_ix (yv_var rfl) (s _ _ ep) rfl) gz) (by show 1 + _ ≤ _; omega)) _ q
abbrev dWT (P : Program) (w : World) (K : PySem.W.Frag) (mg : Str → Option Value) (base : Heap) : Prop := Def P w K mg base "write_term" 5 ["term"] (spW ET)
abbrev sCT : Stmt := topS 57
abbrev nCT : List Str := ["term"]
theorem scCT : FnScope nCT ["term"] (defScope sCT) := ⟨rfl, rfl, rfl, by decide +kernel, rfl, by decide +kernel, by decide +kernel⟩
theorem ok_ct {f : Addr} {fd : FuncData} (F : Fun K "_law_term_code" "_law_term_code" sCT f fd) (DCS : dCS P w K mg base) (DCV : dCV P w K mg base) : FnOk P w K mg base CX0 5 f fd ["term"] (spW ET) := by
  refine F.ok scCT (fun vs H Q E h => ?_) (fun cdv A outer s H vs Q E hr h => ?_)
  · obtain ⟨_, _, _, rfl, _⟩ := h
    rfl
  · obtain ⟨v, d, b, rfl, tv, en, q⟩ := h
    refine ⟨_, (pss_cons (ps_if (pt_cmpR op_eq (pe_ix ix_tup (pv 0) pe_int (fun _ _ => rfl)) pe_str (nomark _))
        (pss_one (ps_ret (pe_op op_cat (pe_lst (pa_cons pe_int pa_nil)) (pe_def DCV (hr.mono (by decide)) (by rfl) (pa_cons (pe_ix ix_tup (pv 0) pe_int (fun _ _ => rfl)) pa_nil)))))
        pss_nil)
      (pss_cons (ps_if (pt_cmpR op_eq (pe_ix ix_tup (pv 0) pe_int (fun _ _ => rfl)) pe_str (nomark _))
        (pss_one (ps_ret (pe_op op_cat (pe_lst (pa_cons pe_int pa_nil)) (pe_def DCS (hr.mono (by decide)) (by rfl) (pa_cons (pe_ix ix_tup (pv 0) pe_int (fun _ _ => rfl)) pa_nil)))))
        pss_nil)
      (pss_one (ps_ret (pe_lst (pa_cons pe_int pa_nil)))))), ?_⟩
    cases en with
    | any =>
      obtain ⟨p, x, rfl, ep, t1⟩ := tup_inv1 tv
      have e := str_inv t1
      subst e
      refine ⟨.ref p, rfl, p, _, 0, .str "any", rfl, rfl, SqT.of ep, rfl, rfl, _, rfl, no_if (by decide +kernel) ?_⟩
      refine ⟨.ref p, rfl, p, _, 0, .str "any", rfl, rfl, SqT.of ep, rfl, rfl, _, rfl, no_if (by decide +kernel) ?_⟩
      refine nx_of ?_
      dsimp only
      exact (yl_one yv_c) _ q
    | val hv =>
      obtain ⟨p, x, y, rfl, ep, t1, t2⟩ := tup_inv2 tv
      have e := str_inv t1
      subst e
      have l := hv.len
      refine ⟨.ref p, rfl, p, _, 0, .str "value", rfl, rfl, SqT.of ep, rfl, rfl, _, rfl, yes_if ?_⟩
      exact (yl_cat (yl_one yv_c) (fun H' s => yl_call (yv_ix (yv_var rfl) (s _ _ ep) rfl) (t2.mono (Tk.of s)) hv) (by show 1 + _ ≤ _; omega)) _ q
    | @var z gz =>
      obtain ⟨p, x, y, rfl, ep, t1, t2⟩ := tup_inv2 tv
      have e := str_inv t1
      subst e
      have e := str_inv t2
      subst e
      have l := encS_len gz
      refine ⟨.ref p, rfl, p, _, 0, .str "variable", rfl, rfl, SqT.of ep, rfl, rfl, _, rfl, no_if (by decide +kernel) ?_⟩
      refine ⟨.ref p, rfl, p, _, 0, .str "variable", rfl, rfl, SqT.of ep, rfl, rfl, _, rfl, yes_if ?_⟩
      exact (yl_cat (yl_one yv_c) (fun H' s => yl_str (yv_ix (yv_var rfl) (s _ _ ep) rfl) gz) (by show 1 + _ ≤ _; omega)) _ q
abbrev dCT (P : Program) (w : World) (K : PySem.W.Frag) (mg : Str → Option Value) (base : Heap) : Prop := Def P w K mg base "_law_term_code" 5 ["term"] (spW ET)
abbrev sWTs : Stmt := topS 23
abbrev nWTs : List Str := ["terms", "term"]
theorem scWTs : FnScope nWTs ["terms"] (defScope sWTs) := ⟨rfl, rfl, rfl, by decide +kernel, rfl, by decide +kernel, by decide +kernel⟩
theorem ok_wts {f : Addr} {fd : FuncData} (F : Fun K "write_terms" "write_terms" sWTs f fd) (DWL : dWL P w K mg base) (DWT : dWT P w K mg base) : FnOk P w K mg base CX0 6 f fd ["terms"] (spW ETs) := by
  refine F.ok scWTs (fun vs H Q E h => ?_) (fun cdv A outer s H vs Q E hr h => ?_)
  · obtain ⟨_, _, _, rfl, _⟩ := h
    rfl
  · obtain ⟨v, d, b, rfl, tv, en, q⟩ := h
    refine ⟨_, (pss_one (ps_ret (pe_def DWL (hr.mono (by decide)) (by rfl) (pa_cons (pe_lc (own := [("term", 1)]) (g := (gName 1)) (tt := tYes) (te := (tCall (spW ET) [] E0 (tCons (tVar 1) tNil))) rfl scWTs.nd (pi_tup (pv 0)) (blkOk_by (own := [("term", 1)]) (N := nWTs) (sc := defScope sWTs) (by decide +kernel)) (fun _ _ _ _ _ => (pg_name (i := 1) scWTs.nd rfl (Or.inl rfl))) (fun _ _ _ _ _ => pts_nil) (fun _ _ _ _ _ => (pe_def DWT (hr.mono (by decide)) (by rfl) (pa_cons (pv 1) pa_nil)))) pa_nil)))), ?_⟩
    cases en with
    | @mk ds bs els hl =>
      obtain ⟨p, xs, rfl, ep, ts⟩ := tup_inv tv
      refine yl_mapT (K := K) (t := tVar 0) (j := 1) (dvs := E0) (σ := [some (.ref p), none]) (yv_var rfl) ep ts els (by omega) (by show 1 < 2; decide) (fun x H1 => spWL ([x] ++ []) H1 Q E0) fun D acc H' s' eD il => ?_
      have l := els.length
      refine ⟨D, acc, bs, rfl, eD, il, Nat.le_trans (flat_len (m := 121) fun b hb => by obtain ⟨d, hd⟩ := els.all.2 b hb; exact hd.len.2) (by omega), by omega, fun p2 H2 s2 n2 e2 => q p2 H2 (s'.trans s2) ?_ e2⟩
      cases c : H p2 with
      | none => rfl
      | some o => rw [s' _ _ c] at n2; cases n2
abbrev dWTs (P : Program) (w : World) (K : PySem.W.Frag) (mg : Str → Option Value) (base : Heap) : Prop := Def P w K mg base "write_terms" 6 ["terms"] (spW ETs)
abbrev sCTs : Stmt := topS 58
abbrev nCTs : List Str := ["terms", "term"]
theorem scCTs : FnScope nCTs ["terms"] (defScope sCTs) := ⟨rfl, rfl, rfl, by decide +kernel, rfl, by decide +kernel, by decide +kernel⟩
theorem ok_cts {f : Addr} {fd : FuncData} (F : Fun K "_law_terms_code" "_law_terms_code" sCTs f fd) (DCLd : dCLd P w K mg base) (DCT : dCT P w K mg base) : FnOk P w K mg base CX0 6 f fd ["terms"] (spW ETs) := by
  refine F.ok scCTs (fun vs H Q E h => ?_) (fun cdv A outer s H vs Q E hr h => ?_)
  · obtain ⟨_, _, _, rfl, _⟩ := h
    rfl
  · obtain ⟨v, d, b, rfl, tv, en, q⟩ := h
    refine ⟨_, (pss_one (ps_ret (pe_def DCLd (hr.mono (by decide)) (by rfl) (pa_cons (pe_lc (own := [("term", 1)]) (g := (gName 1)) (tt := tYes) (te := (tCall (spW ET) [] E0 (tCons (tVar 1) tNil))) rfl scCTs.nd (pi_tup (pv 0)) (blkOk_by (own := [("term", 1)]) (N := nCTs) (sc := defScope sCTs) (by decide +kernel)) (fun _ _ _ _ _ => (pg_name (i := 1) scCTs.nd rfl (Or.inl rfl))) (fun _ _ _ _ _ => pts_nil) (fun _ _ _ _ _ => (pe_def DCT (hr.mono (by decide)) (by rfl) (pa_cons (pv 1) pa_nil)))) pa_nil)))), ?_⟩
    cases en with
    | @mk ds bs els hl =>
      obtain ⟨p, xs, rfl, ep, ts⟩ := tup_inv tv
      refine yl_mapT (K := K) (t := tVar 0) (j := 1) (dvs := E0) (σ := [some (.ref p), none]) (yv_var rfl) ep ts els (by omega) (by show 1 < 2; decide) (fun x H1 => spWL ([x] ++ []) H1 Q E0) fun D acc H' s' eD il => ?_
      have l := els.length
      refine ⟨D, acc, bs, rfl, eD, il, Nat.le_trans (flat_len (m := 121) fun b hb => by obtain ⟨d, hd⟩ := els.all.2 b hb; exact hd.len.2) (by omega), by omega, fun p2 H2 s2 n2 e2 => q p2 H2 (s'.trans s2) ?_ e2⟩
      cases c : H p2 with
      | none => rfl
      | some o => rw [s' _ _ c] at n2; cases n2
abbrev dCTs (P : Program) (w : World) (K : PySem.W.Frag) (mg : Str → Option Value) (base : Heap) : Prop := Def P w K mg base "_law_terms_code" 6 ["terms"] (spW ETs)
end
end KV

namespace KV
open PySem PySem.Spec PyProof.Rows L2 KA
def chars32 : Str := " !\"#$"
def chars38 : Str := "&'()*+,-./0123456789:;<=>?@ABCDEFGHIJKLMNOPQRSTUVWXYZ[\\]^_`abcdefghijklmnopqrstuvwxyz{|}~"
/-- the constants of the program -/
structure Gl4 (K : PySem.W.Frag) (mg : Str → Option Value) (TC TR : Addr) : Prop where
  c : mg "COMPARES" = some (.ref TC)
  r : mg "RESULTS" = some (.ref TR)
  sc : ∀ H, SqT K H TC (opsC.map V.str)
  sr : ∀ H, SqT K H TR (opsR.map V.str)
  lc : ∃ o, K.lookup TC = some o ∧ o.cls = .type "tuple" ∧ o.dict = none
  lr : ∃ o, K.lookup TR = some o ∧ o.cls = .type "tuple" ∧ o.dict = none
  c32 : ∃ t, mg "CHARACTERS_FROM_32" = some (.str chars32 t)
  c38 : ∃ t, mg "CHARACTERS_FROM_38" = some (.str chars38 t)
  mb : ∃ t, mg "MOST_BYTES" = some (.int 60 t)
theorem ops_at {ops : List Str} (hn : ops.Nodup) {k : Nat} {o : Str} (h : ops[k]? = some o) : (ops.map V.str)[k]? = some (.str o) ∧ (∀ m, m < k → ops[m]? ≠ some o) ∧ eqV (.str o) (.str o) = true ∧ ∀ (m : Nat) (z : V), m < k → (ops.map V.str)[m]? = some z → eqV z (.str o) = false := by
  have ne : ∀ m, m < k → ops[m]? ≠ some o := fun m hm e => by
    obtain ⟨h1, e1⟩ := List.getElem?_eq_some_iff.mp e
    obtain ⟨h2, e2⟩ := List.getElem?_eq_some_iff.mp h
    have := (List.getElem_inj hn).mp (e1.trans e2.symm)
    omega
  refine ⟨by rw [List.getElem?_map, h]; rfl, ne, ?_, fun m z hm hz => ?_⟩
  · show (o == o) = true
    exact beq_self_eq_true o
  · rw [List.getElem?_map] at hz
    obtain ⟨s, es, rfl⟩ := Option.map_eq_some_iff.mp hz
    show (s == o) = false
    exact beq_false_of_ne fun y => ne m hm (by rw [es, y])
theorem opsC_nd : opsC.Nodup := by decide +kernel
theorem opsR_nd : opsR.Nodup := by decide +kernel
def Yx (te : TE) (σ : L2.St) (H : Hp) (b : List Int) : Prop := ∀ Q : VK, (∀ p H', Same H H' → H' p = some (.lst (b.map V.int)) → Q (.ref p) H') → te σ H Q
theorem yx_var {i : Nat} {σ : L2.St} {H : Hp} {p : Addr} {b : List Int} (h : σ[i]? = some (some (.ref p))) (e : H p = some (.lst (b.map V.int))) : Yx (tVar i) σ H b := fun Q q => ⟨.ref p, h, q p H (fun _ _ z => z) e⟩
theorem yl_catx {t u : TE} {σ : L2.St} {H : Hp} {a b : List Int} (h1 : Yl t σ H a) (h2 : ∀ H', Same H H' → Yx u σ H' b) (l : a.length + b.length ≤ 16000000) : Yl (tOp rCat t u) σ H (a ++ b) := fun Q q =>
  h1 _ fun p1 H1 s1 n1 e1 => h2 H1 s1 _ fun p2 H2 s2 e2 => ⟨p1, p2, _, _, rfl, rfl, s2 _ _ e1, e2, len8 (by rw [List.length_map, List.length_map]; exact l), fun p3 n3 => by
    have s12 := s1.trans s2
    refine q p3 _ (s12.trans (same_new n3)) ?_ (by rw [upd_same, List.map_append])
    cases c : H p3 with
    | none => rfl
    | some o => rw [s12 _ _ c] at n3; cases n3⟩
theorem Yl.x {te : TE} {σ : L2.St} {H : Hp} {b : List Int} (h : Yl te σ H b) : Yx te σ H b := fun Q q => h Q fun p H' s _ e => q p H' s e
theorem yl_catxx {t u : TE} {σ : L2.St} {H : Hp} {a b : List Int} (h1 : Yx t σ H a) (h2 : ∀ H', Same H H' → Yx u σ H' b) (l : a.length + b.length ≤ 16000000) : Yl (tOp rCat t u) σ H (a ++ b) := fun Q q =>
  h1 _ fun p1 H1 s1 e1 => h2 H1 s1 _ fun p2 H2 s2 e2 => ⟨p1, p2, _, _, rfl, rfl, s2 _ _ e1, e2, len8 (by rw [List.length_map, List.length_map]; exact l), fun p3 n3 => by
    have s12 := s1.trans s2
    refine q p3 _ (s12.trans (same_new n3)) ?_ (by rw [upd_same, List.map_append])
    cases c : H p3 with
    | none => rfl
    | some o => rw [s12 _ _ c] at n3; cases n3⟩
def Yw (te : TE) (σ : L2.St) (H : Hp) (v : V) : Prop := ∀ Q : VK, (∀ H', Same H H' → Q v H') → te σ H Q
theorem back_none {H H' : Hp} {p : Addr} (s : Same H H') (n : H' p = none) : H p = none := by
  cases c : H p with
  | none => rfl
  | some o => rw [s _ _ c] at n; cases n
theorem yl_two_w {t u : TE} {σ : L2.St} {H : Hp} {k l : Int} (h : Yv t σ H (.int k)) (h2 : Yw u σ H (.int l)) : Yl (tLst (tCons t (tCons u tNil))) σ H [k, l] := fun Q q => h _ (h2 _ fun H' s => ⟨by show 2 ≤ sizeLine; decide, fun p n => q p _ (s.trans (same_new n)) (back_none s n) upd_same⟩)
theorem yl_one_w {t : TE} {σ : L2.St} {H : Hp} {k : Int} (h : Yw t σ H (.int k)) : Yl (tLst (tCons t tNil)) σ H [k] := fun Q q => h _ fun H' s => ⟨by show 1 ≤ sizeLine; decide, fun p n => q p _ (s.trans (same_new n)) (back_none s n) upd_same⟩
theorem yl_ret {te : TE} {σ : L2.St} {H : Hp} {b : List Int} {D : Ends} (h : Yl te σ H b) (q : ∀ p H', Same H H' → H p = none → H' p = some (.lst (b.map V.int)) → D.rt (.ref p) H') : tRet te D σ H := h _ q
section
variable {P : Program} {w : World} {K : PySem.W.Frag} {mg : Str → Option Value} {base : Heap} {TC TR : Addr}
abbrev sWLi : Stmt := topS 24
abbrev nWLi : List Str := ["literal", "_", "operator", "first", "second", "variable", "relation", "terms"]
theorem scWLi : FnScope nWLi ["literal"] (defScope sWLi) := ⟨rfl, rfl, rfl, by decide +kernel, rfl, by decide +kernel, by decide +kernel⟩
theorem ok_wli {f : Addr} {fd : FuncData} (F : Fun K "write_literal" "write_literal" sWLi f fd) (G : Gl4 K mg TC TR) (DWS : dWS P w K mg base) (DWT : dWT P w K mg base) (DWTs : dWTs P w K mg base) : FnOk P w K mg base CX0 7 f fd ["literal"] (spW ELit) := by
  refine F.ok scWLi (fun vs H Q E h => ?_) (fun cdv A outer s H vs Q E hr h => ?_)
  · obtain ⟨_, _, _, rfl, _⟩ := h
    rfl
  · obtain ⟨v, d, b, rfl, tv, en, q⟩ := h
    refine ⟨_, (pss_cons (ps_if (pt_cmpR op_eq (pe_ix ix_tup (pv 0) pe_int (fun _ _ => rfl)) pe_str (nomark _))
        (pss_one (ps_ret (pe_op op_cat (pe_op op_cat (pe_lst (pa_cons pe_int pa_nil)) (pe_def DWS (hr.mono (by decide)) (by rfl) (pa_cons (pe_ix ix_tup (pv 0) pe_int (fun _ _ => rfl)) pa_nil))) (pe_def DWTs (hr.mono (by decide)) (by rfl) (pa_cons (pe_ix ix_tup (pv 0) pe_int (fun _ _ => rfl)) pa_nil)))))
        pss_nil)
      (pss_cons (ps_if (pt_cmpR op_eq (pe_ix ix_tup (pv 0) pe_int (fun _ _ => rfl)) pe_str (nomark _))
        (pss_one (ps_ret (pe_op op_cat (pe_op op_cat (pe_lst (pa_cons pe_int pa_nil)) (pe_def DWS (hr.mono (by decide)) (by rfl) (pa_cons (pe_ix ix_tup (pv 0) pe_int (fun _ _ => rfl)) pa_nil))) (pe_def DWTs (hr.mono (by decide)) (by rfl) (pa_cons (pe_ix ix_tup (pv 0) pe_int (fun _ _ => rfl)) pa_nil)))))
        pss_nil)
      (pss_cons (ps_if (pt_cmpR op_eq (pe_ix ix_tup (pv 0) pe_int (fun _ _ => rfl)) pe_str (nomark _))
        (pss_cons (ps_asg (pv 0) (pg_tup rfl (pgs_cons (pg_name (i := 1) scWLi.nd rfl (Or.inl rfl)) (pgs_cons (pg_name (i := 2) scWLi.nd rfl (Or.inl rfl)) (pgs_cons (pg_name (i := 3) scWLi.nd rfl (Or.inl rfl)) (pgs_cons (pg_name (i := 4) scWLi.nd rfl (Or.inl rfl)) pgs_nil))))))
        (pss_one (ps_ret (pe_op op_cat (pe_op op_cat (pe_lst (pa_cons pe_int (pa_cons (pe_bm PySem.F.plainAttrs_tuple PySem.F.slot_tuple_index PySem.F.type_tuple_index mt_tup_index (pe_glob (v := .ref TC) (by rfl) G.c rfl) (pa_cons (pv 2) pa_nil)) pa_nil))) (pe_def DWT (hr.mono (by decide)) (by rfl) (pa_cons (pv 3) pa_nil))) (pe_def DWT (hr.mono (by decide)) (by rfl) (pa_cons (pv 4) pa_nil))))))
        pss_nil)
      (pss_cons (ps_if (pt_cmpR op_eq (pe_ix ix_tup (pv 0) pe_int (fun _ _ => rfl)) pe_str (nomark _))
        (pss_cons (ps_asg (pv 0) (pg_tup rfl (pgs_cons (pg_name (i := 1) scWLi.nd rfl (Or.inl rfl)) (pgs_cons (pg_name (i := 5) scWLi.nd rfl (Or.inl rfl)) (pgs_cons (pg_name (i := 2) scWLi.nd rfl (Or.inl rfl)) (pgs_cons (pg_name (i := 3) scWLi.nd rfl (Or.inl rfl)) (pgs_cons (pg_name (i := 4) scWLi.nd rfl (Or.inl rfl)) pgs_nil)))))))
        (pss_one (ps_ret (pe_op op_cat (pe_op op_cat (pe_op op_cat (pe_op op_cat (pe_lst (pa_cons pe_int pa_nil)) (pe_def DWS (hr.mono (by decide)) (by rfl) (pa_cons (pv 5) pa_nil))) (pe_lst (pa_cons (pe_bm PySem.F.plainAttrs_tuple PySem.F.slot_tuple_index PySem.F.type_tuple_index mt_tup_index (pe_glob (v := .ref TR) (by rfl) G.r rfl) (pa_cons (pv 2) pa_nil)) pa_nil))) (pe_def DWT (hr.mono (by decide)) (by rfl) (pa_cons (pv 3) pa_nil))) (pe_def DWT (hr.mono (by decide)) (by rfl) (pa_cons (pv 4) pa_nil))))))
        pss_nil)
      (pss_cons (ps_asg (pv 0) (pg_tup rfl (pgs_cons (pg_name (i := 1) scWLi.nd rfl (Or.inl rfl)) (pgs_cons (pg_name (i := 5) scWLi.nd rfl (Or.inl rfl)) (pgs_cons (pg_name (i := 6) scWLi.nd rfl (Or.inl rfl)) (pgs_cons (pg_name (i := 7) scWLi.nd rfl (Or.inl rfl)) pgs_nil))))))
      (pss_one (ps_ret (pe_op op_cat (pe_op op_cat (pe_op op_cat (pe_lst (pa_cons pe_int pa_nil)) (pe_def DWS (hr.mono (by decide)) (by rfl) (pa_cons (pv 5) pa_nil))) (pe_def DWS (hr.mono (by decide)) (by rfl) (pa_cons (pv 6) pa_nil))) (pe_def DWTs (hr.mono (by decide)) (by rfl) (pa_cons (pv 7) pa_nil)))))))))), ?_⟩
    have no : ∀ {p : Addr} {xs : List V} {x y : Str} {A B : Prop}, x ≠ y → B → (if decide (V.str x = V.str y) = true then A else B) := fun n h => no_if (fun z => n (by injection z)) h
    cases en with
    | fact h1 h2 =>
      obtain ⟨p, x, y, z, rfl, ep, t1, t2, t3⟩ := tup_inv3 tv
      cases str_inv t1
      cases str_inv t2
      have l1 := encS_len h1
      have l2 := h2.len
      refine ⟨.ref p, rfl, p, _, 0, .str "fact", rfl, rfl, SqT.of ep, rfl, rfl, _, rfl, yes_if ?_⟩
      exact (yl_cat (yl_cat (yl_one yv_c) (fun H' s => yl_str (yv_ix (yv_var rfl) (s _ _ ep) rfl) h1) (by show 1 + _ ≤ _; omega)) (fun H' s => yl_call (yv_ix (yv_var rfl) (s _ _ ep) rfl) (t3.mono (Tk.of s)) h2) (by rw [List.length_append]; show 1 + _ + _ ≤ _; omega)) _ q
    | notl h1 h2 =>
      obtain ⟨p, x, y, z, rfl, ep, t1, t2, t3⟩ := tup_inv3 tv
      cases str_inv t1
      cases str_inv t2
      have l1 := encS_len h1
      have l2 := h2.len
      refine ⟨.ref p, rfl, p, _, 0, .str "not", rfl, rfl, SqT.of ep, rfl, rfl, _, rfl, no_if (by decide +kernel) ?_⟩
      refine ⟨.ref p, rfl, p, _, 0, .str "not", rfl, rfl, SqT.of ep, rfl, rfl, _, rfl, yes_if ?_⟩
      exact (yl_cat (yl_cat (yl_one yv_c) (fun H' s => yl_str (yv_ix (yv_var rfl) (s _ _ ep) rfl) h1) (by show 1 + _ ≤ _; omega)) (fun H' s => yl_call (yv_ix (yv_var rfl) (s _ _ ep) rfl) (t3.mono (Tk.of s)) h2) (by rw [List.length_append]; show 1 + _ + _ ≤ _; omega)) _ q
    | @cmp k o x' y' a' b' h0 h1 h2 =>
      obtain ⟨p, x, y, z, u, rfl, ep, t1, t2, t3, t4⟩ := tup_inv4 tv
      cases str_inv t1
      cases str_inv t2
      have l1 := h1.len
      have l2 := h2.len
      refine ⟨.ref p, rfl, p, _, 0, .str "compare", rfl, rfl, SqT.of ep, rfl, rfl, _, rfl, no_if (by decide +kernel) ?_⟩
      refine ⟨.ref p, rfl, p, _, 0, .str "compare", rfl, rfl, SqT.of ep, rfl, rfl, _, rfl, no_if (by decide +kernel) ?_⟩
      refine ⟨.ref p, rfl, p, _, 0, .str "compare", rfl, rfl, SqT.of ep, rfl, rfl, _, rfl, yes_if ?_⟩
      refine ⟨.ref p, rfl, p, _, rfl, SqT.of ep, rfl, _, _, rfl, _, _, rfl, _, _, rfl, _, _, rfl, rfl, ?_⟩
      obtain ⟨o1, o2, _⟩ := ops_at opsC_nd h0
      dsimp only
      refine yl_ret ?_ q
      refine yl_cat (a := [2, (k : Int)] ++ a') (b := b') (yl_cat (yl_two yv_c (fun Q q => ⟨.inr (.inl ⟨rfl, G.lc⟩), .str o, rfl, TC, opsC, o, k, rfl, rfl, G.sc _, h0, o2, q⟩)) (fun H' s => yl_call (yv_var rfl) (t3.mono (Tk.of s)) h1) ?_) (fun H' s => yl_call (yv_var rfl) (t4.mono (Tk.of s)) h2) ?_
      · show 2 + _ ≤ _
        omega
      · rw [List.length_append]
        show 2 + _ + _ ≤ _
        omega
    | @isl k v' o x' y' a' b' h0 hk h1 h2 =>
      obtain ⟨p, x, y, z, u, w', rfl, ep, t1, t2, t3, t4, t5⟩ := tup_inv5 tv
      cases str_inv t1
      cases str_inv t2
      cases str_inv t3
      have l0 := encS_len h0
      have l1 := h1.len
      have l2 := h2.len
      refine ⟨.ref p, rfl, p, _, 0, .str "is", rfl, rfl, SqT.of ep, rfl, rfl, _, rfl, no_if (by decide +kernel) ?_⟩
      refine ⟨.ref p, rfl, p, _, 0, .str "is", rfl, rfl, SqT.of ep, rfl, rfl, _, rfl, no_if (by decide +kernel) ?_⟩
      refine ⟨.ref p, rfl, p, _, 0, .str "is", rfl, rfl, SqT.of ep, rfl, rfl, _, rfl, no_if (by decide +kernel) ?_⟩
      refine ⟨.ref p, rfl, p, _, 0, .str "is", rfl, rfl, SqT.of ep, rfl, rfl, _, rfl, yes_if ?_⟩
      refine ⟨.ref p, rfl, p, _, rfl, SqT.of ep, rfl, _, _, rfl, _, _, rfl, _, _, rfl, _, _, rfl, _, _, rfl, rfl, ?_⟩
      obtain ⟨o1, o2, _⟩ := ops_at opsR_nd hk
      refine (yl_cat (a := [3] ++ encS v' ++ [(k : Int)] ++ a') (b := b') (yl_cat (yl_cat (yl_cat (yl_one yv_c) (fun H' s => yl_str (yv_var rfl) h0) ?_) (fun H' s => yl_one (fun Q q => ⟨.inr (.inl ⟨rfl, G.lr⟩), .str o, rfl, TR, opsR, o, k, rfl, rfl, G.sr _, hk, o2, q⟩)) ?_) (fun H' s => yl_call (yv_var rfl) (t4.mono (Tk.of s)) h1) ?_) (fun H' s => yl_call (yv_var rfl) (t5.mono (Tk.of s)) h2) ?_) _ q
      · show 1 + _ ≤ _
        omega
      · rw [List.length_append]
        show 1 + _ + 1 ≤ _
        omega
      · rw [List.length_append, List.length_append]
        show 1 + _ + 1 + _ ≤ _
        omega
      · rw [List.length_append, List.length_append, List.length_append]
        show 1 + _ + 1 + _ + _ ≤ _
        omega
    | @cnt v' r' t' b' h0 h1 h2 =>
      obtain ⟨p, x, y, z, u, rfl, ep, t1, t2, t3, t4⟩ := tup_inv4 tv
      cases str_inv t1
      cases str_inv t2
      cases str_inv t3
      have l0 := encS_len h0
      have l1 := encS_len h1
      have l2 := h2.len
      refine ⟨.ref p, rfl, p, _, 0, .str "count", rfl, rfl, SqT.of ep, rfl, rfl, _, rfl, no_if (by decide +kernel) ?_⟩
      refine ⟨.ref p, rfl, p, _, 0, .str "count", rfl, rfl, SqT.of ep, rfl, rfl, _, rfl, no_if (by decide +kernel) ?_⟩
      refine ⟨.ref p, rfl, p, _, 0, .str "count", rfl, rfl, SqT.of ep, rfl, rfl, _, rfl, no_if (by decide +kernel) ?_⟩
      refine ⟨.ref p, rfl, p, _, 0, .str "count", rfl, rfl, SqT.of ep, rfl, rfl, _, rfl, no_if (by decide +kernel) ?_⟩
      refine ⟨.ref p, rfl, p, _, rfl, SqT.of ep, rfl, _, _, rfl, _, _, rfl, _, _, rfl, _, _, rfl, rfl, ?_⟩
      refine (yl_cat (a := [4] ++ encS v' ++ encS r') (b := b') (yl_cat (yl_cat (yl_one yv_c) (fun H' s => yl_str (yv_var rfl) h0) ?_) (fun H' s => yl_str (yv_var rfl) h1) ?_) (fun H' s => yl_call (yv_var rfl) (t4.mono (Tk.of s)) h2) ?_) _ q
      · show 1 + _ ≤ _
        omega
      · rw [List.length_append]
        show 1 + _ + _ ≤ _
        omega
      · rw [List.length_append, List.length_append]
        show 1 + _ + _ + _ ≤ _
        omega
abbrev dWLi (P : Program) (w : World) (K : PySem.W.Frag) (mg : Str → Option Value) (base : Heap) : Prop := Def P w K mg base "write_literal" 7 ["literal"] (spW ELit)
abbrev sCLi : Stmt := topS 59
abbrev nCLi : List Str := ["literal", "form", "pair"]
theorem scCLi : FnScope nCLi ["literal"] (defScope sCLi) := ⟨rfl, rfl, rfl, by decide +kernel, rfl, by decide +kernel, by decide +kernel⟩
theorem ok_cli {f : Addr} {fd : FuncData} (F : Fun K "_law_literal_code" "_law_literal_code" sCLi f fd) (B : Bt mg) (DCS : dCS P w K mg base) (DCT : dCT P w K mg base) (DCTs : dCTs P w K mg base) : FnOk P w K mg base CX0 7 f fd ["literal"] (spW ELit) := by
  refine F.ok scCLi (fun vs H Q E h => ?_) (fun cdv A outer s H vs Q E hr h => ?_)
  · obtain ⟨_, _, _, rfl, _⟩ := h
    rfl
  · obtain ⟨v, d, b, rfl, tv, en, q⟩ := h
    refine ⟨_, (pss_cons (ps_set (i := 1) scCLi.nd rfl (.inl rfl) (pe_ix ix_tup (pv 0) pe_int (fun _ _ => rfl)))
      (pss_cons (ps_if (pt_cmpR op_eq (pv 1) pe_str (nomark _))
        (pss_cons (ps_set (i := 2) scCLi.nd rfl (.inl rfl) (pe_op op_cat (pe_def DCT (hr.mono (by decide)) (by rfl) (pa_cons (pe_ix ix_tup (pv 0) pe_int (fun _ _ => rfl)) pa_nil)) (pe_def DCT (hr.mono (by decide)) (by rfl) (pa_cons (pe_ix ix_tup (pv 0) pe_int (fun _ _ => rfl)) pa_nil))))
        (pss_one (ps_ret (pe_op op_cat (pe_lst (pa_cons pe_int (pa_cons (pe_bm PySem.F.plainAttrs_list PySem.F.slot_list_index PySem.F.type_list_index mt_index (pe_lst (pa_cons pe_str (pa_cons pe_str (pa_cons pe_str (pa_cons pe_str (pa_cons pe_str (pa_cons pe_str pa_nil))))))) (pa_cons (pe_ix ix_tup (pv 0) pe_int (fun _ _ => rfl)) pa_nil)) pa_nil))) (pv 2)))))
        pss_nil)
      (pss_cons (ps_if (pt_cmpR op_eq (pv 1) pe_str (nomark _))
        (pss_cons (ps_set (i := 2) scCLi.nd rfl (.inl rfl) (pe_op op_cat (pe_def DCT (hr.mono (by decide)) (by rfl) (pa_cons (pe_ix ix_tup (pv 0) pe_int (fun _ _ => rfl)) pa_nil)) (pe_def DCT (hr.mono (by decide)) (by rfl) (pa_cons (pe_ix ix_tup (pv 0) pe_int (fun _ _ => rfl)) pa_nil))))
        (pss_one (ps_ret (pe_op op_cat (pe_op op_cat (pe_op op_cat (pe_lst (pa_cons pe_int pa_nil)) (pe_def DCS (hr.mono (by decide)) (by rfl) (pa_cons (pe_ix ix_tup (pv 0) pe_int (fun _ _ => rfl)) pa_nil))) (pe_lst (pa_cons (pe_bm PySem.F.plainAttrs_list PySem.F.slot_list_index PySem.F.type_list_index mt_index (pe_lst (pa_cons pe_str (pa_cons pe_str (pa_cons pe_str pa_nil)))) (pa_cons (pe_ix ix_tup (pv 0) pe_int (fun _ _ => rfl)) pa_nil)) pa_nil))) (pv 2)))))
        pss_nil)
      (pss_cons (ps_if (pt_cmpR op_eq (pv 1) pe_str (nomark _))
        (pss_one (ps_ret (pe_op op_cat (pe_op op_cat (pe_op op_cat (pe_lst (pa_cons pe_int pa_nil)) (pe_def DCS (hr.mono (by decide)) (by rfl) (pa_cons (pe_ix ix_tup (pv 0) pe_int (fun _ _ => rfl)) pa_nil))) (pe_def DCS (hr.mono (by decide)) (by rfl) (pa_cons (pe_ix ix_tup (pv 0) pe_int (fun _ _ => rfl)) pa_nil))) (pe_def DCTs (hr.mono (by decide)) (by rfl) (pa_cons (pe_ix ix_tup (pv 0) pe_int (fun _ _ => rfl)) pa_nil)))))
        pss_nil)
      (pss_one (ps_ret (pe_op op_cat (pe_op op_cat (pe_lst (pa_cons (pe_callTy call_int1 (by rfl) B.int (by decide +kernel) (pa_cons (pe_cmpR op_eq (pv 1) pe_str (nomark _)) pa_nil)) pa_nil)) (pe_def DCS (hr.mono (by decide)) (by rfl) (pa_cons (pe_ix ix_tup (pv 0) pe_int (fun _ _ => rfl)) pa_nil))) (pe_def DCTs (hr.mono (by decide)) (by rfl) (pa_cons (pe_ix ix_tup (pv 0) pe_int (fun _ _ => rfl)) pa_nil))))))))), ?_⟩
    have hix : ∀ {ops : List Str} {k : Nat} {o : Str} {H1 : Hp} {p : Addr}, ops.Nodup → ops[k]? = some o → H1 p = some (.lst (ops.map V.str)) → ∀ {Q : VK}, Q (.int (k : Int)) H1 → rIndex K (.ref p) [.str o] H1 Q := fun {ops k o H1 p} nd hk ep Q q => by
      obtain ⟨o1, _, o3, o4⟩ := ops_at nd hk
      exact ⟨p, _, .str o, k, .str o, rfl, rfl, SqL.of ep, rfl, List.all_eq_true.mpr fun x hx => (by obtain ⟨s, _, rfl⟩ := List.mem_map.mp hx; rfl), o1, o3, o4, q⟩
    cases en with
    | fact h1 h2 =>
      obtain ⟨p, x, y, z, rfl, ep, t1, t2, t3⟩ := tup_inv3 tv
      cases str_inv t1
      cases str_inv t2
      have l1 := encS_len h1
      have l2 := h2.len
      refine ⟨.ref p, rfl, p, _, 0, .str "fact", rfl, rfl, SqT.of ep, rfl, ?_⟩
      refine ⟨.str "fact", rfl, rfl, _, rfl, no_if (by decide +kernel) ?_⟩
      refine ⟨.str "fact", rfl, rfl, _, rfl, no_if (by decide +kernel) ?_⟩
      refine ⟨.str "fact", rfl, rfl, _, rfl, no_if (by decide +kernel) ?_⟩
      refine nx_of ?_
      dsimp only
      refine yl_ret ?_ q
      exact yl_cat (yl_cat (yl_one (k := 0) (fun Q q => ⟨.str "fact", rfl, rfl, .inr ⟨_, rfl, q⟩⟩)) (fun H' s => yl_str (yv_ix (yv_var rfl) (s _ _ ep) rfl) h1) (by show 1 + _ ≤ _; omega)) (fun H' s => yl_call (yv_ix (yv_var rfl) (s _ _ ep) rfl) (t3.mono (Tk.of s)) h2) (by rw [List.length_append]; show 1 + _ + _ ≤ _; omega)
    | notl h1 h2 =>
      obtain ⟨p, x, y, z, rfl, ep, t1, t2, t3⟩ := tup_inv3 tv
      cases str_inv t1
      cases str_inv t2
      have l1 := encS_len h1
      have l2 := h2.len
      refine ⟨.ref p, rfl, p, _, 0, .str "not", rfl, rfl, SqT.of ep, rfl, ?_⟩
      refine ⟨.str "not", rfl, rfl, _, rfl, no_if (by decide +kernel) ?_⟩
      refine ⟨.str "not", rfl, rfl, _, rfl, no_if (by decide +kernel) ?_⟩
      refine ⟨.str "not", rfl, rfl, _, rfl, no_if (by decide +kernel) ?_⟩
      refine nx_of ?_
      dsimp only
      refine yl_ret ?_ q
      exact yl_cat (yl_cat (yl_one (k := 1) (fun Q q => ⟨.str "not", rfl, rfl, .inr ⟨_, rfl, q⟩⟩)) (fun H' s => yl_str (yv_ix (yv_var rfl) (s _ _ ep) rfl) h1) (by show 1 + _ ≤ _; omega)) (fun H' s => yl_call (yv_ix (yv_var rfl) (s _ _ ep) rfl) (t3.mono (Tk.of s)) h2) (by rw [List.length_append]; show 1 + _ + _ ≤ _; omega)
    | @cmp k o x' y' a' b' h0 h1 h2 =>
      obtain ⟨p, x, y, z, u, rfl, ep, t1, t2, t3, t4⟩ := tup_inv4 tv
      cases str_inv t1
      cases str_inv t2
      have l1 := h1.len
      have l2 := h2.len
      refine ⟨.ref p, rfl, p, _, 0, .str "compare", rfl, rfl, SqT.of ep, rfl, ?_⟩
      refine ⟨.str "compare", rfl, rfl, _, rfl, yes_if ?_⟩
      refine (yl_cat (yl_call (yv_ix (yv_var rfl) ep rfl) t3 h1) (fun H' s => yl_call (yv_ix (yv_var rfl) (s _ _ ep) rfl) (t4.mono (Tk.of s)) h2) (by omega)) _ fun pr H1 s1 n1 e1 => ?_
      have ep1 := s1 _ _ ep
      dsimp only
      refine yl_ret (b := [2, (k : Int)] ++ (a' ++ b')) (D := { nx := fun _ H' => Q .non H', rt := Q }) ?_ fun p2 H2 s2 n2 e2 => q p2 H2 (s1.trans s2) (back_none s1 n2) (by rw [e2, List.append_assoc])
      exact yl_catx (yl_two_w (k := 2) (l := (k : Int)) yv_c (fun Q q => ⟨by show 6 ≤ sizeLine; decide, fun pl npl => ⟨.inl ⟨rfl, _, SqL.of (xs := (opsC).map V.str) upd_same⟩, (yv_ix (v := .str o) (yv_var rfl) ((same_new npl) _ _ ep1) rfl) _ (hix opsC_nd h0 upd_same (q _ (same_new npl)))⟩⟩)) (fun H' s => yx_var rfl (s _ _ e1)) (by rw [List.length_append]; show 2 + _ ≤ _; omega)
    | @isl k v' o x' y' a' b' h0 hk h1 h2 =>
      obtain ⟨p, x, y, z, u, w', rfl, ep, t1, t2, t3, t4, t5⟩ := tup_inv5 tv
      cases str_inv t1
      cases str_inv t2
      cases str_inv t3
      have l0 := encS_len h0
      have l1 := h1.len
      have l2 := h2.len
      refine ⟨.ref p, rfl, p, _, 0, .str "is", rfl, rfl, SqT.of ep, rfl, ?_⟩
      refine ⟨.str "is", rfl, rfl, _, rfl, no_if (by decide +kernel) ?_⟩
      refine ⟨.str "is", rfl, rfl, _, rfl, yes_if ?_⟩
      refine (yl_cat (yl_call (yv_ix (yv_var rfl) ep rfl) t4 h1) (fun H' s => yl_call (yv_ix (yv_var rfl) (s _ _ ep) rfl) (t5.mono (Tk.of s)) h2) (by omega)) _ fun pr H1 s1 n1 e1 => ?_
      have ep1 := s1 _ _ ep
      dsimp only
      refine yl_ret (b := ([3] ++ encS v') ++ [(k : Int)] ++ (a' ++ b')) (D := { nx := fun _ H' => Q .non H', rt := Q }) ?_ fun p2 H2 s2 n2 e2 => q p2 H2 (s1.trans s2) (back_none s1 n2) (by rw [e2, List.append_assoc _ a' b'])
      exact yl_catx (yl_cat (yl_cat (yl_one yv_c) (fun H' s => yl_str (yv_ix (yv_var rfl) (s _ _ ep1) rfl) h0) (by show 1 + _ ≤ _; omega)) (fun H' s => yl_one_w (k := (k : Int)) (fun Q q => ⟨by show 3 ≤ sizeLine; decide, fun pl npl => ⟨.inl ⟨rfl, _, SqL.of (xs := (opsR).map V.str) upd_same⟩, (yv_ix (v := .str o) (yv_var rfl) ((same_new npl) _ _ (s _ _ ep1)) rfl) _ (hix opsR_nd hk upd_same (q _ (same_new npl)))⟩⟩)) (by rw [List.length_append]; show 1 + _ + 1 ≤ _; omega)) (fun H' s => yx_var rfl (s _ _ e1)) (by rw [List.length_append, List.length_append, List.length_append]; show 1 + _ + 1 + _ ≤ _; omega)
    | @cnt v' r' t' b' h0 h1 h2 =>
      obtain ⟨p, x, y, z, u, rfl, ep, t1, t2, t3, t4⟩ := tup_inv4 tv
      cases str_inv t1
      cases str_inv t2
      cases str_inv t3
      have l0 := encS_len h0
      have l1 := encS_len h1
      have l2 := h2.len
      refine ⟨.ref p, rfl, p, _, 0, .str "count", rfl, rfl, SqT.of ep, rfl, ?_⟩
      refine ⟨.str "count", rfl, rfl, _, rfl, no_if (by decide +kernel) ?_⟩
      refine ⟨.str "count", rfl, rfl, _, rfl, no_if (by decide +kernel) ?_⟩
      refine ⟨.str "count", rfl, rfl, _, rfl, yes_if ?_⟩
      refine yl_ret ?_ q
      exact yl_cat (yl_cat (yl_cat (yl_one yv_c) (fun H' s => yl_str (yv_ix (yv_var rfl) (s _ _ ep) rfl) h0) (by show 1 + _ ≤ _; omega)) (fun H' s => yl_str (yv_ix (yv_var rfl) (s _ _ ep) rfl) h1) (by rw [List.length_append]; show 1 + _ + _ ≤ _; omega)) (fun H' s => yl_call (yv_ix (yv_var rfl) (s _ _ ep) rfl) (t4.mono (Tk.of s)) h2) (by rw [List.length_append, List.length_append]; show 1 + _ + _ + _ ≤ _; omega)
abbrev dCLi (P : Program) (w : World) (K : PySem.W.Frag) (mg : Str → Option Value) (base : Heap) : Prop := Def P w K mg base "_law_literal_code" 7 ["literal"] (spW ELit)
end
end KV

namespace KV
open PySem PySem.Spec PyProof.Rows L2 KA
def sorts4 : List Str := ["relation", "fact", "rule", "denial"]
theorem sorts4_nd : sorts4.Nodup := by decide +kernel
section
variable {P : Program} {w : World} {K : PySem.W.Frag} {mg : Str → Option Value} {base : Heap}
abbrev sWB : Stmt := topS 25
abbrev nWB : List Str := ["body", "literal"]
theorem scWB : FnScope nWB ["body"] (defScope sWB) := ⟨rfl, rfl, rfl, by decide +kernel, rfl, by decide +kernel, by decide +kernel⟩
theorem ok_wb {f : Addr} {fd : FuncData} (F : Fun K "write_body" "write_body" sWB f fd) (DWL : dWL P w K mg base) (DWLi : dWLi P w K mg base) : FnOk P w K mg base CX0 8 f fd ["body"] (spW EB) := by
  refine F.ok scWB (fun vs H Q E h => ?_) (fun cdv A outer s H vs Q E hr h => ?_)
  · obtain ⟨_, _, _, rfl, _⟩ := h
    rfl
  · obtain ⟨v, d, b, rfl, tv, en, q⟩ := h
    refine ⟨_, (pss_one (ps_ret (pe_def DWL (hr.mono (by decide)) (by rfl) (pa_cons (pe_lc (own := [("literal", 1)]) (g := (gName 1)) (tt := tYes) (te := (tCall (spW ELit) [] E0 (tCons (tVar 1) tNil))) rfl scWB.nd (pi_tup (pv 0)) (blkOk_by (own := [("literal", 1)]) (N := nWB) (sc := defScope sWB) (by decide +kernel)) (fun _ _ _ _ _ => (pg_name (i := 1) scWB.nd rfl (Or.inl rfl))) (fun _ _ _ _ _ => pts_nil) (fun _ _ _ _ _ => (pe_def DWLi (hr.mono (by decide)) (by rfl) (pa_cons (pv 1) pa_nil)))) pa_nil)))), ?_⟩
    cases en with
    | @mk ds bs els hl =>
      obtain ⟨p, xs, rfl, ep, ts⟩ := tup_inv tv
      refine yl_mapT (K := K) (t := tVar 0) (j := 1) (dvs := E0) (σ := [some (.ref p), none]) (yv_var rfl) ep ts els (by omega) (by show 1 < 2; decide) (fun x H1 => spWL ([x] ++ []) H1 Q E0) fun D acc H' s' eD il => ?_
      have l := els.length
      refine ⟨D, acc, bs, rfl, eD, il, Nat.le_trans (flat_len (m := 900) fun b hb => by obtain ⟨d, hd⟩ := els.all.2 b hb; exact hd.len.2) (by omega), by omega, fun p2 H2 s2 n2 e2 => q p2 H2 (s'.trans s2) ?_ e2⟩
      cases c : H p2 with
      | none => rfl
      | some o => rw [s' _ _ c] at n2; cases n2
abbrev dWB (P : Program) (w : World) (K : PySem.W.Frag) (mg : Str → Option Value) (base : Heap) : Prop := Def P w K mg base "write_body" 8 ["body"] (spW EB)
abbrev sCB : Stmt := topS 60
abbrev nCB : List Str := ["body", "literal"]
theorem scCB : FnScope nCB ["body"] (defScope sCB) := ⟨rfl, rfl, rfl, by decide +kernel, rfl, by decide +kernel, by decide +kernel⟩
theorem ok_cb {f : Addr} {fd : FuncData} (F : Fun K "_law_body_code" "_law_body_code" sCB f fd) (DCLd : dCLd P w K mg base) (DCLi : dCLi P w K mg base) : FnOk P w K mg base CX0 8 f fd ["body"] (spW EB) := by
  refine F.ok scCB (fun vs H Q E h => ?_) (fun cdv A outer s H vs Q E hr h => ?_)
  · obtain ⟨_, _, _, rfl, _⟩ := h
    rfl
  · obtain ⟨v, d, b, rfl, tv, en, q⟩ := h
    refine ⟨_, (pss_one (ps_ret (pe_def DCLd (hr.mono (by decide)) (by rfl) (pa_cons (pe_lc (own := [("literal", 1)]) (g := (gName 1)) (tt := tYes) (te := (tCall (spW ELit) [] E0 (tCons (tVar 1) tNil))) rfl scCB.nd (pi_tup (pv 0)) (blkOk_by (own := [("literal", 1)]) (N := nCB) (sc := defScope sCB) (by decide +kernel)) (fun _ _ _ _ _ => (pg_name (i := 1) scCB.nd rfl (Or.inl rfl))) (fun _ _ _ _ _ => pts_nil) (fun _ _ _ _ _ => (pe_def DCLi (hr.mono (by decide)) (by rfl) (pa_cons (pv 1) pa_nil)))) pa_nil)))), ?_⟩
    cases en with
    | @mk ds bs els hl =>
      obtain ⟨p, xs, rfl, ep, ts⟩ := tup_inv tv
      refine yl_mapT (K := K) (t := tVar 0) (j := 1) (dvs := E0) (σ := [some (.ref p), none]) (yv_var rfl) ep ts els (by omega) (by show 1 < 2; decide) (fun x H1 => spWL ([x] ++ []) H1 Q E0) fun D acc H' s' eD il => ?_
      have l := els.length
      refine ⟨D, acc, bs, rfl, eD, il, Nat.le_trans (flat_len (m := 900) fun b hb => by obtain ⟨d, hd⟩ := els.all.2 b hb; exact hd.len.2) (by omega), by omega, fun p2 H2 s2 n2 e2 => q p2 H2 (s'.trans s2) ?_ e2⟩
      cases c : H p2 with
      | none => rfl
      | some o => rw [s' _ _ c] at n2; cases n2
abbrev dCB (P : Program) (w : World) (K : PySem.W.Frag) (mg : Str → Option Value) (base : Heap) : Prop := Def P w K mg base "_law_body_code" 8 ["body"] (spW EB)
abbrev sWI : Stmt := topS 26
abbrev nWI : List Str := ["item", "_", "name", "relation", "terms", "body"]
theorem scWI : FnScope nWI ["item"] (defScope sWI) := ⟨rfl, rfl, rfl, by decide +kernel, rfl, by decide +kernel, by decide +kernel⟩
theorem ok_wi {f : Addr} {fd : FuncData} (F : Fun K "write_item" "write_item" sWI f fd) (DWS : dWS P w K mg base) (DWN : dWN P w K mg base) (DWR : dWR P w K mg base) (DWTs : dWTs P w K mg base) (DWB : dWB P w K mg base) : FnOk P w K mg base CX0 9 f fd ["item"] (spW EItem) := by
  refine F.ok scWI (fun vs H Q E h => ?_) (fun cdv A outer s H vs Q E hr h => ?_)
  · obtain ⟨_, _, _, rfl, _⟩ := h
    rfl
  · obtain ⟨v, d, b, rfl, tv, en, q⟩ := h
    refine ⟨_, (pss_cons (ps_if (pt_cmpR op_eq (pe_ix ix_tup (pv 0) pe_int (fun _ _ => rfl)) pe_str (nomark _))
        (pss_one (ps_ret (pe_op op_cat (pe_op op_cat (pe_lst (pa_cons pe_int pa_nil)) (pe_def DWS (hr.mono (by decide)) (by rfl) (pa_cons (pe_ix ix_tup (pv 0) pe_int (fun _ _ => rfl)) pa_nil))) (pe_def DWN (hr.mono (by decide)) (by rfl) (pa_cons (pe_ix ix_tup (pv 0) pe_int (fun _ _ => rfl)) pa_nil)))))
        pss_nil)
      (pss_cons (ps_if (pt_cmpR op_eq (pe_ix ix_tup (pv 0) pe_int (fun _ _ => rfl)) pe_str (nomark _))
        (pss_one (ps_ret (pe_op op_cat (pe_op op_cat (pe_lst (pa_cons pe_int pa_nil)) (pe_def DWS (hr.mono (by decide)) (by rfl) (pa_cons (pe_ix ix_tup (pv 0) pe_int (fun _ _ => rfl)) pa_nil))) (pe_def DWR (hr.mono (by decide)) (by rfl) (pa_cons (pe_ix ix_tup (pv 0) pe_int (fun _ _ => rfl)) pa_nil)))))
        pss_nil)
      (pss_cons (ps_if (pt_cmpR op_eq (pe_ix ix_tup (pv 0) pe_int (fun _ _ => rfl)) pe_str (nomark _))
        (pss_cons (ps_asg (pv 0) (pg_tup rfl (pgs_cons (pg_name (i := 1) scWI.nd rfl (Or.inl rfl)) (pgs_cons (pg_name (i := 2) scWI.nd rfl (Or.inl rfl)) (pgs_cons (pg_name (i := 3) scWI.nd rfl (Or.inl rfl)) (pgs_cons (pg_name (i := 4) scWI.nd rfl (Or.inl rfl)) (pgs_cons (pg_name (i := 5) scWI.nd rfl (Or.inl rfl)) pgs_nil)))))))
        (pss_one (ps_ret (pe_op op_cat (pe_op op_cat (pe_op op_cat (pe_op op_cat (pe_lst (pa_cons pe_int pa_nil)) (pe_def DWS (hr.mono (by decide)) (by rfl) (pa_cons (pv 2) pa_nil))) (pe_def DWS (hr.mono (by decide)) (by rfl) (pa_cons (pv 3) pa_nil))) (pe_def DWTs (hr.mono (by decide)) (by rfl) (pa_cons (pv 4) pa_nil))) (pe_def DWB (hr.mono (by decide)) (by rfl) (pa_cons (pv 5) pa_nil))))))
        pss_nil)
      (pss_one (ps_ret (pe_op op_cat (pe_op op_cat (pe_lst (pa_cons pe_int pa_nil)) (pe_def DWS (hr.mono (by decide)) (by rfl) (pa_cons (pe_ix ix_tup (pv 0) pe_int (fun _ _ => rfl)) pa_nil))) (pe_def DWB (hr.mono (by decide)) (by rfl) (pa_cons (pe_ix ix_tup (pv 0) pe_int (fun _ _ => rfl)) pa_nil)))))))), ?_⟩
    cases en with
    | mk hi =>
    cases hi with
    | @rel nm n h0 h1 =>
      obtain ⟨p, x, y, z, rfl, ep, t1, t2, t3⟩ := tup_inv3 tv
      cases str_inv t1
      cases str_inv t2
      cases int_inv t3
      have l0 := encS_len h0
      have hb : n < big := Nat.lt_trans h1 (by decide)
      have l1 := encN_len18 hb
      refine ⟨.ref p, rfl, p, _, 0, .str "relation", rfl, rfl, SqT.of ep, rfl, rfl, _, rfl, yes_if ?_⟩
      refine yl_ret ?_ q
      exact yl_cat (yl_cat (yl_one yv_c) (fun H' s => yl_str (yv_ix (yv_var rfl) (s _ _ ep) rfl) h0) (by show 1 + _ ≤ _; omega)) (fun H' s => yl_num (yv_ix (yv_var rfl) (s _ _ ep) rfl) hb) (by rw [List.length_append]; show 1 + _ + _ ≤ _; omega)
    | @fact nm ds b' h0 h1 =>
      obtain ⟨p, x, y, z, rfl, ep, t1, t2, t3⟩ := tup_inv3 tv
      cases str_inv t1
      cases str_inv t2
      have l0 := encS_len h0
      have l1 := h1.len
      refine ⟨.ref p, rfl, p, _, 0, .str "fact", rfl, rfl, SqT.of ep, rfl, rfl, _, rfl, no_if (by decide +kernel) ?_⟩
      refine ⟨.ref p, rfl, p, _, 0, .str "fact", rfl, rfl, SqT.of ep, rfl, rfl, _, rfl, yes_if ?_⟩
      refine yl_ret ?_ q
      exact yl_cat (yl_cat (yl_one yv_c) (fun H' s => yl_str (yv_ix (yv_var rfl) (s _ _ ep) rfl) h0) (by show 1 + _ ≤ _; omega)) (fun H' s => yl_call (yv_ix (yv_var rfl) (s _ _ ep) rfl) (t3.mono (Tk.of s)) h1) (by rw [List.length_append]; show 1 + _ + _ ≤ _; omega)
    | @rule nm rl ts bd a' b' h0 h1 h2 h3 =>
      obtain ⟨p, x, y, z, u, w', rfl, ep, t1, t2, t3, t4, t5⟩ := tup_inv5 tv
      cases str_inv t1
      cases str_inv t2
      cases str_inv t3
      have l0 := encS_len h0
      have l1 := encS_len h1
      have l2 := h2.len
      have l3 := h3.len
      refine ⟨.ref p, rfl, p, _, 0, .str "rule", rfl, rfl, SqT.of ep, rfl, rfl, _, rfl, no_if (by decide +kernel) ?_⟩
      refine ⟨.ref p, rfl, p, _, 0, .str "rule", rfl, rfl, SqT.of ep, rfl, rfl, _, rfl, no_if (by decide +kernel) ?_⟩
      refine ⟨.ref p, rfl, p, _, 0, .str "rule", rfl, rfl, SqT.of ep, rfl, rfl, _, rfl, yes_if ?_⟩
      refine ⟨.ref p, rfl, p, _, rfl, SqT.of ep, rfl, _, _, rfl, _, _, rfl, _, _, rfl, _, _, rfl, _, _, rfl, rfl, ?_⟩
      dsimp only
      refine yl_ret ?_ q
      exact yl_cat (yl_cat (yl_cat (yl_cat (yl_one yv_c) (fun H' s => yl_str (yv_var rfl) h0) (by show 1 + _ ≤ _; omega)) (fun H' s => yl_str (yv_var rfl) h1) (by rw [List.length_append]; show 1 + _ + _ ≤ _; omega)) (fun H' s => yl_call (yv_var rfl) (t4.mono (Tk.of s)) h2) (by rw [List.length_append, List.length_append]; show 1 + _ + _ + _ ≤ _; omega)) (fun H' s => yl_call (yv_var rfl) (t5.mono (Tk.of s)) h3) (by rw [List.length_append, List.length_append, List.length_append]; show 1 + _ + _ + _ + _ ≤ _; omega)
    | @den nm bd b' h0 h1 =>
      obtain ⟨p, x, y, z, rfl, ep, t1, t2, t3⟩ := tup_inv3 tv
      cases str_inv t1
      cases str_inv t2
      have l0 := encS_len h0
      have l1 := h1.len
      refine ⟨.ref p, rfl, p, _, 0, .str "denial", rfl, rfl, SqT.of ep, rfl, rfl, _, rfl, no_if (by decide +kernel) ?_⟩
      refine ⟨.ref p, rfl, p, _, 0, .str "denial", rfl, rfl, SqT.of ep, rfl, rfl, _, rfl, no_if (by decide +kernel) ?_⟩
      refine ⟨.ref p, rfl, p, _, 0, .str "denial", rfl, rfl, SqT.of ep, rfl, rfl, _, rfl, no_if (by decide +kernel) ?_⟩
      refine nx_of ?_
      dsimp only
      refine yl_ret ?_ q
      exact yl_cat (yl_cat (yl_one yv_c) (fun H' s => yl_str (yv_ix (yv_var rfl) (s _ _ ep) rfl) h0) (by show 1 + _ ≤ _; omega)) (fun H' s => yl_call (yv_ix (yv_var rfl) (s _ _ ep) rfl) (t3.mono (Tk.of s)) h1) (by rw [List.length_append]; show 1 + _ + _ ≤ _; omega)
abbrev dWI (P : Program) (w : World) (K : PySem.W.Frag) (mg : Str → Option Value) (base : Heap) : Prop := Def P w K mg base "write_item" 9 ["item"] (spW EItem)
abbrev sCI : Stmt := topS 61
abbrev nCI : List Str := ["item", "data"]
theorem scCI : FnScope nCI ["item"] (defScope sCI) := ⟨rfl, rfl, rfl, by decide +kernel, rfl, by decide +kernel, by decide +kernel⟩
theorem ok_ci {f : Addr} {fd : FuncData} (F : Fun K "_law_item_code" "_law_item_code" sCI f fd) (B : Bt mg) (DCS : dCS P w K mg base) (DCN : dCN P w K mg base) (DCR : dCR P w K mg base) (DCTs : dCTs P w K mg base) (DCB : dCB P w K mg base) : FnOk P w K mg base CX0 9 f fd ["item"] (spW EItem) := by
  refine F.ok scCI (fun vs H Q E h => ?_) (fun cdv A outer s H vs Q E hr h => ?_)
  · obtain ⟨_, _, _, rfl, _⟩ := h
    rfl
  · obtain ⟨v, d, b, rfl, tv, en, q⟩ := h
    refine ⟨_, (pss_cons (ps_set (i := 1) scCI.nd rfl (.inl rfl) (pe_op op_cat (pe_lst (pa_cons (pe_bm PySem.F.plainAttrs_list PySem.F.slot_list_index PySem.F.type_list_index mt_index (pe_lst (pa_cons pe_str (pa_cons pe_str (pa_cons pe_str (pa_cons pe_str pa_nil))))) (pa_cons (pe_ix ix_tup (pv 0) pe_int (fun _ _ => rfl)) pa_nil)) pa_nil)) (pe_def DCS (hr.mono (by decide)) (by rfl) (pa_cons (pe_ix ix_tup (pv 0) pe_int (fun _ _ => rfl)) pa_nil))))
      (pss_cons (ps_if (pt_cmpR op_eq (pe_ix ix_tup (pv 0) pe_int (fun _ _ => rfl)) pe_str (nomark _))
        (pss_one (ps_ret (pe_op op_cat (pv 1) (pe_def DCN (hr.mono (by decide)) (by rfl) (pa_cons (pe_ix ix_tup (pv 0) pe_int (fun _ _ => rfl)) pa_nil)))))
        pss_nil)
      (pss_cons (ps_if (pt_cmpR op_eq (pe_ix ix_tup (pv 0) pe_int (fun _ _ => rfl)) pe_str (nomark _))
        (pss_one (ps_ret (pe_op op_cat (pv 1) (pe_def DCR (hr.mono (by decide)) (by rfl) (pa_cons (pe_ix ix_tup (pv 0) pe_int (fun _ _ => rfl)) pa_nil)))))
        pss_nil)
      (pss_cons (ps_if (pt_cmpR op_eq (pe_ix ix_tup (pv 0) pe_int (fun _ _ => rfl)) pe_str (nomark _))
        (pss_one (ps_ret (pe_op op_cat (pv 1) (pe_def DCB (hr.mono (by decide)) (by rfl) (pa_cons (pe_ix ix_tup (pv 0) pe_int (fun _ _ => rfl)) pa_nil)))))
        pss_nil)
      (pss_one (ps_ret (pe_op op_cat (pe_op op_cat (pe_op op_cat (pv 1) (pe_def DCS (hr.mono (by decide)) (by rfl) (pa_cons (pe_ix ix_tup (pv 0) pe_int (fun _ _ => rfl)) pa_nil))) (pe_def DCTs (hr.mono (by decide)) (by rfl) (pa_cons (pe_ix ix_tup (pv 0) pe_int (fun _ _ => rfl)) pa_nil))) (pe_def DCB (hr.mono (by decide)) (by rfl) (pa_cons (pe_ix ix_tup (pv 0) pe_int (fun _ _ => rfl)) pa_nil))))))))), ?_⟩
    cases en with
    | mk hi =>
    have hix : ∀ {ops : List Str} {k : Nat} {o : Str} {H1 : Hp} {p : Addr}, ops.Nodup → ops[k]? = some o → H1 p = some (.lst (ops.map V.str)) → ∀ {Q : VK}, Q (.int (k : Int)) H1 → rIndex K (.ref p) [.str o] H1 Q := fun {ops k o H1 p} nd hk ep Q q => by
      obtain ⟨o1, _, o3, o4⟩ := ops_at nd hk
      exact ⟨p, _, .str o, k, .str o, rfl, rfl, SqL.of ep, rfl, List.all_eq_true.mpr fun x hx => (by obtain ⟨s, _, rfl⟩ := List.mem_map.mp hx; rfl), o1, o3, o4, q⟩
    cases hi with
    | @rel nm n h0 h1 =>
      obtain ⟨p, x, y, z, rfl, ep, t1, t2, t3⟩ := tup_inv3 tv
      cases str_inv t1
      cases str_inv t2
      cases int_inv t3
      have l0 := encS_len h0
      have hb : n < big := Nat.lt_trans h1 (by decide)
      have l1 := encN_len18 hb
      refine (yl_cat (yl_one_w (k := 0) (fun Q q => ⟨by show 4 ≤ sizeLine; decide, fun pl npl => ⟨.inl ⟨rfl, _, SqL.of (xs := sorts4.map V.str) upd_same⟩, (yv_ix (v := .str (sorts4[0])) (yv_var rfl) ((same_new npl) _ _ ep) rfl) _ (hix (k := 0) (o := sorts4[0]) sorts4_nd rfl upd_same (q _ (same_new npl)))⟩⟩)) (fun H' s => yl_str (yv_ix (yv_var rfl) (s _ _ ep) rfl) h0) (by show 1 + _ ≤ _; omega)) _ fun pd H1 s1 n1 e1 => ?_
      have ep := s1 _ _ ep
      refine ⟨.ref p, rfl, p, _, 0, .str "relation", rfl, rfl, SqT.of ep, rfl, rfl, _, rfl, yes_if ?_⟩
      refine yl_ret (b := [0] ++ encS nm ++ encN n) ?_ fun p2 H2 s2 n2 e2 => ?_
      · exact yl_catxx (yx_var rfl e1) (fun H' s => (yl_num (yv_ix (yv_var rfl) (s _ _ ep) rfl) hb).x) (by rw [List.length_append]; show 1 + _ + _ ≤ _; omega)
      · exact q p2 H2 (s1.trans s2) (back_none s1 n2) e2
    | @fact nm ds b' h0 h1 =>
      obtain ⟨p, x, y, z, rfl, ep, t1, t2, t3⟩ := tup_inv3 tv
      cases str_inv t1
      cases str_inv t2
      have l0 := encS_len h0
      have l1 := h1.len
      refine (yl_cat (yl_one_w (k := 1) (fun Q q => ⟨by show 4 ≤ sizeLine; decide, fun pl npl => ⟨.inl ⟨rfl, _, SqL.of (xs := sorts4.map V.str) upd_same⟩, (yv_ix (v := .str (sorts4[1])) (yv_var rfl) ((same_new npl) _ _ ep) rfl) _ (hix (k := 1) (o := sorts4[1]) sorts4_nd rfl upd_same (q _ (same_new npl)))⟩⟩)) (fun H' s => yl_str (yv_ix (yv_var rfl) (s _ _ ep) rfl) h0) (by show 1 + _ ≤ _; omega)) _ fun pd H1 s1 n1 e1 => ?_
      have ep := s1 _ _ ep
      refine ⟨.ref p, rfl, p, _, 0, .str "fact", rfl, rfl, SqT.of ep, rfl, rfl, _, rfl, no_if (by decide +kernel) ?_⟩
      refine ⟨.ref p, rfl, p, _, 0, .str "fact", rfl, rfl, SqT.of ep, rfl, rfl, _, rfl, yes_if ?_⟩
      refine yl_ret (b := [1] ++ encS nm ++ b') ?_ fun p2 H2 s2 n2 e2 => ?_
      · exact yl_catxx (yx_var rfl e1) (fun H' s => (yl_call (yv_ix (yv_var rfl) (s _ _ ep) rfl) (t3.mono (Tk.of (s1.trans s))) h1).x) (by rw [List.length_append]; show 1 + _ + _ ≤ _; omega)
      · exact q p2 H2 (s1.trans s2) (back_none s1 n2) e2
    | @rule nm rl ts bd a' b' h0 h1 h2 h3 =>
      obtain ⟨p, x, y, z, u, w', rfl, ep, t1, t2, t3, t4, t5⟩ := tup_inv5 tv
      cases str_inv t1
      cases str_inv t2
      cases str_inv t3
      have l0 := encS_len h0
      have l1 := encS_len h1
      have l2 := h2.len
      have l3 := h3.len
      refine (yl_cat (yl_one_w (k := 2) (fun Q q => ⟨by show 4 ≤ sizeLine; decide, fun pl npl => ⟨.inl ⟨rfl, _, SqL.of (xs := sorts4.map V.str) upd_same⟩, (yv_ix (v := .str (sorts4[2])) (yv_var rfl) ((same_new npl) _ _ ep) rfl) _ (hix (k := 2) (o := sorts4[2]) sorts4_nd rfl upd_same (q _ (same_new npl)))⟩⟩)) (fun H' s => yl_str (yv_ix (yv_var rfl) (s _ _ ep) rfl) h0) (by show 1 + _ ≤ _; omega)) _ fun pd H1 s1 n1 e1 => ?_
      have ep := s1 _ _ ep
      refine ⟨.ref p, rfl, p, _, 0, .str "rule", rfl, rfl, SqT.of ep, rfl, rfl, _, rfl, no_if (by decide +kernel) ?_⟩
      refine ⟨.ref p, rfl, p, _, 0, .str "rule", rfl, rfl, SqT.of ep, rfl, rfl, _, rfl, no_if (by decide +kernel) ?_⟩
      refine ⟨.ref p, rfl, p, _, 0, .str "rule", rfl, rfl, SqT.of ep, rfl, rfl, _, rfl, no_if (by decide +kernel) ?_⟩
      refine nx_of ?_
      dsimp only
      refine yl_ret (b := [2] ++ encS nm ++ encS rl ++ a' ++ b') ?_ fun p2 H2 s2 n2 e2 => ?_
      · exact yl_cat (yl_cat (yl_catxx (yx_var rfl e1) (fun H' s => (yl_str (yv_ix (yv_var rfl) (s _ _ ep) rfl) h1).x) (by rw [List.length_append]; show 1 + _ + _ ≤ _; omega)) (fun H' s => yl_call (yv_ix (yv_var rfl) (s _ _ ep) rfl) (t4.mono (Tk.of (s1.trans s))) h2) (by rw [List.length_append, List.length_append]; show 1 + _ + _ + _ ≤ _; omega)) (fun H' s => yl_call (yv_ix (yv_var rfl) (s _ _ ep) rfl) (t5.mono (Tk.of (s1.trans s))) h3) (by rw [List.length_append, List.length_append, List.length_append]; show 1 + _ + _ + _ + _ ≤ _; omega)
      · exact q p2 H2 (s1.trans s2) (back_none s1 n2) e2
    | @den nm bd b' h0 h1 =>
      obtain ⟨p, x, y, z, rfl, ep, t1, t2, t3⟩ := tup_inv3 tv
      cases str_inv t1
      cases str_inv t2
      have l0 := encS_len h0
      have l1 := h1.len
      refine (yl_cat (yl_one_w (k := 3) (fun Q q => ⟨by show 4 ≤ sizeLine; decide, fun pl npl => ⟨.inl ⟨rfl, _, SqL.of (xs := sorts4.map V.str) upd_same⟩, (yv_ix (v := .str (sorts4[3])) (yv_var rfl) ((same_new npl) _ _ ep) rfl) _ (hix (k := 3) (o := sorts4[3]) sorts4_nd rfl upd_same (q _ (same_new npl)))⟩⟩)) (fun H' s => yl_str (yv_ix (yv_var rfl) (s _ _ ep) rfl) h0) (by show 1 + _ ≤ _; omega)) _ fun pd H1 s1 n1 e1 => ?_
      have ep := s1 _ _ ep
      refine ⟨.ref p, rfl, p, _, 0, .str "denial", rfl, rfl, SqT.of ep, rfl, rfl, _, rfl, no_if (by decide +kernel) ?_⟩
      refine ⟨.ref p, rfl, p, _, 0, .str "denial", rfl, rfl, SqT.of ep, rfl, rfl, _, rfl, no_if (by decide +kernel) ?_⟩
      refine ⟨.ref p, rfl, p, _, 0, .str "denial", rfl, rfl, SqT.of ep, rfl, rfl, _, rfl, yes_if ?_⟩
      refine yl_ret (b := [3] ++ encS nm ++ b') ?_ fun p2 H2 s2 n2 e2 => ?_
      · exact yl_catxx (yx_var rfl e1) (fun H' s => (yl_call (yv_ix (yv_var rfl) (s _ _ ep) rfl) (t3.mono (Tk.of (s1.trans s))) h1).x) (by rw [List.length_append]; show 1 + _ + _ ≤ _; omega)
      · exact q p2 H2 (s1.trans s2) (back_none s1 n2) e2
abbrev dCI (P : Program) (w : World) (K : PySem.W.Frag) (mg : Str → Option Value) (base : Heap) : Prop := Def P w K mg base "_law_item_code" 9 ["item"] (spW EItem)
abbrev sWC : Stmt := topS 27
abbrev nWC : List Str := ["change", "sort", "name", "row"]
theorem scWC : FnScope nWC ["change"] (defScope sWC) := ⟨rfl, rfl, rfl, by decide +kernel, rfl, by decide +kernel, by decide +kernel⟩
theorem ok_wc {f : Addr} {fd : FuncData} (F : Fun K "write_change" "write_change" sWC f fd) (DWI : dWI P w K mg base) (DWS : dWS P w K mg base) (DWR : dWR P w K mg base) : FnOk P w K mg base CX0 10 f fd ["change"] (spW EC) := by
  refine F.ok scWC (fun vs H Q E h => ?_) (fun cdv A outer s H vs Q E hr h => ?_)
  · obtain ⟨_, _, _, rfl, _⟩ := h
    rfl
  · obtain ⟨v, d, b, rfl, tv, en, q⟩ := h
    refine ⟨_, (pss_cons (ps_if (pt_cmpR op_eq (pe_ix ix_tup (pv 0) pe_int (fun _ _ => rfl)) pe_str (nomark _))
        (pss_one (ps_ret (pe_op op_cat (pe_lst (pa_cons pe_int pa_nil)) (pe_def DWI (hr.mono (by decide)) (by rfl) (pa_cons (pe_ix ix_tup (pv 0) pe_int (fun _ _ => rfl)) pa_nil)))))
        pss_nil)
      (pss_cons (ps_asg (pe_ix ix_tup (pv 0) pe_int (fun _ _ => rfl)) (pg_tup rfl (pgs_cons (pg_name (i := 1) scWC.nd rfl (Or.inl rfl)) (pgs_cons (pg_name (i := 2) scWC.nd rfl (Or.inl rfl)) (pgs_cons (pg_name (i := 3) scWC.nd rfl (Or.inl rfl)) pgs_nil)))))
      (pss_one (ps_ret (pe_op op_cat (pe_op op_cat (pe_lst (pa_cons pe_int (pa_cons (pv 1) pa_nil))) (pe_def DWS (hr.mono (by decide)) (by rfl) (pa_cons (pv 2) pa_nil))) (pe_def DWR (hr.mono (by decide)) (by rfl) (pa_cons (pv 3) pa_nil))))))), ?_⟩
    cases en with
    | comes h1 =>
      obtain ⟨p, x, y, rfl, ep, t1, t2⟩ := tup_inv2 tv
      cases str_inv t1
      have l1 := h1.len
      refine ⟨.ref p, rfl, p, _, 0, .str "comes", rfl, rfl, SqT.of ep, rfl, rfl, _, rfl, yes_if ?_⟩
      refine yl_ret ?_ q
      exact yl_cat (yl_one yv_c) (fun H' s => yl_call (yv_ix (yv_var rfl) (s _ _ ep) rfl) (t2.mono (Tk.of s)) h1) (by show 1 + _ ≤ _; omega)
    | @goes k nm r b' hk h0 h1 =>
      obtain ⟨p, x, y, rfl, ep, t1, t2⟩ := tup_inv2 tv
      obtain ⟨p', x', y', z', rfl, ep', t1', t2', t3'⟩ := tup_inv3 t2
      cases str_inv t1
      cases int_inv t1'
      cases str_inv t2'
      have l0 := encS_len h0
      have l1 := h1.len
      refine ⟨.ref p, rfl, p, _, 0, .str "goes", rfl, rfl, SqT.of ep, rfl, rfl, _, rfl, no_if (by decide +kernel) ?_⟩
      refine ⟨.ref p, rfl, p, _, 1, .ref p', rfl, rfl, SqT.of ep, rfl, p', _, rfl, SqT.of ep', rfl, _, _, rfl, _, _, rfl, _, _, rfl, rfl, ?_⟩
      dsimp only
      refine yl_ret ?_ q
      exact yl_cat (yl_cat (yl_two yv_c (yv_var rfl)) (fun H' s => yl_str (yv_var rfl) h0) (by show 2 + _ ≤ _; omega)) (fun H' s => yl_call (yv_var rfl) (t3'.mono (Tk.of s)) h1) (by rw [List.length_append]; show 2 + _ + _ ≤ _; omega)
abbrev dWC (P : Program) (w : World) (K : PySem.W.Frag) (mg : Str → Option Value) (base : Heap) : Prop := Def P w K mg base "write_change" 10 ["change"] (spW EC)
abbrev sCC : Stmt := topS 62
abbrev nCC : List Str := ["change", "sort", "name", "row"]
theorem scCC : FnScope nCC ["change"] (defScope sCC) := ⟨rfl, rfl, rfl, by decide +kernel, rfl, by decide +kernel, by decide +kernel⟩
theorem ok_cc {f : Addr} {fd : FuncData} (F : Fun K "_law_change_code" "_law_change_code" sCC f fd) (DCI : dCI P w K mg base) (DCS : dCS P w K mg base) (DCR : dCR P w K mg base) : FnOk P w K mg base CX0 10 f fd ["change"] (spW EC) := by
  refine F.ok scCC (fun vs H Q E h => ?_) (fun cdv A outer s H vs Q E hr h => ?_)
  · obtain ⟨_, _, _, rfl, _⟩ := h
    rfl
  · obtain ⟨v, d, b, rfl, tv, en, q⟩ := h
    refine ⟨_, (pss_cons (ps_if (pt_cmpR op_eq (pe_ix ix_tup (pv 0) pe_int (fun _ _ => rfl)) pe_str (nomark _))
        (pss_one (ps_ret (pe_op op_cat (pe_lst (pa_cons pe_int pa_nil)) (pe_def DCI (hr.mono (by decide)) (by rfl) (pa_cons (pe_ix ix_tup (pv 0) pe_int (fun _ _ => rfl)) pa_nil)))))
        pss_nil)
      (pss_cons (ps_asg (pe_ix ix_tup (pv 0) pe_int (fun _ _ => rfl)) (pg_tup rfl (pgs_cons (pg_name (i := 1) scCC.nd rfl (Or.inl rfl)) (pgs_cons (pg_name (i := 2) scCC.nd rfl (Or.inl rfl)) (pgs_cons (pg_name (i := 3) scCC.nd rfl (Or.inl rfl)) pgs_nil)))))
      (pss_one (ps_ret (pe_op op_cat (pe_op op_cat (pe_lst (pa_cons pe_int (pa_cons (pv 1) pa_nil))) (pe_def DCS (hr.mono (by decide)) (by rfl) (pa_cons (pv 2) pa_nil))) (pe_def DCR (hr.mono (by decide)) (by rfl) (pa_cons (pv 3) pa_nil))))))), ?_⟩
    cases en with
    | comes h1 =>
      obtain ⟨p, x, y, rfl, ep, t1, t2⟩ := tup_inv2 tv
      cases str_inv t1
      have l1 := h1.len
      refine ⟨.ref p, rfl, p, _, 0, .str "comes", rfl, rfl, SqT.of ep, rfl, rfl, _, rfl, yes_if ?_⟩
      refine yl_ret ?_ q
      exact yl_cat (yl_one yv_c) (fun H' s => yl_call (yv_ix (yv_var rfl) (s _ _ ep) rfl) (t2.mono (Tk.of s)) h1) (by show 1 + _ ≤ _; omega)
    | @goes k nm r b' hk h0 h1 =>
      obtain ⟨p, x, y, rfl, ep, t1, t2⟩ := tup_inv2 tv
      obtain ⟨p', x', y', z', rfl, ep', t1', t2', t3'⟩ := tup_inv3 t2
      cases str_inv t1
      cases int_inv t1'
      cases str_inv t2'
      have l0 := encS_len h0
      have l1 := h1.len
      refine ⟨.ref p, rfl, p, _, 0, .str "goes", rfl, rfl, SqT.of ep, rfl, rfl, _, rfl, no_if (by decide +kernel) ?_⟩
      refine ⟨.ref p, rfl, p, _, 1, .ref p', rfl, rfl, SqT.of ep, rfl, p', _, rfl, SqT.of ep', rfl, _, _, rfl, _, _, rfl, _, _, rfl, rfl, ?_⟩
      dsimp only
      refine yl_ret ?_ q
      exact yl_cat (yl_cat (yl_two yv_c (yv_var rfl)) (fun H' s => yl_str (yv_var rfl) h0) (by show 2 + _ ≤ _; omega)) (fun H' s => yl_call (yv_var rfl) (t3'.mono (Tk.of s)) h1) (by rw [List.length_append]; show 2 + _ + _ ≤ _; omega)
abbrev dCC (P : Program) (w : World) (K : PySem.W.Frag) (mg : Str → Option Value) (base : Heap) : Prop := Def P w K mg base "_law_change_code" 10 ["change"] (spW EC)
end
end KV

namespace KV
open PySem PySem.Spec PyProof.Rows L2 KA
/-- these bytes stand at this place -/
def At (xs : List Int) (i : Nat) (b : List Int) : Prop := ∃ pre post, xs = pre ++ b ++ post ∧ pre.length = i
theorem At.split {xs a b : List Int} {i : Nat} (h : At xs i (a ++ b)) : At xs i a ∧ At xs (i + a.length) b := by
  obtain ⟨pre, post, rfl, rfl⟩ := h
  refine ⟨⟨pre, b ++ post, by simp, rfl⟩, ⟨pre ++ a, post, by simp, by rw [List.length_append]⟩⟩
theorem At.len {xs b : List Int} {i : Nat} (h : At xs i b) : i + b.length ≤ xs.length := by
  obtain ⟨pre, post, rfl, rfl⟩ := h
  rw [List.length_append, List.length_append]
  omega
theorem At.get {xs b : List Int} {x : Int} {i : Nat} (h : At xs i (x :: b)) : xs[i]? = some x ∧ At xs (i + 1) b := by
  obtain ⟨pre, post, rfl, rfl⟩ := h
  refine ⟨by simp, ⟨pre ++ [x], post, by simp, by simp⟩⟩
theorem At.flat {xs : List Int} : ∀ {bs : List (List Int)} {i j : Nat} {b : List Int}, At xs i bs.flatten → bs[j]? = some b → At xs (i + ((bs.take j).flatten).length) b
  | [], i, j, b, _, e => by cases e
  | c :: bs, i, 0, b, h, e => by
    cases e
    rw [List.flatten_cons] at h
    exact h.split.1
  | c :: bs, i, j + 1, b, h, e => by
    rw [List.flatten_cons] at h
    have := At.flat (bs := bs) (j := j) h.split.2 e
    rw [List.take_succ_cons, List.flatten_cons, List.length_append, ← Nat.add_assoc]
    exact this
/-- the reader's fields -/
structure Rdr (C : Addr) (H : Hp) (r dx d : Addr) (xs : List Int) (i : Nat) : Prop where
  hr : H r = some (.ins C dx [("data", .ref d), ("at", .int (i : Int))])
  hd : H d = some (.lst (xs.map V.int))
  ne : d ≠ r
  len : xs.length ≤ 8000000
/-- the class Reader -/
structure Cr (K : PySem.W.Frag) (mg : Str → Option Value) (C : Addr) : Prop where
  cl : Cls K C
  nD : NoAttr K C "data"
  nA : NoAttr K C "at"
  mgC : mg "Reader" = some (.ref C)
theorem Rdr.kp {C r dx d : Addr} {H H' : Hp} {xs : List Int} {i j : Nat} (h : Rdr C H r dx d xs i) (k : Kp r H H') (e : H' r = some (.ins C dx [("data", .ref d), ("at", .int (j : Int))])) : Rdr C H' r dx d xs j := ⟨e, k _ _ h.ne h.hd, h.ne, h.len⟩
theorem Rdr.same {C r dx d : Addr} {H H' : Hp} {xs : List Int} {i : Nat} (h : Rdr C H r dx d xs i) (s : Same H H') : Rdr C H' r dx d xs i := ⟨s _ _ h.hr, s _ _ h.hd, h.ne, h.len⟩
theorem Rdr.tk {C r dx d : Addr} {H H' : Hp} {xs : List Int} {i : Nat} (h : Rdr C H r dx d xs i) (k : Kp r H H') : Tk H H' := fun a zs e => k a _ (fun z => by rw [z, h.hr] at e; cases e) e
/-- a method that reads such a thing -/
def spRd (C : Addr) (E : Rel) : Sp := fun vs H Q _ => ∃ (r dx d : Addr) (xs : List Int) (i : Nat) (D : PyData) (b : List Int), vs = [.ref r] ∧ Rdr C H r dx d xs i ∧ At xs i b ∧ E D b ∧ ∀ v H', Kp r H H' → Rdr C H' r dx d xs (i + b.length) → Tp H' v D → Q v H'
/-- a number -/
inductive EN : Rel
  | mk {n : Nat} : n < big → EN (.int (n : Int)) (encN n)
/-- a text -/
inductive ES : Rel
  | mk {s : Str} : GoodS s → ES (.str s) (encS s)
/-- one byte -/
def spRb (C : Addr) : Sp := fun vs H Q _ => ∃ (r dx d : Addr) (xs : List Int) (i : Nat) (x : Int), vs = [.ref r] ∧ Rdr C H r dx d xs i ∧ xs[i]? = some x ∧ ∀ H', Kp r H H' → Rdr C H' r dx d xs (i + 1) → Q (.int x) H'
def spRc (C : Addr) : Sp := fun vs H Q _ => ∃ (r dx d : Addr) (xs : List Int) (i : Nat) (x m : Int), vs = [.ref r, .int m] ∧ Rdr C H r dx d xs i ∧ xs[i]? = some x ∧ x < m ∧ ∀ H', Kp r H H' → Rdr C H' r dx d xs (i + 1) → Q (.int x) H'
/-- how many: no more than the bytes that are left -/
def spRm (C : Addr) : Sp := fun vs H Q _ => ∃ (r dx d : Addr) (xs : List Int) (i n : Nat), vs = [.ref r] ∧ Rdr C H r dx d xs i ∧ At xs i (encN n) ∧ n < big ∧ i + (encN n).length + n ≤ xs.length ∧ ∀ H', Kp r H H' → Rdr C H' r dx d xs (i + (encN n).length) → Q (.int (n : Int)) H'
theorem chr_lo : ∀ c < 37, 32 ≤ c → chars32.cps.toList[c - 32]? = some c := by decide +kernel
theorem chr_hi : ∀ c < 127, 38 ≤ c → chars38.cps.toList[c - 38]? = some c := by decide +kernel
end KV

namespace KV
open PySem PySem.Spec PyProof.Rows L2 KA
theorem iteT' {a : Prop} {b : Prop} {c : Bool} (e : c = true) (h : a) : if c = true then a else b := by rw [if_pos e]; exact h
theorem iteF' {a : Prop} {b : Prop} {c : Bool} (e : c = false) (h : b) : if c = true then a else b := by rw [e, if_neg Bool.false_ne_true]; exact h
theorem pe_cst {X : Cx} {x : Str} {i : Str} {pos : Pos} (hg : Gl X x) (h : ∃ t, X.mg x = some (.str i t)) (hd : (x == ("__debug__" : Str)) = false := by decide) : PE X (.Name x pos) (tC (.str i)) := by
  obtain ⟨t, h⟩ := h
  exact pe_glob hg h ⟨_, rfl⟩ hd
section
variable {P : Program} {w : World} {K : PySem.W.Frag} {mg : Str → Option Value} {base : Heap} {TC TR C : Addr}
abbrev mRb (P : Program) (w : World) (K : PySem.W.Frag) (mg : Str → Option Value) (base : Heap) (C : Addr) : Prop := MDef P w K mg base C "_read_byte" 1 ["self"] (spRb C)
abbrev mRc (P : Program) (w : World) (K : PySem.W.Frag) (mg : Str → Option Value) (base : Heap) (C : Addr) : Prop := MDef P w K mg base C "_read_choice" 2 ["self", "many"] (spRc C)
abbrev mRn (P : Program) (w : World) (K : PySem.W.Frag) (mg : Str → Option Value) (base : Heap) (C : Addr) : Prop := MDef P w K mg base C "read_number" 2 ["self"] (spRd C EN)
abbrev mRm (P : Program) (w : World) (K : PySem.W.Frag) (mg : Str → Option Value) (base : Heap) (C : Addr) : Prop := MDef P w K mg base C "_read_many" 3 ["self"] (spRm C)
abbrev sCO : Stmt := topS 30
abbrev nCO : List Str := ["code"]
theorem scCO : FnScope nCO ["code"] (defScope sCO) := ⟨rfl, rfl, rfl, by decide +kernel, rfl, by decide +kernel, by decide +kernel⟩
def spCO : Sp := fun vs H Q _ => ∃ c : Nat, vs = [.int (c : Int)] ∧ GoodC c ∧ Q (.str ⟨#[c]⟩) H
theorem ok_co {f : Addr} {fd : FuncData} (F : Fun K "character_of" "character_of" sCO f fd) (G : Gl4 K mg TC TR) : FnOk P w K mg base CX0 1 f fd ["code"] spCO := by
  refine F.ok scCO (fun vs H Q E h => ?_) (fun cdv A outer s H vs Q E hr h => ?_)
  · obtain ⟨_, rfl, _⟩ := h
    rfl
  · obtain ⟨c, rfl, gc, q⟩ := h
    refine ⟨_, (pss_cons (ps_if (pt_chain op_le op_le pe_int (pv 0) pe_int)
        (pss_one (ps_ret (pe_ix ix_str (pe_cst (by rfl) G.c32) (pe_op op_sub (pv 0) pe_int) (fun _ _ => rfl))))
        pss_nil)
      (pss_cons (ps_if (pt_chain op_le op_le pe_int (pv 0) pe_int)
        (pss_one (ps_ret (pe_ix ix_str (pe_cst (by rfl) G.c38) (pe_op op_sub (pv 0) pe_int) (fun _ _ => rfl))))
        pss_nil)
      pss_never)), ?_⟩
    have g1 := gc.1
    have g2 := gc.2.1
    have g3 := gc.2.2
    refine ⟨.int (c : Int), rfl, 32, (c : Int), rfl, rfl, _, rfl, iteT' (decide_eq_true (by omega)) ⟨(c : Int), 36, rfl, rfl, _, rfl, ?_⟩⟩
    by_cases h : c ≤ 36
    · refine iteT' (decide_eq_true (by omega)) ⟨.int (c : Int), rfl, _, _, rfl, rfl, chars32, (c : Int) - 32, c, rfl, rfl, by decide +kernel, ?_, q⟩
      rw [show (c : Int) - 32 = ((c - 32 : Nat) : Int) by omega]
      exact atI_nat (chr_lo c (by omega) g1)
    · refine iteF' (decide_eq_false (by omega)) ?_
      refine ⟨.int (c : Int), rfl, 38, (c : Int), rfl, rfl, _, rfl, iteT' (decide_eq_true (by omega)) ⟨(c : Int), 126, rfl, rfl, _, rfl, iteT' (decide_eq_true (by omega)) ?_⟩⟩
      refine ⟨.int (c : Int), rfl, _, _, rfl, rfl, chars38, (c : Int) - 38, c, rfl, rfl, by decide +kernel, ?_, q⟩
      rw [show (c : Int) - 38 = ((c - 38 : Nat) : Int) by omega]
      exact atI_nat (chr_hi c (by omega) (by omega))
abbrev sRReadByte : Stmt := inClass (topS 31) 10
abbrev nRReadByte : List Str := ["self"]
theorem scRReadByte : FnScope nRReadByte ["self"] (defScope sRReadByte) := ⟨rfl, rfl, rfl, by decide +kernel, rfl, by decide +kernel, by decide +kernel⟩
theorem ok_rb {f0 : Addr} {fd : FuncData} (F0 : Fun K "_read_byte" "Reader._read_byte" sRReadByte f0 fd) (B : Bt mg) (T : Cr K mg C) : FnOk P w K mg base CX0 1 f0 fd ["self"] (spRb C) := by
  refine F0.ok scRReadByte (fun vs H Q E h => ?_) (fun cdv A outer s0 H vs Q E hr h => ?_)
  · obtain ⟨_, _, _, _, _, _, rfl, _⟩ := h
    rfl
  · obtain ⟨r, dx, d, xs, i, x, rfl, rd, hx, q⟩ := h
    refine ⟨_, (pss_cons (ps_if (pt_cmpR op_ge (pe_fld (pv 0) rfl) (pe_callB call_len_seq (by rfl) B.len PySem.boot_len (pa_cons (pe_fld (pv 0) rfl) pa_nil)) (nomark _))
        pss_never
        pss_nil)
      (pss_cons (ps_fldaug (pv 0) pe_int in_add)
      (pss_one (ps_ret (pe_ix ix_list (pe_fld (pv 0) rfl) (pe_op op_sub (pe_fld (pv 0) rfl) pe_int) (fun _ _ => rfl)))))), ?_⟩
    have hi : i < xs.length := (List.getElem?_eq_some_iff.mp hx).1
    have hl := rd.len
    refine ⟨.ref r, rfl, r, C, dx, _, .int (i : Int), rfl, rd.hr, T.cl, T.nA, rfl, .ref r, rfl, r, C, dx, _, .ref d, rfl, rd.hr, T.cl, T.nD, rfl, d, _, rfl, .inl (SqL.of rd.hd), _, _, rfl, rfl, _, rfl, iteF' ?_ ?_⟩
    · rw [List.length_map]
      exact decide_eq_false (by omega)
    refine ⟨.ref r, rfl, r, C, dx, _, .int (i : Int), rfl, rd.hr, T.cl, T.nA, rfl, _, _, rfl, rfl, dx, _, rd.hr, (by show 2 < 1000; decide), ?_⟩
    generalize hG : upd H r _ = H1
    have k1 : Kp r H H1 := by subst hG; exact Kp.st
    have e1 : H1 r = some (.ins C dx [("data", .ref d), ("at", .int ((i + 1 : Nat) : Int))]) := by subst hG; exact upd_same
    clear hG
    have rd1 := rd.kp k1 e1
    refine ⟨.ref r, rfl, r, C, dx, _, .ref d, rfl, e1, T.cl, T.nD, rfl, .ref r, rfl, r, C, dx, _, .int ((i + 1 : Nat) : Int), rfl, e1, T.cl, T.nA, rfl, _, _, rfl, rfl, d, _, ((i + 1 : Nat) : Int) - 1, .int x, rfl, rfl, SqL.of rd1.hd, ?_, q H1 k1 rd1⟩
    rw [show ((i + 1 : Nat) : Int) - 1 = (i : Int) by omega]
    refine atI_nat ?_
    rw [List.getElem?_map, hx]
    rfl
abbrev sRReadChoice : Stmt := inClass (topS 31) 11
abbrev nRReadChoice : List Str := ["self", "many", "byte"]
theorem scRReadChoice : FnScope nRReadChoice ["self", "many"] (defScope sRReadChoice) := ⟨rfl, rfl, rfl, by decide +kernel, rfl, by decide +kernel, by decide +kernel⟩
theorem ok_rc {f0 : Addr} {fd : FuncData} (F0 : Fun K "_read_choice" "Reader._read_choice" sRReadChoice f0 fd) (T : Cr K mg C) (MRb : mRb P w K mg base C) : FnOk P w K mg base CX0 2 f0 fd ["self", "many"] (spRc C) := by
  refine F0.ok scRReadChoice (fun vs H Q E h => ?_) (fun cdv A outer s0 H vs Q E hr h => ?_)
  · obtain ⟨_, _, _, _, _, _, _, rfl, _⟩ := h
    rfl
  · obtain ⟨r, dx, d, xs, i, x, m, rfl, rd, hx, hm, q⟩ := h
    refine ⟨_, (pss_cons (ps_set (i := 2) scRReadChoice.nd rfl (.inl rfl) (pe_mdef0 MRb (pv 0) T.cl (hr.mono (by decide))))
      (pss_cons (ps_if (pt_cmpR op_ge (pv 2) (pv 1) (nomark _))
        pss_never
        pss_nil)
      (pss_one (ps_ret (pv 2))))), ?_⟩
    refine ⟨.ref r, rfl, r, dx, _, rfl, rd.hr, rfl, r, dx, d, xs, i, x, rfl, rd, hx, fun H' k rd' => ?_⟩
    exact ⟨.int x, rfl, .int m, rfl, _, _, rfl, rfl, _, rfl, iteF' (decide_eq_false (by omega)) ⟨.int x, rfl, q H' k rd'⟩⟩
abbrev sRReadNumber : Stmt := inClass (topS 31) 1
abbrev nRReadNumber : List Str := ["self", "number", "weight", "many", "byte"]
theorem scRReadNumber : FnScope nRReadNumber ["self"] (defScope sRReadNumber) := ⟨rfl, rfl, rfl, by decide +kernel, rfl, by decide +kernel, by decide +kernel⟩
theorem ok_rn {f0 : Addr} {fd : FuncData} (F0 : Fun K "read_number" "Reader.read_number" sRReadNumber f0 fd) (B : Bt mg) (G : Gl4 K mg TC TR) (T : Cr K mg C) (MRb : mRb P w K mg base C) : FnOk P w K mg base CX0 2 f0 fd ["self"] (spRd C EN) := by
  refine F0.ok scRReadNumber (fun vs H Q E h => ?_) (fun cdv A outer s0 H vs Q E hr h => ?_)
  · obtain ⟨_, _, _, _, _, _, _, rfl, _⟩ := h
    rfl
  · obtain ⟨r, dx, d, xs, i, D, b, rfl, rd, ha, en, q⟩ := h
    refine ⟨_, (pss_cons (ps_set (i := 1) scRReadNumber.nd rfl (.inl rfl) pe_int)
      (pss_cons (ps_set (i := 2) scRReadNumber.nd rfl (.inl rfl) pe_int)
      (pss_cons (ps_for PassesOwn.never rfl (pi_range1 (by rfl) B.rng (pa_cons (pe_con (by rfl) G.mb) pa_nil)) (pg_name (i := 3) scRReadNumber.nd rfl (Or.inl rfl))
        (pss_cons (ps_set (i := 4) scRReadNumber.nd rfl (.inl rfl) (pe_mdef0 MRb (pv 0) T.cl (hr.mono (by decide))))
        (pss_cons (ps_if (PW.pt (pw_and (pt_cmpR op_eq (pv 4) pe_int (nomark _)) (pw_and1 (pt_cmpR op_gt (pv 3) pe_int (nomark _)))))
          pss_never
          pss_nil)
        (pss_cons (ps_if (pt_cmpR op_lt (pv 4) pe_int (nomark _))
          (pss_one (ps_ret (pe_op op_add (pv 1) (pe_op op_mul (pv 2) (pv 4)))))
          pss_nil)
        (pss_cons (ps_set (i := 1) scRReadNumber.nd rfl (.inl rfl) (pe_op op_add (pv 1) (pe_op op_mul (pv 2) (pe_op op_sub (pv 4) pe_int))))
        (pss_one (ps_set (i := 2) scRReadNumber.nd rfl (.inl rfl) (pe_op op_mul (pv 2) pe_int))))))))
      pss_never))), ?_⟩
    cases en with
    | @mk n hn =>
      have l18 := encN_len18 hn
      refine ⟨60, rfl, by decide, by decide, ?_⟩
      refine for_range (lo := 0) (n := (60 : Int).toNat) (fun j σ H' => ∃ (m r' : Nat) (y3 y4 : Option V), σ = [some (.ref r), some (.int (m : Int)), some (.int ((128 ^ j : Nat) : Int)), y3, y4] ∧ Kp r H H' ∧ Rdr C H' r dx d xs (i + j) ∧ n = m + 128 ^ j * r' ∧ (0 < j → 0 < r') ∧ At xs (i + j) (encN r') ∧ j + (encN r').length = (encN n).length) ⟨0, n, _, _, rfl, Kp.refl r H, rd, by simp, (fun z => absurd z (Nat.lt_irrefl _)), ha, by omega⟩ (fun j σ H' hj hP => ?_) (fun σ H' hP => ?_)
      · obtain ⟨m, r', y3, y4, rfl, kp, rd', en', hr0, ha', hl'⟩ := hP
        have hp' := encN_pos r'
        by_cases c : r' ≤ 127
        · rw [encN_lo c] at ha' hl'
          obtain ⟨hx, _⟩ := ha'.get
          refine ⟨.ref r, rfl, r, dx, _, rfl, rd'.hr, rfl, r, dx, d, xs, i + j, (r' : Int), rfl, rd', hx, fun H2 k2 rd2 => ?_⟩
          have hl' : j + 1 = (encN n).length := hl'
          have out : ∀ {v : V}, v = .int ((m : Int) + ((128 ^ j : Nat) : Int) * (r' : Int)) → Q v H2 := fun {v} ev => by
            subst ev
            refine q _ H2 (kp.trans k2) (by rw [← hl', ← Nat.add_assoc]; exact rd2) ?_
            have e : (m : Int) + ((128 ^ j : Nat) : Int) * (r' : Int) = (n : Int) := by
              rw [en', Int.natCast_add, Int.natCast_mul]
            rw [e]
            exact .int _
          have last : tIfS (tTest (tOp (rI0 fun i j => V.bl (decide (i < j))) (tVar 4) (tC (.int 128)))) tNext tNext { nx := fun _ _ => True, rt := fun _ _ => True } [] H2 ∨ True := .inr trivial
          clear last
          refine ⟨.int (r' : Int), rfl, rfl, _, rfl, ?_⟩
          by_cases z : r' = 0
          · have j0 : j = 0 := by
              rcases Nat.eq_zero_or_pos j with h | h
              · exact h
              · have := hr0 h; omega
            refine iteT' (decide_eq_true (by rw [z]; rfl)) ⟨.int (0 + (j : Int)), rfl, _, _, rfl, rfl, _, rfl, iteF' (decide_eq_false (by omega)) ?_⟩
            exact ⟨.int (r' : Int), rfl, _, _, rfl, rfl, _, rfl, iteT' (decide_eq_true (by omega)) ⟨.int (m : Int), rfl, .int _, rfl, .int (r' : Int), rfl, _, _, rfl, rfl, .inr ⟨by omega, by omega⟩, _, _, rfl, rfl, out rfl⟩⟩
          · refine iteF' (decide_eq_false (fun y => z (by injection y with y; omega))) (iteF' rfl ?_)
            exact ⟨.int (r' : Int), rfl, _, _, rfl, rfl, _, rfl, iteT' (decide_eq_true (by omega)) ⟨.int (m : Int), rfl, .int _, rfl, .int (r' : Int), rfl, _, _, rfl, rfl, .inr ⟨by omega, by omega⟩, _, _, rfl, rfl, out rfl⟩⟩
        · rw [encN_hi c] at ha' hl'
          obtain ⟨hx, ha2⟩ := ha'.get
          rw [List.length_cons] at hl'
          have hlt : r' % 128 < 128 := Nat.mod_lt _ (by decide)
          refine ⟨.ref r, rfl, r, dx, _, rfl, rd'.hr, rfl, r, dx, d, xs, i + j, _, rfl, rd', hx, fun H2 k2 rd2 => ?_⟩
          refine ⟨.int _, rfl, rfl, _, rfl, iteF' (decide_eq_false (fun y => by injection y with y; omega)) (iteF' rfl ?_)⟩
          refine ⟨.int _, rfl, _, _, rfl, rfl, _, rfl, iteF' (decide_eq_false (by omega)) ?_⟩
          refine ⟨.int (m : Int), rfl, .int _, rfl, .int _, rfl, _, _, rfl, rfl, _, _, rfl, rfl, .inr ⟨by omega, by omega⟩, _, _, rfl, rfl, ?_⟩
          refine ⟨.int _, rfl, _, _, rfl, rfl, .inr ⟨by decide, by decide⟩, m + 128 ^ j * (r' % 128), r' / 128, some (.int (0 + (j : Int))), some (.int (128 + ((r' % 128 : Nat) : Int))), ?_, kp.trans k2, rd2, ?_, fun _ => by omega, ha2, by omega⟩
          · have e1 : (m : Int) + ((128 ^ j : Nat) : Int) * (128 + ((r' % 128 : Nat) : Int) - 128) = ((m + 128 ^ j * (r' % 128) : Nat) : Int) := by
              rw [show (128 : Int) + ((r' % 128 : Nat) : Int) - 128 = ((r' % 128 : Nat) : Int) by omega, Int.natCast_add, Int.natCast_mul]
            have e2 : ((128 ^ j : Nat) : Int) * 128 = ((128 ^ (j + 1) : Nat) : Int) := by
              rw [Nat.pow_succ, Int.natCast_mul]
              rfl
            show [some (V.ref r), some (V.int ((m : Int) + ((128 ^ j : Nat) : Int) * (128 + ((r' % 128 : Nat) : Int) - 128))), some (V.int (((128 ^ j : Nat) : Int) * 128)), _, _] = _
            rw [e1, e2]
          · rw [en', Nat.pow_succ, Nat.mul_assoc, Nat.add_assoc, ← Nat.mul_add]
            congr 2
            omega
      · obtain ⟨m, r', y3, y4, rfl, kp, rd', en', hr0, ha', hl'⟩ := hP
        have hp' := encN_pos r'
        have hl' : 60 + (encN r').length = (encN n).length := hl'
        omega
abbrev sRReadMany : Stmt := inClass (topS 31) 12
abbrev nRReadMany : List Str := ["self", "many"]
theorem scRReadMany : FnScope nRReadMany ["self"] (defScope sRReadMany) := ⟨rfl, rfl, rfl, by decide +kernel, rfl, by decide +kernel, by decide +kernel⟩
theorem ok_rm {f0 : Addr} {fd : FuncData} (F0 : Fun K "_read_many" "Reader._read_many" sRReadMany f0 fd) (B : Bt mg) (T : Cr K mg C) (MRn : mRn P w K mg base C) : FnOk P w K mg base CX0 3 f0 fd ["self"] (spRm C) := by
  refine F0.ok scRReadMany (fun vs H Q E h => ?_) (fun cdv A outer s0 H vs Q E hr h => ?_)
  · obtain ⟨_, _, _, _, _, _, rfl, _⟩ := h
    rfl
  · obtain ⟨r, dx, d, xs, i, n, rfl, rd, ha, hn, hl, q⟩ := h
    refine ⟨_, (pss_cons (ps_set (i := 1) scRReadMany.nd rfl (.inl rfl) (pe_mdef0 MRn (pv 0) T.cl (hr.mono (by decide))))
      (pss_cons (ps_if (pt_cmpR op_gt (pv 1) (pe_op op_sub (pe_callB call_len_seq (by rfl) B.len PySem.boot_len (pa_cons (pe_fld (pv 0) rfl) pa_nil)) (pe_fld (pv 0) rfl)) (nomark _))
        pss_never
        pss_nil)
      (pss_one (ps_ret (pv 1))))), ?_⟩
    have l18 := encN_len18 hn
    have hx := rd.len
    refine ⟨.ref r, rfl, r, dx, _, rfl, rd.hr, rfl, r, dx, d, xs, i, _, _, rfl, rd, ha, .mk hn, fun v H' k rd' tv => ?_⟩
    cases int_inv tv
    refine ⟨.int (n : Int), rfl, .ref r, rfl, r, C, dx, _, .ref d, rfl, rd'.hr, T.cl, T.nD, rfl, d, _, rfl, .inl (SqL.of rd'.hd), .ref r, rfl, r, C, dx, _, .int _, rfl, rd'.hr, T.cl, T.nA, rfl, _, _, rfl, rfl, _, _, rfl, rfl, _, rfl, iteF' (decide_eq_false ?_) ⟨.int (n : Int), rfl, q H' k rd'⟩⟩
    rw [List.length_map]
    omega
end
end KV

namespace KV
open PySem PySem.Spec PyProof.Rows L2 KA
theorem slot_0 {σ : L2.St} {j : Nat} {x : Option V} {v : Option V} (h : σ[0]? = some v) (hj : 0 < j) : ((wipe σ [j]).set j x)[0]? = some v := by
  show ((σ.set j none).set j x)[0]? = some v
  rw [List.getElem?_set_ne (by omega), List.getElem?_set_ne (by omega)]
  exact h
theorem encL_lens {bs : List (List Int)} {k : Nat} {b : List Int} (e : bs[k]? = some b) : (bs.take (k + 1)).flatten.length = (bs.take k).flatten.length + b.length := by
  rw [List.take_add_one, e, List.flatten_append, List.length_append]
  simp
section
variable {σ : L2.St} {H : Hp} {C r dx d : Addr} {xs : List Int} {i j : Nat} {ds : List PyData} {bs : List (List Int)} {E : Rel} {m : Str} {v : V}
/-- a list that is read -/
theorem rd_many (h0 : σ[0]? = some (some (.ref r))) (hj : 0 < j) (rd : Rdr C H r dx d xs i) (els : Els E ds bs) (ha : At xs i (encL bs)) (hn : bs.length ≤ 1000) (pos : ∀ b ∈ bs, 1 ≤ b.length)
    (hm : List.lookup m ([("data", V.ref d), ("at", .int 0)] : List (Str × V)) = none) (Q : VK) (q : ∀ D acc H', Kp r H H' → Rdr C H' r dx d xs (i + (encL bs).length) → H' D = some (.lst acc) → Tps H' acc ds → Q (.ref D) H') :
    tLc (iRng1 (tCons (tMeth C "_read_many" (spRm C) [] E0 (tVar 0) tNil) tNil)) (gName j) tYes (tMeth C m (spRd C E) [] E0 (tVar 0) tNil) [j] σ H Q := by
  obtain ⟨ha1, ha2⟩ := ha.split
  have hl := ha2.len
  have hmin := flat_min pos
  have hxs := rd.len
  have hm' : ∀ k : Nat, List.lookup m ([("data", V.ref d), ("at", .int (k : Int))] : List (Str × V)) = none := fun k => by
    have e1 : (m == "data") = false := by
      cases c : (m == "data") with
      | false => rfl
      | true => rw [List.lookup_cons, c] at hm; cases hm
    have e2 : (m == "at") = false := by
      cases c : (m == "at") with
      | false => rfl
      | true => rw [List.lookup_cons, e1, List.lookup_cons, c] at hm; cases hm
    rw [List.lookup_cons, e1, List.lookup_cons, e2]
    rfl
  refine ⟨.ref r, h0, r, dx, _, rfl, rd.hr, rfl, r, dx, d, xs, i, bs.length, rfl, rd, ha1, Nat.lt_of_le_of_lt hn (by decide), by omega, fun H1 k1 rd1 => ⟨(bs.length : Int), rfl, by omega, by omega, fun D nD => ?_⟩⟩
  have nDr : D ≠ r := fun z => by rw [z, rd1.hr] at nD; cases nD
  have le := els.length
  refine lc_range (lo := 0) (n := ((bs.length : Nat) : Int).toNat) (fun k H' => Kp r H1 H' ∧ Rdr C H' r dx d xs (i + (encN bs.length).length + (bs.take k).flatten.length) ∧ ∃ acc, H' D = some (.lst acc) ∧ Tps H' acc (ds.take k)) ⟨Kp.new nD, by simpa using rd1.same (same_new nD), [], upd_same, .nil⟩ (fun k H' hk hP => ?_) (fun H' hP => ?_)
  · obtain ⟨kp, rd', acc, eD, ta⟩ := hP
    have hk : k < bs.length := by rw [Int.toNat_natCast] at hk; exact hk
    have eb : bs[k]? = some bs[k] := List.getElem?_eq_getElem hk
    have ed : ds[k]? = some (ds[k]'(by omega)) := List.getElem?_eq_getElem (by omega)
    obtain ⟨b', eb', he⟩ := els.get ed
    rw [eb] at eb'
    cases eb'
    have hat := ha2.flat eb
    refine ⟨set_wipe σ j _, ?_⟩
    unfold tYes; dsimp only; rw [if_pos rfl]
    refine ⟨.ref r, slot_0 h0 hj, r, dx, _, rfl, rd'.hr, hm' _, r, dx, d, xs, _, _, _, rfl, rd', hat, he, fun v H2 k2 rd2 tv => ?_⟩
    have eD2 := k2 _ _ nDr eD
    have la := ta.length
    rw [List.length_take] at la
    have nDd : d ≠ D := fun z => by rw [← z, rd1.hd] at nD; cases nD
    refine ⟨acc, eD2, by rw [sizeLine_eq]; omega, fun a o n h => ?_, ?_, acc ++ [v], upd_same, ?_⟩
    · by_cases c : a = D
      · rw [c, nD] at h; cases h
      · rw [upd_ne c]
        exact k2 _ _ n (kp _ _ n h)
    · have e : i + (encN bs.length).length + (bs.take (k + 1)).flatten.length = i + (encN bs.length).length + (bs.take k).flatten.length + bs[k].length := by rw [encL_lens eb]; omega
      rw [e]
      exact ⟨by rw [upd_ne (Ne.symm nDr)]; exact rd2.hr, by rw [upd_ne nDd]; exact rd2.hd, rd2.ne, rd2.len⟩
    · rw [take_next ed]
      exact (((ta.mono (rd'.tk k2)).mono (Tk.lst eD2)).append (.cons (tv.mono (Tk.lst eD2)) .nil))
  · obtain ⟨kp, rd', acc, eD, ta⟩ := hP
    rw [Int.toNat_natCast] at rd' ta
    rw [List.take_length] at rd'
    rw [← le, List.take_length] at ta
    refine q D acc H' (k1.trans kp) ?_ eD ta
    unfold encL
    rw [List.length_append, ← Nat.add_assoc]
    exact rd'
end
end KV

namespace KV
open PySem PySem.Spec PyProof.Rows L2 KA
section
variable {σ : L2.St} {H H' : Hp} {C r dx d D p : Addr} {xs : List Int} {i j : Nat} {ds : List PyData} {b : List Int} {E : Rel} {m : Str} {v : V} {Q : VK} {acc : List V}
theorem rd_call (h0 : σ[0]? = some (some (.ref r))) (rd : Rdr C H r dx d xs i) (hm : ∀ k : Int, List.lookup m ([("data", V.ref d), ("at", .int k)] : List (Str × V)) = none) {D : PyData} (ha : At xs i b) (he : E D b) (q : ∀ v H', Kp r H H' → Rdr C H' r dx d xs (i + b.length) → Tp H' v D → Q v H') :
    tMeth C m (spRd C E) [] E0 (tVar 0) tNil σ H Q := ⟨.ref r, h0, r, dx, _, rfl, rd.hr, hm _, r, dx, d, xs, i, D, b, rfl, rd, ha, he, q⟩
theorem rd_choice (h0 : σ[0]? = some (some (.ref r))) (rd : Rdr C H r dx d xs i) {x k : Int} (ha : At xs i (x :: b)) (hx : x < k) (q : ∀ H', Kp r H H' → Rdr C H' r dx d xs (i + 1) → At xs (i + 1) b → Q (.int x) H') :
    tMeth C "_read_choice" (spRc C) [] E0 (tVar 0) (tCons (tC (.int k)) tNil) σ H Q := ⟨.ref r, h0, r, dx, _, rfl, rd.hr, rfl, r, dx, d, xs, i, x, k, rfl, rd, ha.get.1, hx, fun H' k' rd' => q H' k' rd' ha.get.2⟩
theorem rd_tup {H0 : Hp} (k : Kp r H0 H) (rd : Rdr C H r dx d xs i) (eD : H D = some (.lst acc)) (ta : Tps H acc ds) {K : PySem.W.Frag} (q : ∀ v H', Kp r H0 H' → Rdr C H' r dx d xs i → Tp H' v (.tuple ds) → Q v H') :
    ∃ p ys, [V.ref D] = [.ref p] ∧ ((SqL K H p ys ∧ ∀ l, H l = none → Q (.ref l) (upd H l (.tup ys))) ∨ (SqT K H p ys ∧ Q (.ref p) H)) :=
  ⟨D, acc, rfl, .inl ⟨SqL.of eD, fun p np => q _ _ (k.trans (Kp.new np)) (rd.same (same_new np)) (.tup upd_same (ta.mono (Tk.new np)))⟩⟩
/-- a new tuple -/
theorem rd_new {H0 : Hp} (k : Kp r H0 H) (rd : Rdr C H r dx d xs i) (np : H p = none) (ta : Tps H acc ds) (q : ∀ v H', Kp r H0 H' → Rdr C H' r dx d xs i → Tp H' v (.tuple ds) → Q v H') : Q (.ref p) (upd H p (.tup acc)) :=
  q _ _ (k.trans (Kp.new np)) (rd.same (same_new np)) (.tup upd_same (ta.mono (Tk.new np)))
end
theorem ret_cb {rl : List V → Hp → VK → Prop} {te : TE} {D : L2.Ends} {σ : L2.St} {H : Hp} (h : te σ H fun x H1 => rl [x] H1 D.rt) : tRet (tCB rl (tCons te tNil)) D σ H := h
theorem one_len (c : Nat) : (⟨#[c]⟩ : Str).length = 1 := rfl
theorem app_eq (a b : Str) : (a ++ b).cps = a.cps ++ b.cps := rfl
theorem join_charsS : ∀ l : List Nat, Str.join "" (l.map fun c => (⟨#[c]⟩ : Str)) = ⟨l.toArray⟩
  | [] => rfl
  | [x] => rfl
  | x :: y :: l => by
    have ih := join_charsS (y :: l)
    show (⟨#[x]⟩ : Str) ++ "" ++ Str.join "" ((y :: l).map fun c => (⟨#[c]⟩ : Str)) = _
    rw [ih]
    apply congrArg Str.mk
    apply Array.ext'
    simp
    rfl
theorem join_chars (l : List Nat) : Txt.join "" (l.map fun c => (⟨#[c]⟩ : Str)) = ⟨l.toArray⟩ := (StrLaws.glued_eq_join _ _).trans (join_charsS l)
theorem plus_len {i : Nat} {a b : List Int} : i + (a ++ b).length = i + a.length + b.length := by rw [List.length_append, Nat.add_assoc]
theorem sum_ones : ∀ l : List Nat, ((l.map fun c => (⟨#[c]⟩ : Str)).map (·.length)).sum = l.length
  | [] => rfl
  | x :: l => by
    rw [List.map_cons, List.map_cons, List.sum_cons, sum_ones l, List.length_cons, one_len]
    omega
section
variable {P : Program} {w : World} {K : PySem.W.Frag} {mg : Str → Option Value} {base : Heap} {TC TR C : Addr}
abbrev dCO (P : Program) (w : World) (K : PySem.W.Frag) (mg : Str → Option Value) (base : Heap) : Prop := Def P w K mg base "character_of" 1 ["code"] spCO
abbrev mRt (P : Program) (w : World) (K : PySem.W.Frag) (mg : Str → Option Value) (base : Heap) (C : Addr) : Prop := MDef P w K mg base C "_read_text" 4 ["self"] (spRd C ES)
abbrev mRv (P : Program) (w : World) (K : PySem.W.Frag) (mg : Str → Option Value) (base : Heap) (C : Addr) : Prop := MDef P w K mg base C "read_value" 5 ["self"] (spRd C EV)
abbrev mRr (P : Program) (w : World) (K : PySem.W.Frag) (mg : Str → Option Value) (base : Heap) (C : Addr) : Prop := MDef P w K mg base C "read_row" 6 ["self"] (spRd C ERow)
abbrev mRtm (P : Program) (w : World) (K : PySem.W.Frag) (mg : Str → Option Value) (base : Heap) (C : Addr) : Prop := MDef P w K mg base C "_read_term" 6 ["self"] (spRd C ET)
abbrev mRts (P : Program) (w : World) (K : PySem.W.Frag) (mg : Str → Option Value) (base : Heap) (C : Addr) : Prop := MDef P w K mg base C "_read_terms" 7 ["self"] (spRd C ETs)
abbrev sRReadText : Stmt := inClass (topS 31) 13
abbrev nRReadText : List Str := ["self", "_"]
theorem scRReadText : FnScope nRReadText ["self"] (defScope sRReadText) := ⟨rfl, rfl, rfl, by decide +kernel, rfl, by decide +kernel, by decide +kernel⟩
theorem ok_rt {f0 : Addr} {fd : FuncData} (F0 : Fun K "_read_text" "Reader._read_text" sRReadText f0 fd) (B : Bt mg) (T : Cr K mg C) (DCO : dCO P w K mg base) (MRb : mRb P w K mg base C) (MRm : mRm P w K mg base C) : FnOk P w K mg base CX0 4 f0 fd ["self"] (spRd C ES) := by
  refine F0.ok scRReadText (fun vs H Q E h => ?_) (fun cdv A outer s0 H vs Q E hr h => ?_)
  · obtain ⟨_, _, _, _, _, _, _, rfl, _⟩ := h
    rfl
  · obtain ⟨r, dx, d, xs, i, D, b, rfl, rd, ha, en, q⟩ := h
    refine ⟨_, (pss_one (ps_ret (pe_join pe_str (pe_lc (own := [("_", 1)]) (g := (gName 1)) (tt := tYes) (te := (tCall spCO [] E0 (tCons (tMeth C "_read_byte" (spRb C) [] E0 (tVar 0) tNil) tNil))) rfl scRReadText.nd (pi_range1 (by rfl) B.rng (pa_cons (pe_mdef0 MRm (pv 0) T.cl (hr.mono (by decide))) pa_nil)) (blkOk_by (own := [("_", 1)]) (N := nRReadText) (sc := defScope sRReadText) (by decide +kernel)) (fun _ _ _ _ _ => (pg_name (i := 1) scRReadText.nd rfl (Or.inl rfl))) (fun _ _ _ _ _ => pts_nil) (fun _ _ _ _ _ => (pe_def DCO (hr.mono (by decide)) (by rfl) (pa_cons (pe_mdef0 MRb (pv 0) T.cl (hr.mono (by decide))) pa_nil))))))), ?_⟩
    cases en with
    | @mk s hs =>
      obtain ⟨ha1, ha2⟩ := ha.split
      have hl := ha2.len
      have hxs := rd.len
      have h100 := hs.1
      have hq : (encS s).length = (encN s.cps.toList.length).length + s.cps.toList.length := by
        unfold encS
        rw [List.length_append, List.length_map]
      rw [List.length_map] at hl
      refine ⟨⟨_, rfl⟩, .ref r, rfl, r, dx, _, rfl, rd.hr, rfl, r, dx, d, xs, i, s.cps.toList.length, rfl, rd, ha1, Nat.lt_of_le_of_lt h100 (by decide), by omega, fun H1 k1 rd1 => ⟨_, rfl, by omega, by omega, fun D nD => ?_⟩⟩
      have nDr : D ≠ r := fun z => by rw [z, rd1.hr] at nD; cases nD
      have nDd : d ≠ D := fun z => by rw [← z, rd1.hd] at nD; cases nD
      refine lc_range (lo := 0) (n := ((s.cps.toList.length : Nat) : Int).toNat) (fun k H' => Kp r H1 H' ∧ Rdr C H' r dx d xs (i + (encN s.cps.toList.length).length + k) ∧ H' D = some (.lst ((s.cps.toList.take k).map fun c : Nat => V.str ⟨#[c]⟩))) ⟨Kp.new nD, by simpa using rd1.same (same_new nD), upd_same⟩ (fun k H' hk hP => ?_) (fun H' hP => ?_)
      · obtain ⟨kp, rd', eD⟩ := hP
        have hk : k < s.cps.toList.length := by rw [Int.toNat_natCast] at hk; exact hk
        have ec : s.cps.toList[k]? = some (s.cps.toList[k]'hk) := List.getElem?_eq_getElem hk
        refine ⟨set_wipe _ _ _, ?_⟩
        unfold tYes; dsimp only; rw [if_pos rfl]
        refine ⟨.ref r, rfl, r, dx, _, rfl, rd'.hr, rfl, r, dx, d, xs, _, _, rfl, rd', ?_, fun H2 k2 rd2 => ⟨s.cps.toList[k], rfl, hs.2 _ (List.getElem_mem hk), ?_⟩⟩
        · obtain ⟨pre, post, ex, el⟩ := ha2
          rw [ex, List.append_assoc, List.getElem?_append_right (by omega), List.getElem?_append_left (by rw [List.length_map]; omega), List.getElem?_map, show i + (encN s.cps.toList.length).length + k - pre.length = k by omega, ec]
          rfl
        · have eD2 := k2 _ _ nDr eD
          refine ⟨_, eD2, by rw [sizeLine_eq, List.length_map, List.length_take]; omega, fun a o n h => ?_, ⟨by rw [upd_ne (Ne.symm nDr)]; exact rd2.hr, by rw [upd_ne nDd]; exact rd2.hd, rd2.ne, rd2.len⟩, ?_⟩
          · by_cases c : a = D
            · rw [c, nD] at h; cases h
            · rw [upd_ne c]
              exact k2 _ _ n (kp _ _ n h)
          · rw [upd_same, take_next ec, List.map_append]
            rfl
      · obtain ⟨kp, rd', eD⟩ := hP
        rw [Int.toNat_natCast] at rd' eD
        rw [List.take_length] at eD
        refine ⟨_, D, s.cps.toList.map fun c => ⟨#[c]⟩, rfl, rfl, .inl (SqL.of (by rw [List.map_map]; exact eD)), ?_, ?_⟩
        · rw [sum_ones, List.length_map]
          show _ + _ * 0 ≤ _
          omega
        · rw [join_chars]
          refine q _ _ (k1.trans kp) (by rw [hq, ← Nat.add_assoc]; exact rd') ?_
          exact .str _
abbrev sRReadValue : Stmt := inClass (topS 31) 2
abbrev nRReadValue : List Str := ["self", "negative", "size"]
theorem scRReadValue : FnScope nRReadValue ["self"] (defScope sRReadValue) := ⟨rfl, rfl, rfl, by decide +kernel, rfl, by decide +kernel, by decide +kernel⟩
theorem ok_rv {f0 : Addr} {fd : FuncData} (F0 : Fun K "read_value" "Reader.read_value" sRReadValue f0 fd) (T : Cr K mg C) (MRc : mRc P w K mg base C) (MRn : mRn P w K mg base C) (MRt : mRt P w K mg base C) : FnOk P w K mg base CX0 5 f0 fd ["self"] (spRd C EV) := by
  refine F0.ok scRReadValue (fun vs H Q E h => ?_) (fun cdv A outer s0 H vs Q E hr h => ?_)
  · obtain ⟨_, _, _, _, _, _, _, rfl, _⟩ := h
    rfl
  · obtain ⟨r, dx, d, xs, i, D, b, rfl, rd, ha, en, q⟩ := h
    refine ⟨_, (pss_cons (ps_if (pt_cmpR op_eq (pe_mdef MRc (pv 0) T.cl (hr.mono (by decide)) (pa_cons pe_int pa_nil)) pe_int (nomark _))
        (pss_one (ps_ret (pe_mdef0 MRt (pv 0) T.cl (hr.mono (by decide)))))
        pss_nil)
      (pss_cons (ps_set (i := 1) scRReadValue.nd rfl (.inl rfl) (pe_cmpR op_eq (pe_mdef MRc (pv 0) T.cl (hr.mono (by decide)) (pa_cons pe_int pa_nil)) pe_int (nomark _)))
      (pss_cons (ps_set (i := 2) scRReadValue.nd rfl (.inl rfl) (pe_mdef0 MRn (pv 0) T.cl (hr.mono (by decide))))
      (pss_cons (ps_if (PW.pt (pw_and (pt_val (pv 1)) (pw_and1 (pt_cmpR op_eq (pv 2) pe_int (nomark _)))))
        pss_never
        pss_nil)
      (pss_one (ps_ret (pe_ifExp (pt_val (pv 1)) (pe_un un_neg (pv 2)) (pv 2)))))))), ?_⟩
    cases en with
    | str s hs =>
      refine rd_choice rfl rd ha (by decide) fun H1 k1 rd1 ha1 => ⟨rfl, _, rfl, yes_if ?_⟩
      refine rd_call rfl rd1 (fun _ => rfl) ha1 (.mk hs) fun v H2 k2 rd2 t2 => q _ _ (k1.trans k2) ?_ t2
      rw [plus_len]
      exact rd2
    | int z hz =>
      refine rd_choice rfl rd ha (by decide) fun H1 k1 rd1 ha1 => ⟨rfl, _, rfl, no_if (by decide +kernel) ?_⟩
      refine rd_choice rfl rd1 ha1 (by split <;> decide) fun H2 k2 rd2 ha2 => ⟨rfl, ?_⟩
      refine rd_call rfl rd2 (fun _ => rfl) ha2 (.mk hz) fun v H3 k3 rd3 t3 => ?_
      cases int_inv t3
      have k13 := k1.trans (k2.trans k3)
      have out : ∀ {v : V}, v = .int z → Q v H3 := fun {v} ev => by
        subst ev
        refine q _ H3 k13 ?_ (.int _)
        rw [plus_len]
        exact rd3
      by_cases c : z < 0
      · rw [if_pos c]
        refine ⟨_, rfl, _, rfl, iteT' (decide_eq_true rfl) ⟨.int _, rfl, rfl, _, rfl, ?_⟩⟩
        refine iteF' (decide_eq_false (fun y => by injection y with y; omega)) ?_
        exact ⟨_, rfl, _, rfl, iteT' (decide_eq_true rfl) ⟨.int _, rfl, _, rfl, out (by show V.int (-(z.natAbs : Int)) = _; rw [show -(z.natAbs : Int) = z by omega])⟩⟩
      · rw [if_neg c]
        refine ⟨_, rfl, _, rfl, iteF' (decide_eq_false (by decide)) ?_⟩
        exact ⟨_, rfl, _, rfl, iteF' (decide_eq_false (by decide)) ⟨.int _, rfl, out (by rw [show (z.natAbs : Int) = z by omega])⟩⟩
abbrev sRReadRow : Stmt := inClass (topS 31) 3
abbrev nRReadRow : List Str := ["self", "_"]
theorem scRReadRow : FnScope nRReadRow ["self"] (defScope sRReadRow) := ⟨rfl, rfl, rfl, by decide +kernel, rfl, by decide +kernel, by decide +kernel⟩
theorem ok_rr {f0 : Addr} {fd : FuncData} (F0 : Fun K "read_row" "Reader.read_row" sRReadRow f0 fd) (B : Bt mg) (T : Cr K mg C) (MRm : mRm P w K mg base C) (MRv : mRv P w K mg base C) : FnOk P w K mg base CX0 6 f0 fd ["self"] (spRd C ERow) := by
  refine F0.ok scRReadRow (fun vs H Q E h => ?_) (fun cdv A outer s0 H vs Q E hr h => ?_)
  · obtain ⟨_, _, _, _, _, _, _, rfl, _⟩ := h
    rfl
  · obtain ⟨r, dx, d, xs, i, D, b, rfl, rd, ha, en, q⟩ := h
    refine ⟨_, (pss_one (ps_ret (pe_callTy call_tuple_of (by rfl) B.tup (by decide +kernel) (pa_cons (pe_lc (own := [("_", 1)]) (g := (gName 1)) (tt := tYes) (te := (tMeth C "read_value" (spRd C EV) [] E0 (tVar 0) tNil)) rfl scRReadRow.nd (pi_range1 (by rfl) B.rng (pa_cons (pe_mdef0 MRm (pv 0) T.cl (hr.mono (by decide))) pa_nil)) (blkOk_by (own := [("_", 1)]) (N := nRReadRow) (sc := defScope sRReadRow) (by decide +kernel)) (fun _ _ _ _ _ => (pg_name (i := 1) scRReadRow.nd rfl (Or.inl rfl))) (fun _ _ _ _ _ => pts_nil) (fun _ _ _ _ _ => (pe_mdef0 MRv (pv 0) T.cl (hr.mono (by decide))))) pa_nil)))), ?_⟩
    cases en with
    | @mk ds bs els hl =>
      have l := els.length
      refine ret_cb (rd_many (m := "read_value") (j := 1) rfl (by decide) rd els ha (by omega) (fun b hb => by obtain ⟨d, hd⟩ := els.all.2 b hb; exact hd.len.1) rfl _ ?_)
      exact fun D acc H' k rd' eD ta => rd_tup k rd' eD ta q
abbrev sRReadTerm : Stmt := inClass (topS 31) 14
abbrev nRReadTerm : List Str := ["self", "sort"]
theorem scRReadTerm : FnScope nRReadTerm ["self"] (defScope sRReadTerm) := ⟨rfl, rfl, rfl, by decide +kernel, rfl, by decide +kernel, by decide +kernel⟩
theorem ok_rtm {f0 : Addr} {fd : FuncData} (F0 : Fun K "_read_term" "Reader._read_term" sRReadTerm f0 fd) (T : Cr K mg C) (MRc : mRc P w K mg base C) (MRt : mRt P w K mg base C) (MRv : mRv P w K mg base C) : FnOk P w K mg base CX0 6 f0 fd ["self"] (spRd C ET) := by
  refine F0.ok scRReadTerm (fun vs H Q E h => ?_) (fun cdv A outer s0 H vs Q E hr h => ?_)
  · obtain ⟨_, _, _, _, _, _, _, rfl, _⟩ := h
    rfl
  · obtain ⟨r, dx, d, xs, i, D, b, rfl, rd, ha, en, q⟩ := h
    refine ⟨_, (pss_cons (ps_set (i := 1) scRReadTerm.nd rfl (.inl rfl) (pe_mdef MRc (pv 0) T.cl (hr.mono (by decide)) (pa_cons pe_int pa_nil)))
      (pss_cons (ps_if (pt_cmpR op_eq (pv 1) pe_int (nomark _))
        (pss_one (ps_ret (pe_tup (pa_cons pe_str (pa_cons (pe_mdef0 MRv (pv 0) T.cl (hr.mono (by decide))) pa_nil)))))
        pss_nil)
      (pss_cons (ps_if (pt_cmpR op_eq (pv 1) pe_int (nomark _))
        (pss_one (ps_ret (pe_tup (pa_cons pe_str (pa_cons (pe_mdef0 MRt (pv 0) T.cl (hr.mono (by decide))) pa_nil)))))
        pss_nil)
      (pss_one (ps_ret (pe_tup (pa_cons pe_str pa_nil))))))), ?_⟩
    cases en with
    | any =>
      refine rd_choice rfl rd ha (by decide) fun H1 k1 rd1 ha1 => ?_
      refine ⟨.int 2, rfl, rfl, _, rfl, no_if (by decide +kernel) ⟨.int 2, rfl, rfl, _, rfl, no_if (by decide +kernel) ⟨by show 1 ≤ sizeLine; decide, fun p np => rd_new k1 rd1 np (.cons (.str _) .nil) q⟩⟩⟩
    | @val d' b' hv =>
      refine rd_choice rfl rd ha (by decide) fun H1 k1 rd1 ha1 => ?_
      refine ⟨.int 0, rfl, rfl, _, rfl, yes_if (rd_call rfl rd1 (fun _ => rfl) ha1 hv fun v H2 k2 rd2 t2 => ⟨by show 2 ≤ sizeLine; decide, fun p np => rd_new (k1.trans k2) rd2 np (.cons (.str _) (.cons t2 .nil)) ?_⟩)⟩
      rw [plus_len] at q
      exact q
    | @var s hs =>
      refine rd_choice rfl rd ha (by decide) fun H1 k1 rd1 ha1 => ?_
      refine ⟨.int 1, rfl, rfl, _, rfl, no_if (by decide +kernel) ⟨.int 1, rfl, rfl, _, rfl, yes_if (rd_call rfl rd1 (fun _ => rfl) ha1 (.mk hs) fun v H2 k2 rd2 t2 => ⟨by show 2 ≤ sizeLine; decide, fun p np => rd_new (k1.trans k2) rd2 np (.cons (.str _) (.cons t2 .nil)) ?_⟩)⟩⟩
      rw [plus_len] at q
      exact q
abbrev sRReadTerms : Stmt := inClass (topS 31) 15
abbrev nRReadTerms : List Str := ["self", "_"]
theorem scRReadTerms : FnScope nRReadTerms ["self"] (defScope sRReadTerms) := ⟨rfl, rfl, rfl, by decide +kernel, rfl, by decide +kernel, by decide +kernel⟩
theorem ok_rts {f0 : Addr} {fd : FuncData} (F0 : Fun K "_read_terms" "Reader._read_terms" sRReadTerms f0 fd) (B : Bt mg) (T : Cr K mg C) (MRm : mRm P w K mg base C) (MRtm : mRtm P w K mg base C) : FnOk P w K mg base CX0 7 f0 fd ["self"] (spRd C ETs) := by
  refine F0.ok scRReadTerms (fun vs H Q E h => ?_) (fun cdv A outer s0 H vs Q E hr h => ?_)
  · obtain ⟨_, _, _, _, _, _, _, rfl, _⟩ := h
    rfl
  · obtain ⟨r, dx, d, xs, i, D, b, rfl, rd, ha, en, q⟩ := h
    refine ⟨_, (pss_one (ps_ret (pe_callTy call_tuple_of (by rfl) B.tup (by decide +kernel) (pa_cons (pe_lc (own := [("_", 1)]) (g := (gName 1)) (tt := tYes) (te := (tMeth C "_read_term" (spRd C ET) [] E0 (tVar 0) tNil)) rfl scRReadTerms.nd (pi_range1 (by rfl) B.rng (pa_cons (pe_mdef0 MRm (pv 0) T.cl (hr.mono (by decide))) pa_nil)) (blkOk_by (own := [("_", 1)]) (N := nRReadTerms) (sc := defScope sRReadTerms) (by decide +kernel)) (fun _ _ _ _ _ => (pg_name (i := 1) scRReadTerms.nd rfl (Or.inl rfl))) (fun _ _ _ _ _ => pts_nil) (fun _ _ _ _ _ => (pe_mdef0 MRtm (pv 0) T.cl (hr.mono (by decide))))) pa_nil)))), ?_⟩
    cases en with
    | @mk ds bs els hl =>
      have l := els.length
      refine ret_cb (rd_many (m := "_read_term") (j := 1) rfl (by decide) rd els ha (by omega) (fun b hb => by obtain ⟨d, hd⟩ := els.all.2 b hb; exact hd.len.1) rfl _ ?_)
      exact fun D acc H' k rd' eD ta => rd_tup k rd' eD ta q
end
end KV

namespace KV
open PySem PySem.Spec PyProof.Rows L2 KA
theorem At.as {xs : List Int} {i : Nat} {a b : List Int} (h : At xs i a) (e : a = b) : At xs i b := by rw [← e]; exact h
theorem opsC_lt {k : Nat} {o : Str} (h : opsC[k]? = some o) : k < 6 := by
  obtain ⟨h, _⟩ := List.getElem?_eq_some_iff.mp h
  exact h
theorem opsR_lt {k : Nat} {o : Str} (h : opsR[k]? = some o) : k < 3 := by
  obtain ⟨h, _⟩ := List.getElem?_eq_some_iff.mp h
  exact h
theorem atI_str {l : List Str} {k : Nat} {o : Str} (h : l[k]? = some o) : atI (l.map V.str) (k : Int) = some (V.str o) := by
  refine atI_nat ?_
  rw [List.getElem?_map, h]
  rfl
section
variable {σ : L2.St} {H : Hp} {C r dx d : Addr} {xs : List Int} {i : Nat} {b : List Int} {Q : VK}
theorem rd_ch1 (h0 : σ[0]? = some (some (.ref r))) (rd : Rdr C H r dx d xs i) {x k : Int} (ha : At xs i ([x] ++ b)) (hx : x < k) (q : ∀ H', Kp r H H' → Rdr C H' r dx d xs (i + 1) → At xs (i + 1) b → Q (.int x) H') :
    tMeth C "_read_choice" (spRc C) [] E0 (tVar 0) (tCons (tC (.int k)) tNil) σ H Q := rd_choice h0 rd ha hx q
theorem rd_ch2 (h0 : σ[0]? = some (some (.ref r))) (rd : Rdr C H r dx d xs i) {x y k : Int} (ha : At xs i ([x, y] ++ b)) (hx : x < k) (q : ∀ H', Kp r H H' → Rdr C H' r dx d xs (i + 1) → At xs (i + 1) ([y] ++ b) → Q (.int x) H') :
    tMeth C "_read_choice" (spRc C) [] E0 (tVar 0) (tCons (tC (.int k)) tNil) σ H Q := rd_choice h0 rd ha hx q
end
section
variable {P : Program} {w : World} {K : PySem.W.Frag} {mg : Str → Option Value} {base : Heap} {TC TR C : Addr}
abbrev mRl (P : Program) (w : World) (K : PySem.W.Frag) (mg : Str → Option Value) (base : Heap) (C : Addr) : Prop := MDef P w K mg base C "_read_literal" 8 ["self"] (spRd C ELit)
abbrev mRbd (P : Program) (w : World) (K : PySem.W.Frag) (mg : Str → Option Value) (base : Heap) (C : Addr) : Prop := MDef P w K mg base C "read_body" 9 ["self"] (spRd C EB)
abbrev mRi (P : Program) (w : World) (K : PySem.W.Frag) (mg : Str → Option Value) (base : Heap) (C : Addr) : Prop := MDef P w K mg base C "read_item" 10 ["self"] (spRd C EItem)
abbrev mRch (P : Program) (w : World) (K : PySem.W.Frag) (mg : Str → Option Value) (base : Heap) (C : Addr) : Prop := MDef P w K mg base C "read_change" 11 ["self"] (spRd C EC)
abbrev sRReadLiteral : Stmt := inClass (topS 31) 16
abbrev nRReadLiteral : List Str := ["self", "sort", "operator", "first", "name", "relation"]
theorem scRReadLiteral : FnScope nRReadLiteral ["self"] (defScope sRReadLiteral) := ⟨rfl, rfl, rfl, by decide +kernel, rfl, by decide +kernel, by decide +kernel⟩
theorem ok_rl {f0 : Addr} {fd : FuncData} (F0 : Fun K "_read_literal" "Reader._read_literal" sRReadLiteral f0 fd) (G : Gl4 K mg TC TR) (T : Cr K mg C) (MRc : mRc P w K mg base C) (MRt : mRt P w K mg base C) (MRtm : mRtm P w K mg base C) (MRts : mRts P w K mg base C) : FnOk P w K mg base CX0 8 f0 fd ["self"] (spRd C ELit) := by
  refine F0.ok scRReadLiteral (fun vs H Q E h => ?_) (fun cdv A outer s0 H vs Q E hr h => ?_)
  · obtain ⟨_, _, _, _, _, _, _, rfl, _⟩ := h
    rfl
  · obtain ⟨r, dx, d, xs, i, D, b, rfl, rd, ha, en, q⟩ := h
    refine ⟨_, (pss_cons (ps_set (i := 1) scRReadLiteral.nd rfl (.inl rfl) (pe_mdef MRc (pv 0) T.cl (hr.mono (by decide)) (pa_cons pe_int pa_nil)))
      (pss_cons (ps_if (pt_cmpR op_eq (pv 1) pe_int (nomark _))
        (pss_cons (ps_set (i := 2) scRReadLiteral.nd rfl (.inl rfl) (pe_ix ix_tup (pe_glob (v := .ref TC) (by rfl) G.c rfl) (pe_mdef MRc (pv 0) T.cl (hr.mono (by decide)) (pa_cons pe_int pa_nil)) (fun _ _ => rfl)))
        (pss_cons (ps_set (i := 3) scRReadLiteral.nd rfl (.inl rfl) (pe_mdef0 MRtm (pv 0) T.cl (hr.mono (by decide))))
        (pss_one (ps_ret (pe_tup (pa_cons pe_str (pa_cons (pv 2) (pa_cons (pv 3) (pa_cons (pe_mdef0 MRtm (pv 0) T.cl (hr.mono (by decide))) pa_nil)))))))))
        pss_nil)
      (pss_cons (ps_set (i := 4) scRReadLiteral.nd rfl (.inl rfl) (pe_mdef0 MRt (pv 0) T.cl (hr.mono (by decide))))
      (pss_cons (ps_if (pt_cmpR op_eq (pv 1) pe_int (nomark _))
        (pss_one (ps_ret (pe_tup (pa_cons pe_str (pa_cons (pv 4) (pa_cons (pe_mdef0 MRts (pv 0) T.cl (hr.mono (by decide))) pa_nil))))))
        pss_nil)
      (pss_cons (ps_if (pt_cmpR op_eq (pv 1) pe_int (nomark _))
        (pss_one (ps_ret (pe_tup (pa_cons pe_str (pa_cons (pv 4) (pa_cons (pe_mdef0 MRts (pv 0) T.cl (hr.mono (by decide))) pa_nil))))))
        pss_nil)
      (pss_cons (ps_if (pt_cmpR op_eq (pv 1) pe_int (nomark _))
        (pss_cons (ps_set (i := 2) scRReadLiteral.nd rfl (.inl rfl) (pe_ix ix_tup (pe_glob (v := .ref TR) (by rfl) G.r rfl) (pe_mdef MRc (pv 0) T.cl (hr.mono (by decide)) (pa_cons pe_int pa_nil)) (fun _ _ => rfl)))
        (pss_cons (ps_set (i := 3) scRReadLiteral.nd rfl (.inl rfl) (pe_mdef0 MRtm (pv 0) T.cl (hr.mono (by decide))))
        (pss_one (ps_ret (pe_tup (pa_cons pe_str (pa_cons (pv 4) (pa_cons (pv 2) (pa_cons (pv 3) (pa_cons (pe_mdef0 MRtm (pv 0) T.cl (hr.mono (by decide))) pa_nil))))))))))
        pss_nil)
      (pss_cons (ps_set (i := 5) scRReadLiteral.nd rfl (.inl rfl) (pe_mdef0 MRt (pv 0) T.cl (hr.mono (by decide))))
      (pss_one (ps_ret (pe_tup (pa_cons pe_str (pa_cons (pv 4) (pa_cons (pv 5) (pa_cons (pe_mdef0 MRts (pv 0) T.cl (hr.mono (by decide))) pa_nil)))))))))))))), ?_⟩
    cases en with
    | fact h1 h2 =>
      rw [plus_len, plus_len] at q
      rw [List.append_assoc] at ha
      refine rd_ch1 rfl rd ha (by decide) fun H1 k1 rd1 ha1 => ?_
      refine ⟨.int 0, rfl, rfl, _, rfl, no_if (by decide +kernel) ?_⟩
      refine rd_call rfl rd1 (fun _ => rfl) ha1.split.1 (.mk h1) fun v2 H2 k2 rd2 t2 => ?_
      cases str_inv t2
      refine ⟨.int 0, rfl, rfl, _, rfl, yes_if ⟨_, rfl, ?_⟩⟩
      refine rd_call rfl rd2 (fun _ => rfl) ha1.split.2 h2 fun v3 H3 k3 rd3 t3 => ?_
      exact ⟨by show 3 ≤ sizeLine; decide, fun p np => rd_new (k1.trans (k2.trans k3)) rd3 np (.cons (.str _) (.cons (.str _) (.cons t3 .nil))) q⟩
    | notl h1 h2 =>
      rw [plus_len, plus_len] at q
      rw [List.append_assoc] at ha
      refine rd_ch1 rfl rd ha (by decide) fun H1 k1 rd1 ha1 => ?_
      refine ⟨.int 1, rfl, rfl, _, rfl, no_if (by decide +kernel) ?_⟩
      refine rd_call rfl rd1 (fun _ => rfl) ha1.split.1 (.mk h1) fun v2 H2 k2 rd2 t2 => ?_
      cases str_inv t2
      refine ⟨.int 1, rfl, rfl, _, rfl, no_if (by decide +kernel) ?_⟩
      refine ⟨.int 1, rfl, rfl, _, rfl, yes_if ⟨_, rfl, ?_⟩⟩
      refine rd_call rfl rd2 (fun _ => rfl) ha1.split.2 h2 fun v3 H3 k3 rd3 t3 => ?_
      exact ⟨by show 3 ≤ sizeLine; decide, fun p np => rd_new (k1.trans (k2.trans k3)) rd3 np (.cons (.str _) (.cons (.str _) (.cons t3 .nil))) q⟩
    | @cmp k o x' y' a' b' h0 h1 h2 =>
      rw [plus_len, plus_len] at q
      rw [List.append_assoc] at ha
      refine rd_ch2 rfl rd ha (by decide) fun H1 k1 rd1 ha1 => ?_
      have hk := opsC_lt h0
      refine ⟨.int 2, rfl, rfl, _, rfl, yes_if ?_⟩
      refine rd_ch1 rfl rd1 ha1 (by omega) fun H2 k2 rd2 ha2 => ⟨TC, _, (k : Int), .str o, rfl, rfl, G.sc _, atI_str h0, ?_⟩
      refine rd_call rfl rd2 (fun _ => rfl) ha2.split.1 h1 fun v3 H3 k3 rd3 t3 => ?_
      refine ⟨_, rfl, _, rfl, ?_⟩
      refine rd_call rfl rd3 (fun _ => rfl) ha2.split.2 h2 fun v4 H4 k4 rd4 t4 => ?_
      exact ⟨by show 4 ≤ sizeLine; decide, fun p np => rd_new (k1.trans (k2.trans (k3.trans k4))) rd4 np (.cons (.str _) (.cons (.str _) (.cons (t3.mono (rd3.tk k4)) (.cons t4 .nil)))) q⟩
    | @isl k v' o x' y' a' b' h0 hk' h1 h2 =>
      rw [plus_len, plus_len, plus_len, plus_len] at q
      rw [List.append_assoc, List.append_assoc, List.append_assoc] at ha
      refine rd_ch1 rfl rd ha (by decide) fun H1 k1 rd1 ha1 => ?_
      have hk := opsR_lt hk'
      refine ⟨.int 3, rfl, rfl, _, rfl, no_if (by decide +kernel) ?_⟩
      refine rd_call rfl rd1 (fun _ => rfl) ha1.split.1 (.mk h0) fun v2 H2 k2 rd2 t2 => ?_
      cases str_inv t2
      refine ⟨.int 3, rfl, rfl, _, rfl, no_if (by decide +kernel) ?_⟩
      refine ⟨.int 3, rfl, rfl, _, rfl, no_if (by decide +kernel) ?_⟩
      refine ⟨.int 3, rfl, rfl, _, rfl, yes_if ?_⟩
      refine rd_ch1 rfl rd2 ha1.split.2 (by omega) fun H3 k3 rd3 ha3 => ⟨TR, _, (k : Int), .str o, rfl, rfl, G.sr _, atI_str hk', ?_⟩
      refine rd_call rfl rd3 (fun _ => rfl) ha3.split.1 h1 fun v4 H4 k4 rd4 t4 => ?_
      refine ⟨_, rfl, _, rfl, _, rfl, ?_⟩
      refine rd_call rfl rd4 (fun _ => rfl) ha3.split.2 h2 fun v5 H5 k5 rd5 t5 => ?_
      exact ⟨by show 5 ≤ sizeLine; decide, fun p np => rd_new (k1.trans (k2.trans (k3.trans (k4.trans k5)))) rd5 np (.cons (.str _) (.cons (.str _) (.cons (.str _) (.cons (t4.mono (rd4.tk k5)) (.cons t5 .nil))))) q⟩
    | @cnt v' r' t' b' h0 h1 h2 =>
      rw [plus_len, plus_len, plus_len] at q
      rw [List.append_assoc, List.append_assoc] at ha
      refine rd_ch1 rfl rd ha (by decide) fun H1 k1 rd1 ha1 => ?_
      refine ⟨.int 4, rfl, rfl, _, rfl, no_if (by decide +kernel) ?_⟩
      refine rd_call rfl rd1 (fun _ => rfl) ha1.split.1 (.mk h0) fun v2 H2 k2 rd2 t2 => ?_
      cases str_inv t2
      refine ⟨.int 4, rfl, rfl, _, rfl, no_if (by decide +kernel) ?_⟩
      refine ⟨.int 4, rfl, rfl, _, rfl, no_if (by decide +kernel) ?_⟩
      refine ⟨.int 4, rfl, rfl, _, rfl, no_if (by decide +kernel) ?_⟩
      refine rd_call rfl rd2 (fun _ => rfl) ha1.split.2.split.1 (.mk h1) fun v3 H3 k3 rd3 t3 => ?_
      cases str_inv t3
      refine ⟨_, rfl, _, rfl, ?_⟩
      refine rd_call rfl rd3 (fun _ => rfl) ha1.split.2.split.2 h2 fun v4 H4 k4 rd4 t4 => ?_
      exact ⟨by show 4 ≤ sizeLine; decide, fun p np => rd_new (k1.trans (k2.trans (k3.trans k4))) rd4 np (.cons (.str _) (.cons (.str _) (.cons (.str _) (.cons t4 .nil)))) q⟩
abbrev sRReadBody : Stmt := inClass (topS 31) 4
abbrev nRReadBody : List Str := ["self", "_"]
theorem scRReadBody : FnScope nRReadBody ["self"] (defScope sRReadBody) := ⟨rfl, rfl, rfl, by decide +kernel, rfl, by decide +kernel, by decide +kernel⟩
theorem ok_rbd {f0 : Addr} {fd : FuncData} (F0 : Fun K "read_body" "Reader.read_body" sRReadBody f0 fd) (B : Bt mg) (T : Cr K mg C) (MRm : mRm P w K mg base C) (MRl : mRl P w K mg base C) : FnOk P w K mg base CX0 9 f0 fd ["self"] (spRd C EB) := by
  refine F0.ok scRReadBody (fun vs H Q E h => ?_) (fun cdv A outer s0 H vs Q E hr h => ?_)
  · obtain ⟨_, _, _, _, _, _, _, rfl, _⟩ := h
    rfl
  · obtain ⟨r, dx, d, xs, i, D, b, rfl, rd, ha, en, q⟩ := h
    refine ⟨_, (pss_one (ps_ret (pe_callTy call_tuple_of (by rfl) B.tup (by decide +kernel) (pa_cons (pe_lc (own := [("_", 1)]) (g := (gName 1)) (tt := tYes) (te := (tMeth C "_read_literal" (spRd C ELit) [] E0 (tVar 0) tNil)) rfl scRReadBody.nd (pi_range1 (by rfl) B.rng (pa_cons (pe_mdef0 MRm (pv 0) T.cl (hr.mono (by decide))) pa_nil)) (blkOk_by (own := [("_", 1)]) (N := nRReadBody) (sc := defScope sRReadBody) (by decide +kernel)) (fun _ _ _ _ _ => (pg_name (i := 1) scRReadBody.nd rfl (Or.inl rfl))) (fun _ _ _ _ _ => pts_nil) (fun _ _ _ _ _ => (pe_mdef0 MRl (pv 0) T.cl (hr.mono (by decide))))) pa_nil)))), ?_⟩
    cases en with
    | @mk ds bs els hl =>
      have l := els.length
      refine ret_cb (rd_many (m := "_read_literal") (j := 1) rfl (by decide) rd els ha (by omega) (fun b hb => by obtain ⟨d, hd⟩ := els.all.2 b hb; exact hd.len.1) rfl _ ?_)
      exact fun D acc H' k rd' eD ta => rd_tup k rd' eD ta q
abbrev sRReadItem : Stmt := inClass (topS 31) 5
abbrev nRReadItem : List Str := ["self", "sort", "name", "relation", "terms"]
theorem scRReadItem : FnScope nRReadItem ["self"] (defScope sRReadItem) := ⟨rfl, rfl, rfl, by decide +kernel, rfl, by decide +kernel, by decide +kernel⟩
theorem ok_ri {f0 : Addr} {fd : FuncData} (F0 : Fun K "read_item" "Reader.read_item" sRReadItem f0 fd) (T : Cr K mg C) (MRc : mRc P w K mg base C) (MRn : mRn P w K mg base C) (MRt : mRt P w K mg base C) (MRr : mRr P w K mg base C) (MRts : mRts P w K mg base C) (MRbd : mRbd P w K mg base C) : FnOk P w K mg base CX0 10 f0 fd ["self"] (spRd C EItem) := by
  refine F0.ok scRReadItem (fun vs H Q E h => ?_) (fun cdv A outer s0 H vs Q E hr h => ?_)
  · obtain ⟨_, _, _, _, _, _, _, rfl, _⟩ := h
    rfl
  · obtain ⟨r, dx, d, xs, i, D, b, rfl, rd, ha, en, q⟩ := h
    refine ⟨_, (pss_cons (ps_set (i := 1) scRReadItem.nd rfl (.inl rfl) (pe_mdef MRc (pv 0) T.cl (hr.mono (by decide)) (pa_cons pe_int pa_nil)))
      (pss_cons (ps_set (i := 2) scRReadItem.nd rfl (.inl rfl) (pe_mdef0 MRt (pv 0) T.cl (hr.mono (by decide))))
      (pss_cons (ps_if (pt_cmpR op_eq (pv 1) pe_int (nomark _))
        (pss_one (ps_ret (pe_tup (pa_cons pe_str (pa_cons (pv 2) (pa_cons (pe_mdef0 MRn (pv 0) T.cl (hr.mono (by decide))) pa_nil))))))
        pss_nil)
      (pss_cons (ps_if (pt_cmpR op_eq (pv 1) pe_int (nomark _))
        (pss_one (ps_ret (pe_tup (pa_cons pe_str (pa_cons (pv 2) (pa_cons (pe_mdef0 MRr (pv 0) T.cl (hr.mono (by decide))) pa_nil))))))
        pss_nil)
      (pss_cons (ps_if (pt_cmpR op_eq (pv 1) pe_int (nomark _))
        (pss_cons (ps_set (i := 3) scRReadItem.nd rfl (.inl rfl) (pe_mdef0 MRt (pv 0) T.cl (hr.mono (by decide))))
        (pss_cons (ps_set (i := 4) scRReadItem.nd rfl (.inl rfl) (pe_mdef0 MRts (pv 0) T.cl (hr.mono (by decide))))
        (pss_one (ps_ret (pe_tup (pa_cons pe_str (pa_cons (pv 2) (pa_cons (pv 3) (pa_cons (pv 4) (pa_cons (pe_mdef0 MRbd (pv 0) T.cl (hr.mono (by decide))) pa_nil))))))))))
        pss_nil)
      (pss_one (ps_ret (pe_tup (pa_cons pe_str (pa_cons (pv 2) (pa_cons (pe_mdef0 MRbd (pv 0) T.cl (hr.mono (by decide))) pa_nil))))))))))), ?_⟩
    cases en with
    | mk en =>
    cases en with
    | @rel nm n h0 h1 =>
      rw [plus_len, plus_len] at q
      rw [List.append_assoc] at ha
      refine rd_ch1 rfl rd ha (by decide) fun H1 k1 rd1 ha1 => ?_
      refine rd_call rfl rd1 (fun _ => rfl) ha1.split.1 (.mk h0) fun v2 H2 k2 rd2 t2 => ?_
      cases str_inv t2
      refine ⟨.int 0, rfl, rfl, _, rfl, yes_if ⟨_, rfl, ?_⟩⟩
      refine rd_call rfl rd2 (fun _ => rfl) ha1.split.2 (.mk (Nat.lt_trans h1 (show 100 < big by decide))) fun v3 H3 k3 rd3 t3 => ?_
      exact ⟨by show 3 ≤ sizeLine; decide, fun p np => rd_new (k1.trans (k2.trans k3)) rd3 np (.cons (.str _) (.cons (.str _) (.cons t3 .nil))) q⟩
    | @fact nm ds b' h0 h1 =>
      rw [plus_len, plus_len] at q
      rw [List.append_assoc] at ha
      refine rd_ch1 rfl rd ha (by decide) fun H1 k1 rd1 ha1 => ?_
      refine rd_call rfl rd1 (fun _ => rfl) ha1.split.1 (.mk h0) fun v2 H2 k2 rd2 t2 => ?_
      cases str_inv t2
      refine ⟨.int 1, rfl, rfl, _, rfl, no_if (by decide +kernel) ⟨.int 1, rfl, rfl, _, rfl, yes_if ⟨_, rfl, ?_⟩⟩⟩
      refine rd_call rfl rd2 (fun _ => rfl) ha1.split.2 h1 fun v3 H3 k3 rd3 t3 => ?_
      exact ⟨by show 3 ≤ sizeLine; decide, fun p np => rd_new (k1.trans (k2.trans k3)) rd3 np (.cons (.str _) (.cons (.str _) (.cons t3 .nil))) q⟩
    | @rule nm rl ts bd a' b' h0 h1 h2 h3 =>
      rw [plus_len, plus_len, plus_len, plus_len] at q
      rw [List.append_assoc, List.append_assoc, List.append_assoc] at ha
      refine rd_ch1 rfl rd ha (by decide) fun H1 k1 rd1 ha1 => ?_
      refine rd_call rfl rd1 (fun _ => rfl) ha1.split.1 (.mk h0) fun v2 H2 k2 rd2 t2 => ?_
      cases str_inv t2
      refine ⟨.int 2, rfl, rfl, _, rfl, no_if (by decide +kernel) ⟨.int 2, rfl, rfl, _, rfl, no_if (by decide +kernel) ⟨.int 2, rfl, rfl, _, rfl, yes_if ?_⟩⟩⟩
      refine rd_call rfl rd2 (fun _ => rfl) ha1.split.2.split.1 (.mk h1) fun v3 H3 k3 rd3 t3 => ?_
      cases str_inv t3
      refine rd_call rfl rd3 (fun _ => rfl) ha1.split.2.split.2.split.1 h2 fun v4 H4 k4 rd4 t4 => ?_
      refine ⟨_, rfl, _, rfl, _, rfl, ?_⟩
      refine rd_call rfl rd4 (fun _ => rfl) ha1.split.2.split.2.split.2 h3 fun v5 H5 k5 rd5 t5 => ?_
      exact ⟨by show 5 ≤ sizeLine; decide, fun p np => rd_new (k1.trans (k2.trans (k3.trans (k4.trans k5)))) rd5 np (.cons (.str _) (.cons (.str _) (.cons (.str _) (.cons (t4.mono (rd4.tk k5)) (.cons t5 .nil))))) q⟩
    | @den nm bd b' h0 h1 =>
      rw [plus_len, plus_len] at q
      rw [List.append_assoc] at ha
      refine rd_ch1 rfl rd ha (by decide) fun H1 k1 rd1 ha1 => ?_
      refine rd_call rfl rd1 (fun _ => rfl) ha1.split.1 (.mk h0) fun v2 H2 k2 rd2 t2 => ?_
      cases str_inv t2
      refine ⟨.int 3, rfl, rfl, _, rfl, no_if (by decide +kernel) ⟨.int 3, rfl, rfl, _, rfl, no_if (by decide +kernel) ⟨.int 3, rfl, rfl, _, rfl, no_if (by decide +kernel) ⟨_, rfl, ?_⟩⟩⟩⟩
      refine rd_call rfl rd2 (fun _ => rfl) ha1.split.2 h1 fun v3 H3 k3 rd3 t3 => ?_
      exact ⟨by show 3 ≤ sizeLine; decide, fun p np => rd_new (k1.trans (k2.trans k3)) rd3 np (.cons (.str _) (.cons (.str _) (.cons t3 .nil))) q⟩
abbrev sRReadChange : Stmt := inClass (topS 31) 6
abbrev nRReadChange : List Str := ["self", "sort", "name"]
theorem scRReadChange : FnScope nRReadChange ["self"] (defScope sRReadChange) := ⟨rfl, rfl, rfl, by decide +kernel, rfl, by decide +kernel, by decide +kernel⟩
theorem ok_rch {f0 : Addr} {fd : FuncData} (F0 : Fun K "read_change" "Reader.read_change" sRReadChange f0 fd) (T : Cr K mg C) (MRc : mRc P w K mg base C) (MRt : mRt P w K mg base C) (MRr : mRr P w K mg base C) (MRi : mRi P w K mg base C) : FnOk P w K mg base CX0 11 f0 fd ["self"] (spRd C EC) := by
  refine F0.ok scRReadChange (fun vs H Q E h => ?_) (fun cdv A outer s0 H vs Q E hr h => ?_)
  · obtain ⟨_, _, _, _, _, _, _, rfl, _⟩ := h
    rfl
  · obtain ⟨r, dx, d, xs, i, D, b, rfl, rd, ha, en, q⟩ := h
    refine ⟨_, (pss_cons (ps_if (pt_cmpR op_eq (pe_mdef MRc (pv 0) T.cl (hr.mono (by decide)) (pa_cons pe_int pa_nil)) pe_int (nomark _))
        (pss_one (ps_ret (pe_tup (pa_cons pe_str (pa_cons (pe_mdef0 MRi (pv 0) T.cl (hr.mono (by decide))) pa_nil)))))
        pss_nil)
      (pss_cons (ps_set (i := 1) scRReadChange.nd rfl (.inl rfl) (pe_mdef MRc (pv 0) T.cl (hr.mono (by decide)) (pa_cons pe_int pa_nil)))
      (pss_cons (ps_set (i := 2) scRReadChange.nd rfl (.inl rfl) (pe_mdef0 MRt (pv 0) T.cl (hr.mono (by decide))))
      (pss_one (ps_ret (pe_tup (pa_cons pe_str (pa_cons (pe_tup (pa_cons (pv 1) (pa_cons (pv 2) (pa_cons (pe_mdef0 MRr (pv 0) T.cl (hr.mono (by decide))) pa_nil)))) pa_nil)))))))), ?_⟩
    cases en with
    | @comes d' b' h0 =>
      rw [plus_len] at q
      refine rd_ch1 rfl rd ha (by decide) fun H1 k1 rd1 ha1 => ⟨rfl, _, rfl, yes_if ?_⟩
      refine rd_call rfl rd1 (fun _ => rfl) ha1 h0 fun v2 H2 k2 rd2 t2 => ?_
      exact ⟨by show 2 ≤ sizeLine; decide, fun p np => rd_new (k1.trans k2) rd2 np (.cons (.str _) (.cons t2 .nil)) q⟩
    | @goes k nm r' b' hk h0 h1 =>
      rw [plus_len, plus_len] at q
      rw [List.append_assoc] at ha
      refine rd_ch2 rfl rd ha (by decide) fun H1 k1 rd1 ha1 => ⟨rfl, _, rfl, no_if (by decide +kernel) ?_⟩
      refine rd_ch1 rfl rd1 ha1 (by omega) fun H2 k2 rd2 ha2 => ?_
      refine rd_call rfl rd2 (fun _ => rfl) ha2.split.1 (.mk h0) fun v3 H3 k3 rd3 t3 => ?_
      cases str_inv t3
      refine ⟨_, rfl, _, rfl, ?_⟩
      refine rd_call rfl rd3 (fun _ => rfl) ha2.split.2 h1 fun v4 H4 k4 rd4 t4 => ?_
      refine ⟨by show 3 ≤ sizeLine; decide, fun p np => ?_⟩
      have ns := same_new (o := HO.tup [.int (k : Int), .str nm, v4]) np
      exact ⟨by show 2 ≤ sizeLine; decide, fun p2 np2 => rd_new ((k1.trans (k2.trans (k3.trans k4))).trans (Kp.new np)) (rd4.same ns) np2 (.cons (.str _) (.cons (.tup upd_same (.cons (.int _) (.cons (.str _) (.cons (t4.mono (Tk.of ns)) .nil)))) .nil)) q⟩
end
end KV

namespace KV
open PySem PySem.Spec PyProof.Rows L2 KA
theorem make_cb {C : Addr} {sp : Sp} {E : XK} {te : TE} {σ : L2.St} {H : Hp} {R : List V → Hp → Prop} (h : te σ H fun v H1 => ∀ x dx, H1 x = none → H1 dx = none → dx ≠ x → sp (.ref x :: ([v] ++ [])) (upd (upd H1 dx (.own x)) x (.ins C dx [])) (fun u H2 => u = .non ∧ R [.ref x] H2) E) :
    tCons (tMake C sp [] E (tCons te tNil)) tNil σ H R := h
section
variable {P : Program} {w : World} {K : PySem.W.Frag} {mg : Str → Option Value} {base : Heap} {TC TR C CS : Addr}
def spRcs (C : Addr) : Sp := fun vs H Q _ => ∃ (r dx d : Addr) (xs : List Int) (i : Nat) (ds : List PyData) (bs : List (List Int)), vs = [.ref r] ∧ Rdr C H r dx d xs i ∧ At xs i (encL bs) ∧ Els EC ds bs ∧ bs.length ≤ 1000 ∧ ∀ D acc H', Kp r H H' → Rdr C H' r dx d xs (i + (encL bs).length) → H' D = some (.lst acc) → Tps H' acc ds → Q (.ref D) H'
def spRim (C CS : Addr) : Sp := fun vs H Q _ => ∃ (r dx d : Addr) (xs : List Int) (i n : Nat) (js : List It1) (bs : List (List Int)), vs = [.ref r] ∧ Rdr C H r dx d xs i ∧ At xs i (encN n ++ encL bs) ∧ n < big ∧ Els EItem (js.map itD) bs ∧ OkL js ∧ js.length ≤ 400 ∧
  ∀ p s F H', Kp r H H' → Rdr C H' r dx d xs (i + (encN n ++ encL bs).length) → H' p = some (.tup [.int (n : Int), .ref s]) → StAt CS H' s (puts [] js) F (2 * js.length) → Q (.ref p) H'
abbrev mRcs (P : Program) (w : World) (K : PySem.W.Frag) (mg : Str → Option Value) (base : Heap) (C : Addr) : Prop := MDef P w K mg base C "read_changes" 12 ["self"] (spRcs C)
abbrev mRim (P : Program) (w : World) (K : PySem.W.Frag) (mg : Str → Option Value) (base : Heap) (C CS : Addr) : Prop := MDef P w K mg base C "read_image" 12 ["self"] (spRim C CS)
abbrev sRReadChanges : Stmt := inClass (topS 31) 7
abbrev nRReadChanges : List Str := ["self", "_"]
theorem scRReadChanges : FnScope nRReadChanges ["self"] (defScope sRReadChanges) := ⟨rfl, rfl, rfl, by decide +kernel, rfl, by decide +kernel, by decide +kernel⟩
theorem ok_rcs {f0 : Addr} {fd : FuncData} (F0 : Fun K "read_changes" "Reader.read_changes" sRReadChanges f0 fd) (B : Bt mg) (T : Cr K mg C) (MRm : mRm P w K mg base C) (MRch : mRch P w K mg base C) : FnOk P w K mg base CX0 12 f0 fd ["self"] (spRcs C) := by
  refine F0.ok scRReadChanges (fun vs H Q E h => ?_) (fun cdv A outer s0 H vs Q E hr h => ?_)
  · obtain ⟨_, _, _, _, _, _, _, rfl, _⟩ := h
    rfl
  · obtain ⟨r, dx, d, xs, i, ds, bs, rfl, rd, ha, els, hl, q⟩ := h
    refine ⟨_, (pss_one (ps_ret (pe_lc (own := [("_", 1)]) (g := (gName 1)) (tt := tYes) (te := (tMeth C "read_change" (spRd C EC) [] E0 (tVar 0) tNil)) rfl scRReadChanges.nd (pi_range1 (by rfl) B.rng (pa_cons (pe_mdef0 MRm (pv 0) T.cl (hr.mono (by decide))) pa_nil)) (blkOk_by (own := [("_", 1)]) (N := nRReadChanges) (sc := defScope sRReadChanges) (by decide +kernel)) (fun _ _ _ _ _ => (pg_name (i := 1) scRReadChanges.nd rfl (Or.inl rfl))) (fun _ _ _ _ _ => pts_nil) (fun _ _ _ _ _ => (pe_mdef0 MRch (pv 0) T.cl (hr.mono (by decide))))))), ?_⟩
    have l := els.length
    exact rd_many (m := "read_change") (j := 1) (σ := L2.start nRReadChanges [.ref r]) rfl (by decide) rd els ha (by omega) (fun b hb => by obtain ⟨d, hd⟩ := els.all.2 b hb; exact hd.len.1) rfl _ (fun D acc H' k rd' eD ta => q D acc H' k rd' eD ta)
abbrev sRReadImage : Stmt := inClass (topS 31) 8
abbrev nRReadImage : List Str := ["self", "commits", "_"]
theorem scRReadImage : FnScope nRReadImage ["self"] (defScope sRReadImage) := ⟨rfl, rfl, rfl, by decide +kernel, rfl, by decide +kernel, by decide +kernel⟩
theorem ok_rim {f0 : Addr} {fd : FuncData} (F0 : Fun K "read_image" "Reader.read_image" sRReadImage f0 fd) (B : Bt mg) (T : Cr K mg C) (TS : Cs K mg CS) (MK : MkSt P w K mg base CS) (MRn : mRn P w K mg base C) (MRm : mRm P w K mg base C) (MRi : mRi P w K mg base C) : FnOk P w K mg base CX0 12 f0 fd ["self"] (spRim C CS) := by
  refine F0.ok scRReadImage (fun vs H Q E h => ?_) (fun cdv A outer s0 H vs Q E hr h => ?_)
  · obtain ⟨_, _, _, _, _, _, _, _, rfl, _⟩ := h
    rfl
  · obtain ⟨r, dx, d, xs, i, n, js, bs, rfl, rd, ha, hn, els, oj, lj, q⟩ := h
    refine ⟨_, (pss_cons (ps_set (i := 1) scRReadImage.nd rfl (.inl rfl) (pe_mdef0 MRn (pv 0) T.cl (hr.mono (by decide))))
      (pss_one (ps_ret (pe_tup (pa_cons (pv 1) (pa_cons (pe_mk1 MK (hr.mono (by decide)) (by rfl) TS.mgC (pa_cons (pe_lc (own := [("_", 2)]) (g := (gName 2)) (tt := tYes) (te := (tMeth C "read_item" (spRd C EItem) [] E0 (tVar 0) tNil)) rfl scRReadImage.nd (pi_range1 (by rfl) B.rng (pa_cons (pe_mdef0 MRm (pv 0) T.cl (hr.mono (by decide))) pa_nil)) (blkOk_by (own := [("_", 2)]) (N := nRReadImage) (sc := defScope sRReadImage) (by decide +kernel)) (fun _ _ _ _ _ => (pg_name (i := 2) scRReadImage.nd rfl (Or.inl rfl))) (fun _ _ _ _ _ => pts_nil) (fun _ _ _ _ _ => (pe_mdef0 MRi (pv 0) T.cl (hr.mono (by decide))))) pa_nil)) pa_nil)))))), ?_⟩
    have l := els.length
    rw [List.length_map] at l
    rw [plus_len] at q
    refine rd_call rfl rd (fun _ => rfl) ha.split.1 (.mk hn) fun v1 H1 k1 rd1 t1 => ?_
    cases int_inv t1
    refine ⟨_, rfl, ?_⟩
    refine make_cb (rd_many (m := "read_item") (j := 2) rfl (by decide) rd1 els ha.split.2 (by omega) (fun b hb => by obtain ⟨d, hd⟩ := els.all.2 b hb; exact hd.len.1) rfl _ (fun D acc H2 k2 rd2 eD ta => ?_))
    intro x dx' nx ndx ne
    have sm : Same H2 (upd (upd H2 dx' (.own x)) x (.ins CS dx' [])) := same_put (same_new ndx) nx
    refine ⟨x, dx', D, js, rfl, upd_same, .inr ⟨acc, sm _ _ eD, ta.mono (Tk.of sm)⟩, oj, lj, fun H3 F k3 _ st => ⟨rfl, by show 2 ≤ sizeLine; decide, fun p np => ?_⟩⟩
    have s3 : Same H2 H3 := fun a o h => k3 a o (sm a o h) (fun z => by rw [z, nx] at h; cases h)
    have s4 := s3.trans (same_new (o := HO.tup [.int (n : Int), .ref x]) np)
    exact q p x F _ (k1.trans (k2.trans (fun a o _ h => s4 a o h))) (rd2.same s4) upd_same (st.same (same_new np))
abbrev sRInit : Stmt := inClass (topS 31) 0
abbrev nRInit : List Str := ["self", "data"]
theorem scRInit : FnScope nRInit ["self", "data"] (defScope sRInit) := ⟨rfl, rfl, rfl, by decide +kernel, rfl, by decide +kernel, by decide +kernel⟩
def spRI (C : Addr) : Sp := fun vs H Q _ => ∃ (x dx a : Addr) (xs : List Int), vs = [.ref x, .ref a] ∧ H x = some (.ins C dx []) ∧ H a = some (.lst (xs.map V.int)) ∧ xs.length ≤ 8000000 ∧ ∀ d H', Kp x H H' → H d = none → Rdr C H' x dx d xs 0 → Q .non H'
theorem ok_init_r {f0 : Addr} {fd : FuncData} (F0 : Fun K "__init__" "Reader.__init__" sRInit f0 fd) (B : Bt mg) (T : Cr K mg C) : FnOk P w K mg base CX0 1 f0 fd ["self", "data"] (spRI C) := by
  refine F0.ok scRInit (fun vs H Q E h => ?_) (fun cdv A outer s0 H vs Q E hr h => ?_)
  · obtain ⟨_, _, _, _, rfl, _⟩ := h
    rfl
  · obtain ⟨x, dx, a, xs, rfl, hx, ha, lx, q⟩ := h
    refine ⟨_, (pss_cons (ps_fld (pv 0) (pe_callTy call_lstK (by rfl) B.lst (by decide +kernel) (pa_cons (pv 1) pa_nil)) rfl)
      (pss_one (ps_fld (pv 0) pe_int rfl))), ?_⟩
    refine ⟨.ref a, rfl, a, _, rfl, .inl (SqL.of ha), fun d nd => ?_⟩
    have nxd : x ≠ d := fun z => by rw [z, nd] at hx; cases hx
    refine ⟨.ref x, rfl, x, C, dx, _, rfl, (by rw [upd_ne nxd]; exact hx), T.cl, T.nD, (by show 0 < 1000; decide), ?_⟩
    refine ⟨.ref x, rfl, x, C, dx, _, rfl, upd_same, T.cl, T.nA, (by show 1 < 1000; decide), ?_⟩
    rw [upd_upd]
    refine q d _ (fun b o n h => ?_) nd ⟨upd_same, ?_, nxd.symm, lx⟩
    · rw [upd_ne n]
      exact Kp.new nd b o n h
    · rw [upd_ne nxd.symm]
      exact upd_same
end
end KV

namespace KV
open PySem PySem.Spec PyProof.Rows L2 KA
structure MDefX (P : Program) (w : World) (K : PySem.W.Frag) (mg : Str → Option Value) (base : Heap) (C : Addr) (m : Str) (k : Nat) (ps : List Str) (sp : Sp) : Prop where
  ex : ∃ (f : Addr) (fd : FuncData), FnOk P w K mg base (L2.CX P w) k f fd ps sp ∧ Meth K C m f ∧ Binds K fd ps []
section
variable {X : Cx} {k : Nat} {m : Str} {C : Addr} {ps : List Str} {sp : Sp} {o e : Expr} {es : List Expr} {ta : TE} {t : TA} {pos apos : Pos} {E : XK}
theorem pe_mdefX (D : MDefX X.prog X.w X.K X.mg X.base C m k ps sp) (he : PE X o ta) (c : Cls X.K C) (hr : Room k X.A) (hx : Passes (L2.CX X.prog X.w) X E) (ha : PA X (e :: es) t) {pl : Sem Bool}
    (hst : starEach (e :: es) X.env = (false, eval e X.env) :: starEach es X.env := by rfl) (hpl : (backTo pos (starEach es X.env)).any (·.1) = false := by rfl)
    (ht : eval (.Call (.Attribute o m apos) (e :: es) [] pos) X.env = (do
      let ov ← eval o X.env
      standAt apos.atName
      let (f, first) ← holding [ov] (getMethod ov m pl)
      callWith pos f first (backTo pos (starEach (e :: es) X.env)) (backToKw pos (keywordEach [] X.env))) := by rfl) : PE X (.Call (.Attribute o m apos) (e :: es) [] pos) (tMeth C m sp [] E ta t) := by
  obtain ⟨f, fd, F, M, hb⟩ := D.ex
  exact pe_meth he c M F hr hb .nil hx ha hst hpl ht
theorem pe_mdefX0 (D : MDefX X.prog X.w X.K X.mg X.base C m k ps sp) (he : PE X o ta) (c : Cls X.K C) (hr : Room k X.A) (hx : Passes (L2.CX X.prog X.w) X E) {pl : Sem Bool}
    (ht : eval (.Call (.Attribute o m apos) [] [] pos) X.env = (do
      let ov ← eval o X.env
      standAt apos.atName
      let (f, first) ← holding [ov] (getMethod ov m pl)
      callWith pos f first (backTo pos (starEach [] X.env)) (backToKw pos (keywordEach [] X.env))) := by rfl) : PE X (.Call (.Attribute o m apos) [] [] pos) (tMeth C m sp [] E ta tNil) := by
  obtain ⟨f, fd, F, M, hb⟩ := D.ex
  exact pe_meth0 he c M F hr hb .nil hx ht
end
def tMethS (C : Addr) (m : Str) (sp : Sp) (E : L2.St → XK) (ta : TE) (t : TA) : TE := fun σ H Q => ta σ H fun x H1 => ∃ a dx fs, x = .ref a ∧ H1 a = some (.ins C dx fs) ∧ fs.lookup m = none ∧ t σ H1 fun vs H2 => sp (x :: vs) H2 Q (E σ)
def tMakeS (C : Addr) (sp : Sp) (E : L2.St → XK) (t : TA) : TE := fun σ H Q => t σ H fun vs H1 => ∀ x dx, H1 x = none → H1 dx = none → dx ≠ x → sp (.ref x :: vs) (upd (upd H1 dx (.own x)) x (.ins C dx [])) (fun v H2 => v = .non ∧ Q (.ref x) H2) (E σ)
section
variable {X : Cx} {CX : CXT} {k : Nat} {m x : Str} {C f : Addr} {fd : FuncData} {ps : List Str} {sp : Sp} {o e : Expr} {es : List Expr} {ta : TE} {t : TA} {p pos apos : Pos} {E : L2.St → XK}
theorem pe_methS' {pl : Sem Bool} (he : PE X o ta) (c : Cls X.K C) (hm : Meth X.K C m f) (F : FnOk X.prog X.w X.K X.mg X.base CX k f fd ps sp) (hr : Room k X.A) (hb : Binds X.K fd ps []) (hx : ∀ σ, PassesAt CX X σ (E σ)) (ha : PA X (e :: es) t)
    (hst : starEach (e :: es) X.env = (false, eval e X.env) :: starEach es X.env := by rfl) (hpl : (backTo pos (starEach es X.env)).any (·.1) = false := by rfl)
    (ht : eval (.Call (.Attribute o m apos) (e :: es) [] pos) X.env = (do
      let ov ← eval o X.env
      standAt apos.atName
      let (f, first) ← holding [ov] (getMethod ov m pl)
      callWith pos f first (backTo pos (starEach (e :: es) X.env)) (backToKw pos (keywordEach [] X.env))) := by rfl) :
    PE X (.Call (.Attribute o m apos) (e :: es) [] pos) (tMethS C m sp E ta t) := by
  refine ⟨fun pins s σ H Q I h => ?_⟩
  refine PySem.W.methodCall_KW (pl := pl) (thn (he.run pins s σ H _ I h) fun u s1 ⟨x, H1, I1, rx, a, dx, fs, ex, ea, l, q⟩ => ?_) ht
  subst ex
  obtain rfl : u = Value.ref a := rx
  refine getmeth_ok I1 ea c hm l ?_
  refine PySem.W.callWith_K (first := [.ref a]) (h₀ := X.base) I.ok.mod.kin hm.kp (thn (ha.run pos pins s1 σ H1 _ I1 q) fun us s2 ⟨vs, H2, I2, r, q2⟩ => ⟨I2.kIn, ?_⟩) hst hpl
  exact run_fnS (us := .ref a :: us) (vs := .ref a :: vs) F hr hb (hx σ) I2 (.cons rfl r) q2
theorem pe_methS0' {pl : Sem Bool} (he : PE X o ta) (c : Cls X.K C) (hm : Meth X.K C m f) (F : FnOk X.prog X.w X.K X.mg X.base CX k f fd ps sp) (hr : Room k X.A) (hb : Binds X.K fd ps []) (hx : ∀ σ, PassesAt CX X σ (E σ))
    (ht : eval (.Call (.Attribute o m apos) [] [] pos) X.env = (do
      let ov ← eval o X.env
      standAt apos.atName
      let (f, first) ← holding [ov] (getMethod ov m pl)
      callWith pos f first (backTo pos (starEach [] X.env)) (backToKw pos (keywordEach [] X.env))) := by rfl) :
    PE X (.Call (.Attribute o m apos) [] [] pos) (tMethS C m sp E ta tNil) := by
  refine ⟨fun pins s σ H Q I h => ?_⟩
  refine PySem.W.methodCall_KW (pl := pl) (thn (he.run pins s σ H _ I h) fun u s1 ⟨x, H1, I1, rx, a, dx, fs, ex, ea, l, q⟩ => ?_) ht
  subst ex
  obtain rfl : u = Value.ref a := rx
  refine getmeth_ok I1 ea c hm l ?_
  refine PySem.W.callWith_K0 (first := [.ref a]) I1.kIn hm.kp ?_
  exact run_fnS (us := [.ref a]) (vs := [.ref a]) F hr hb (hx σ) I1 (.cons rfl .nil) q
theorem pe_mdefXS (D : MDefX X.prog X.w X.K X.mg X.base C m k ps sp) (he : PE X o ta) (c : Cls X.K C) (hr : Room k X.A) (hx : ∀ σ, PassesAt (L2.CX X.prog X.w) X σ (E σ)) (ha : PA X (e :: es) t) {pl : Sem Bool}
    (hst : starEach (e :: es) X.env = (false, eval e X.env) :: starEach es X.env := by rfl) (hpl : (backTo pos (starEach es X.env)).any (·.1) = false := by rfl)
    (ht : eval (.Call (.Attribute o m apos) (e :: es) [] pos) X.env = (do
      let ov ← eval o X.env
      standAt apos.atName
      let (f, first) ← holding [ov] (getMethod ov m pl)
      callWith pos f first (backTo pos (starEach (e :: es) X.env)) (backToKw pos (keywordEach [] X.env))) := by rfl) : PE X (.Call (.Attribute o m apos) (e :: es) [] pos) (tMethS C m sp E ta t) := by
  obtain ⟨f, fd, F, M, hb⟩ := D.ex
  exact pe_methS' he c M F hr hb hx ha hst hpl ht
theorem pe_mdefX0S (D : MDefX X.prog X.w X.K X.mg X.base C m k ps sp) (he : PE X o ta) (c : Cls X.K C) (hr : Room k X.A) (hx : ∀ σ, PassesAt (L2.CX X.prog X.w) X σ (E σ)) {pl : Sem Bool}
    (ht : eval (.Call (.Attribute o m apos) [] [] pos) X.env = (do
      let ov ← eval o X.env
      standAt apos.atName
      let (f, first) ← holding [ov] (getMethod ov m pl)
      callWith pos f first (backTo pos (starEach [] X.env)) (backToKw pos (keywordEach [] X.env))) := by rfl) : PE X (.Call (.Attribute o m apos) [] [] pos) (tMethS C m sp E ta tNil) := by
  obtain ⟨f, fd, F, M, hb⟩ := D.ex
  exact pe_methS0' he c M F hr hb hx ht
end/-- isinstance(e, c), e the exception that the suite holds -/
def rIsG (K : PySem.W.Frag) (D a : Addr) (cls : Value) (d : Option Addr) : List V → Hp → VK → Prop := fun xs H Q => cls = .ref D ∧ d = none ∧ rIsE K D a xs H Q
theorem call_isG {X : Cx} {a D : Addr} {oe : Obj} {cls : Value} {d : Option Addr} {pn : List (Addr × Obj)} (C : ExcC X.K D) (hz : Zc cls d oe) (hf : ∃ vs, oe.data = .fields vs) : CallR (X.suite a ((a, oe) :: pn)) (.builtin "isinstance") (rIsG X.K D a cls d) := by
  intro pins s σ H xs us Q I r h
  obtain ⟨rfl, rfl, h⟩ := h
  exact call_isE C hz hf pins s σ H xs us Q I r h
def rLenG (K : PySem.W.Frag) : List V → Hp → VK → Prop := fun xs H Q => ∃ p ys, xs = [.ref p] ∧ (SqL K H p ys ∨ SqT K H p ys) ∧ Q (.int (ys.length : Nat)) H
/-- the problems of damage -/
structure Ex4 (K : PySem.W.Frag) (mg : Str → Option Value) (XD XR : Addr) : Prop where
  gD : mg "DamagedData" = some (.ref XD)
  xD : PySem.W.excIn K XD [.type "ValueError", .type "Exception", .type "BaseException", .type "object"] "ValueError.__new__" = true
  kD : PySem.W.keepIn K (.ref XD) = true
  bD : PySem.W.subIn K (.ref XD) (.type "BaseException") = some true
  tD : PySem.W.typeIn K (.ref XD) = some (.type "type")
  gR : mg "RuleError" = some (.ref XR)
  eD : PySem.W.exmOne K (.ref XD) (.ref XR) = some true
  iD : ExcC K XD
  i1 : PySem.W.kitOne K (.ref XD) (.ref XD) = some true
  i2 : PySem.W.kitOne K (.ref XD) (.type "ValueError") = some true
  gV : mg "ValueError" = none
section
variable {P : Program} {w : World} {K : PySem.W.Frag} {mg : Str → Option Value} {base : Heap} {C XD XR : Addr}
abbrev sREnd : Stmt := inClass (topS 31) 9
abbrev nREnd : List Str := ["self"]
theorem scREnd : FnScope nREnd ["self"] (defScope sREnd) := ⟨rfl, rfl, rfl, by decide +kernel, rfl, by decide +kernel, by decide +kernel⟩
def spEnd (C XD : Addr) : Sp := fun vs H Q E => ∃ (r dx d : Addr) (xs : List Int) (i : Nat), vs = [.ref r] ∧ Rdr C H r dx d xs i ∧ ((xs.length ≤ i ∧ Q .non H) ∨ (i < xs.length ∧ E (.ref XD) none H))
theorem ok_end {f0 : Addr} {fd : FuncData} (F0 : Fun K "end" "Reader.end" sREnd f0 fd) (B : Bt mg) (T : Cr K mg C) (X4 : Ex4 K mg XD XR) : FnOk P w K mg base (L2.CX P w) 1 f0 fd ["self"] (spEnd C XD) := by
  refine F0.okX scREnd (fun vs H Q E h => ?_) (fun cdv A outer s0 H vs Q E hr h => ?_)
  · obtain ⟨_, _, _, _, _, rfl, _⟩ := h
    rfl
  · obtain ⟨r, dx, d, xs, i, rfl, rd, h⟩ := h
    refine ⟨_, (pss_one (ps_if (pt_cmpR op_lt (pe_fld (pv 0) rfl) (pe_callB call_len_seq (by rfl) B.len PySem.boot_len (pa_cons (pe_fld (pv 0) rfl) pa_nil)) (nomark _))
        (pss_one (ps_raise rfl (takes_of rfl rfl rfl rfl) (pmk_own PySem.F.excBase_ValueError X4.xD X4.gD X4.kD (raises_own X4.bD X4.tD) rfl)))
        pss_nil)), ?_⟩
    refine ⟨.ref r, rfl, r, C, dx, _, .int (i : Int), rfl, rd.hr, T.cl, T.nA, rfl, .ref r, rfl, r, C, dx, _, .ref d, rfl, rd.hr, T.cl, T.nD, rfl, d, _, rfl, .inl (SqL.of rd.hd), _, _, rfl, rfl, _, rfl, ?_⟩
    rcases h with ⟨hi, q⟩ | ⟨hi, e⟩
    · refine iteF' ?_ q
      rw [List.length_map]
      exact decide_eq_false (by omega)
    · refine iteT' ?_ e
      rw [List.length_map]
      exact decide_eq_true (by omega)
abbrev mEnd (P : Program) (w : World) (K : PySem.W.Frag) (mg : Str → Option Value) (base : Heap) (C XD : Addr) : Prop := MDefX P w K mg base C "end" 1 ["self"] (spEnd C XD)
abbrev sEN : Stmt := topS 65
abbrev nEN : List Str := ["reader", "tail", "e"]
theorem scEN : FnScope nEN ["reader", "tail"] (defScope sEN) := ⟨rfl, rfl, rfl, by decide +kernel, rfl, by decide +kernel, by decide +kernel⟩
def spEN (C : Addr) : Sp := fun vs H Q _ => ∃ (r dx d t : Addr) (xs : List Int) (ts : List V) (i : Nat), vs = [.ref r, .ref t] ∧ Rdr C H r dx d xs i ∧ H t = some (.lst ts) ∧ i + ts.length = xs.length ∧ ts.length ≤ 1000 ∧ ∀ H', Same H H' → Q (.bl true) H'
theorem ok_en {f0 : Addr} {fd : FuncData} (F0 : Fun K "_law_ends" "_law_ends" sEN f0 fd) (B : Bt mg) (T : Cr K mg C) (X4 : Ex4 K mg XD XR) (ME : mEnd P w K mg base C XD) : FnOk P w K mg base CX0 3 f0 fd ["reader", "tail"] (spEN C) := by
  refine F0.ok scEN (fun vs H Q E h => ?_) (fun cdv A outer s0 H vs Q E hr h => ?_)
  · obtain ⟨_, _, _, _, _, _, _, rfl, _⟩ := h
    rfl
  · obtain ⟨r, dx, d, t, xs, ts, i, rfl, rd, ht, hl, l1000, q⟩ := h
    have r1 : Room 1 _ := hr.mono (by decide)
    refine ⟨_, pss_cons (ps_try_as (i := 2) (tb := fun W => tDrop (tMethS C "end" (spEnd C XD) (WE W) (tVar 0) tNil)) (Wout := fun _ _ _ _ => False) rfl rfl scEN.nd rfl rfl ⟨rfl, by decide, Or.inl X4.gR⟩ takes0
        (fun W pn xe tk _ => pss_one (ps_expr (by exact (pe_mdefX0S ME (pv 0) T.cl r1 (fun σ => passAt tk σ)))))
        (fun a oe cls d pn hz hf => pss_one (ps_ret (pe_and (pe_cmpR op_gt (pe_callB (r := rLenG K) call_len_seq (by rfl) B.len PySem.boot_len (pa_cons (pv 1) pa_nil)) pe_int (nomark _)) (pe_and (pe_callB (call_isG X4.iD hz hf) (by rfl) B.isi (by decide +kernel) (pa_cons (pv 2) (pa_cons (pe_glob (v := .ref XD) (by rfl) X4.gD rfl) pa_nil)))
          (pe_one (pe_callB (call_isG X4.iD hz hf) (by rfl) B.isi (by decide +kernel) (pa_cons (pv 2) (pa_cons (pe_bltn (v := .ty "ValueError") (u := .type "ValueError") (by rfl) X4.gV (by decide +kernel) rfl) pa_nil))))))))) 
      (pss_one (ps_ret (pe_cmpR op_eq (pe_callB call_len_seq (by rfl) B.len PySem.boot_len (pa_cons (pv 1) pa_nil)) pe_int (nomark _)))), ?_⟩
    refine ⟨.ref r, rfl, r, dx, _, rfl, rd.hr, rfl, r, dx, d, xs, i, rfl, rd, ?_⟩
    by_cases c : xs.length ≤ i
    · refine .inl ⟨c, ?_⟩
      have z : ts.length = 0 := by have := ht; have := rd.len; omega
      refine ⟨.ref t, rfl, t, ts, rfl, .inl (SqL.of ht), rfl, ?_⟩
      rw [z]
      exact q H (fun _ _ h => h)
    · refine .inr ⟨by omega, true, X4.eD, fun _ a na => ?_, fun z => nomatch z⟩
      refine ⟨.ref t, rfl, t, ts, rfl, .inl (SqL.of ht), ts.length, 0, rfl, rfl, true, congrArg V.bl (decide_eq_true (by omega)), iteT' rfl ?_⟩
      refine ⟨.ref a, rfl, rfl, rfl, .ref XD, .ref XD, true, rfl, (fun u r => r), X4.i1, true, rfl, iteT' rfl ?_⟩
      exact ⟨.ref a, rfl, rfl, rfl, .ty "ValueError", .type "ValueError", true, rfl, (fun u r => r), X4.i2, q H (fun _ _ h => h)⟩
end
end KV

namespace KV
open PySem PySem.Spec PyProof.Rows L2 KA
section
variable {P : Program} {w : World} {K : PySem.W.Frag} {mg : Str → Option Value} {base : Heap} {C CS : Addr}
theorem EC_flat {ds : List PyData} {bs : List (List Int)} (els : Els EC ds bs) (h : bs.length ≤ 1000) : bs.flatten.length ≤ 8000000 := Nat.le_trans (flat_len (m := 5401) fun b hb => by obtain ⟨d, hd⟩ := els.all.2 b hb; exact hd.len.2) (by omega)
theorem EI_flat {ds : List PyData} {bs : List (List Int)} (els : Els EItem ds bs) (h : bs.length ≤ 1000) : bs.flatten.length ≤ 8000000 := Nat.le_trans (flat_len (m := 5400) fun b hb => by obtain ⟨d, hd⟩ := els.all.2 b hb; exact hd.len.2) (by omega)
abbrev sWCs : Stmt := topS 28
abbrev nWCs : List Str := ["changes", "change"]
theorem scWCs : FnScope nWCs ["changes"] (defScope sWCs) := ⟨rfl, rfl, rfl, by decide +kernel, rfl, by decide +kernel, by decide +kernel⟩
def spWCs : Sp := fun vs H Q _ => ∃ (a : Addr) (acc : List V) (ds : List PyData) (bs : List (List Int)), vs = [.ref a] ∧ H a = some (.lst acc) ∧ Tps H acc ds ∧ Els EC ds bs ∧ bs.length ≤ 1000 ∧ ∀ p H', Same H H' → H p = none → H' p = some (.lst ((encL bs).map V.int)) → Q (.ref p) H'
theorem ok_wcs {f : Addr} {fd : FuncData} (F : Fun K "write_changes" "write_changes" sWCs f fd) (DWL : dWL P w K mg base) (DWC : dWC P w K mg base) : FnOk P w K mg base CX0 12 f fd ["changes"] spWCs := by
  refine F.ok scWCs (fun vs H Q E h => ?_) (fun cdv A outer s H vs Q E hr h => ?_)
  · obtain ⟨_, _, _, _, rfl, _⟩ := h
    rfl
  · obtain ⟨a, xs, ds, bs, rfl, ea, ts, els, hl, q⟩ := h
    refine ⟨_, (pss_one (ps_ret (pe_def DWL (hr.mono (by decide)) (by rfl) (pa_cons (pe_lc (own := [("change", 1)]) (g := (gName 1)) (tt := tYes) (te := (tCall (spW EC) [] E0 (tCons (tVar 1) tNil))) rfl scWCs.nd (pi_list (pv 0)) (blkOk_by (own := [("change", 1)]) (N := nWCs) (sc := defScope sWCs) (by decide +kernel)) (fun _ _ _ _ _ => (pg_name (i := 1) scWCs.nd rfl (Or.inl rfl))) (fun _ _ _ _ _ => pts_nil) (fun _ _ _ _ _ => (pe_def DWC (hr.mono (by decide)) (by rfl) (pa_cons (pv 1) pa_nil)))) pa_nil)))), ?_⟩
    have l := els.length
    refine yl_mapL (K := K) (t := tVar 0) (j := 1) (dvs := E0) (σ := [some (.ref a), none]) (yv_var rfl) ea ts els (by omega) (by show 1 < 2; decide) (fun x H1 => spWL ([x] ++ []) H1 Q E0) fun D acc H' s' eD il => ?_
    exact ⟨D, acc, bs, rfl, eD, il, EC_flat els hl, hl, fun p2 H2 s2 n2 e2 => q p2 H2 (s'.trans s2) (back_none s' n2) e2⟩
abbrev dWCs (P : Program) (w : World) (K : PySem.W.Frag) (mg : Str → Option Value) (base : Heap) : Prop := Def P w K mg base "write_changes" 12 ["changes"] spWCs
abbrev sWIm : Stmt := topS 29
abbrev nWIm : List Str := ["commits", "state", "item"]
theorem scWIm : FnScope nWIm ["commits", "state"] (defScope sWIm) := ⟨rfl, rfl, rfl, by decide +kernel, rfl, by decide +kernel, by decide +kernel⟩
def spWIm (CS : Addr) : Sp := fun vs H Q _ => ∃ (n : Nat) (s : Addr) (its : List It1) (F : Addr → Prop) (N : Nat) (bs : List (List Int)), vs = [.int (n : Int), .ref s] ∧ n < big ∧ StAt CS H s its F N ∧ N ≤ 1000 ∧ its.length ≤ 400 ∧ Few its ∧ Els EItem (its.map itD) bs ∧ ∀ p H', Same H H' → H p = none → H' p = some (.lst ((encN n ++ encL bs).map V.int)) → Q (.ref p) H'
theorem ok_wim {f : Addr} {fd : FuncData} (F : Fun K "write_image" "write_image" sWIm f fd) (TS : Cs K mg CS) (MAll : mAll P w K mg base CS) (DWN : dWN P w K mg base) (DWL : dWL P w K mg base) (DWI : dWI P w K mg base) : FnOk P w K mg base CX0 12 f fd ["commits", "state"] (spWIm CS) := by
  refine F.ok scWIm (fun vs H Q E h => ?_) (fun cdv A outer s H vs Q E hr h => ?_)
  · obtain ⟨_, _, _, _, _, _, rfl, _⟩ := h
    rfl
  · obtain ⟨n, s, its, F', N, bs, rfl, hn, st, hN, h4, hf, els, q⟩ := h
    refine ⟨_, (pss_one (ps_ret (pe_op op_cat (pe_def DWN (hr.mono (by decide)) (by rfl) (pa_cons (pv 0) pa_nil)) (pe_def DWL (hr.mono (by decide)) (by rfl) (pa_cons (pe_lc (own := [("item", 2)]) (g := (gName 2)) (tt := tYes) (te := (tCall (spW EItem) [] E0 (tCons (tVar 2) tNil))) rfl scWIm.nd (pi_list (pe_mdef0 MAll (pv 1) TS.cl (hr.mono (by decide)))) (blkOk_by (own := [("item", 2)]) (N := nWIm) (sc := defScope sWIm) (by decide +kernel)) (fun _ _ _ _ _ => (pg_name (i := 2) scWIm.nd rfl (Or.inl rfl))) (fun _ _ _ _ _ => pts_nil) (fun _ _ _ _ _ => (pe_def DWI (hr.mono (by decide)) (by rfl) (pa_cons (pv 2) pa_nil)))) pa_nil))))), ?_⟩
    have l := els.length
    rw [List.length_map] at l
    have l1 := encN_len18 hn
    have l2 := EI_flat els (by omega)
    have l3 : (encL bs).length ≤ 18 + 8000000 := by
      unfold encL
      rw [List.length_append]
      have := encN_len18 (n := bs.length) (Nat.lt_of_le_of_lt (show bs.length ≤ 400 by omega) (by decide))
      omega
    refine yl_ret (D := { nx := fun _ H' => Q .non H', rt := Q }) ?_ q
    refine yl_cat (yl_num (yv_var rfl) hn) (fun H1 s1 => ?_) (by omega)
    intro Q2 q2
    have st1 := st.same s1
    obtain ⟨dx, fs, es, en⟩ : ∃ dx fs, H1 s = some (.ins CS dx fs) ∧ fs.lookup ("all_items" : Str) = none := by
      obtain ⟨dx, r, f, u, d, kr, kf, ku, kd, b⟩ := st1
      exact ⟨dx, _, b.hs, fl_no _ _ _ _ (by decide +kernel) (by decide +kernel) (by decide +kernel) (by decide +kernel)⟩
    refine ⟨.ref s, rfl, s, dx, fs, rfl, es, en, s, its, F', N, rfl, st1, hN, h4, hf, fun L ys H2 s2 nL eL tL => ?_⟩
    refine yl_mapL (K := K) (t := tC (.ref L)) (j := 2) (dvs := E0) (σ := [some (.int (n : Int)), some (.ref s), none]) yv_c eL tL els (by rw [List.length_map]; omega) (by show 2 < 3; decide) (fun x H1 => spWL ([x] ++ []) H1 Q2 E0) fun D acc H' s' eD il => ?_
    exact ⟨D, acc, bs, rfl, eD, il, l2, by omega, fun p2 H3 s3 n3 e3 => q2 p2 H3 (s2.trans (s'.trans s3)) (back_none (s2.trans s') n3) e3⟩
abbrev dWIm (P : Program) (w : World) (K : PySem.W.Frag) (mg : Str → Option Value) (base : Heap) (CS : Addr) : Prop := Def P w K mg base "write_image" 12 ["commits", "state"] (spWIm CS)
end
end KV

namespace KV
open PySem PySem.Spec PyProof.Rows L2 KA
/-! ### _law_same of long lists -/
def spSB (n : Nat) : Sp := fun vs H Q _ => ∃ (a b : Addr) (xs ys : List V) (ds es : List PyData), vs = [.ref a, .ref b] ∧ H a = some (.lst xs) ∧ H b = some (.lst ys) ∧ Tps H xs ds ∧ Tps H ys es ∧ niceAll ds ∧ niceAll es ∧ PyData.depthAll es ≤ n ∧ es.length ≤ 16000000 ∧ Q (.bl (PyData.eqvAll ds es)) H
theorem ints_tps {H : Hp} : ∀ b : List Int, Tps H (b.map V.int) (b.map PyData.int)
  | [] => .nil
  | i :: b => .cons (.int i) (ints_tps b)
theorem ints_nice : ∀ b : List Int, niceAll (b.map PyData.int)
  | [] => by rw [List.map_nil, niceAll]; trivial
  | i :: b => by rw [List.map_cons, niceAll]; exact ⟨nice_int i, ints_nice b⟩
theorem ints_depth {n : Nat} : ∀ b : List Int, PyData.depthAll (b.map PyData.int) ≤ n
  | [] => by rw [List.map_nil, PyData.depthAll]; exact Nat.zero_le _
  | i :: b => by rw [List.map_cons, PyData.depthAll]; exact Nat.max_le.mpr ⟨by rw [PyData.depth]; exact Nat.zero_le _, ints_depth b⟩
/-- two lists of the same ints -/
theorem same_ints {H : Hp} {Q : VK} {E : XK} {a b : Addr} {xs : List Int} (ea : H a = some (.lst (xs.map V.int))) (eb : H b = some (.lst (xs.map V.int))) (hl : xs.length ≤ 16000000) (q : Q (.bl true) H) : spSB 7 [.ref a, .ref b] H Q E :=
  ⟨a, b, _, _, _, _, rfl, ea, eb, ints_tps xs, ints_tps xs, ints_nice xs, ints_nice xs, ints_depth xs, by rw [List.length_map]; exact hl, by rw [nice_plain.all_plain (ints_nice xs)]; exact q⟩
section
variable {P : Program} {w : World} {K : PySem.W.Frag} {mg : Str → Option Value} {base : Heap}
theorem ok_sb {f : Addr} {fd : FuncData} (F : Fun K "_law_same" "_law_same" sSM f fd) (B : Bt mg) (m : Nat) (DS : Def P w K mg base "_law_same" (m + 1) ["actual", "expected"] (spSM m)) :
    FnOk P w K mg base CX0 (m + 2) f fd ["actual", "expected"] (spSB m) := by
  refine F.ok scSM (fun vs H Q E h => ?_) (fun cdv A outer s H vs Q E hr h => ?_)
  · obtain ⟨_, _, _, _, _, _, rfl, _⟩ := h
    rfl
  · obtain ⟨a, b, xs, ys, ds, es, rfl, e, e2, r, r2, nd, ne, dm, le, q2⟩ := h
    have ly := r2.length
    have lx := r.length
    refine ⟨_, pss_cons (ps_if (pt_cmpR op_isN (pv 1) pe_non (nomark _)) pss_never pss_nil)
        (pss_cons (ps_if (pt_val (pe_callB call_isi (by rfl) B.isi (by decide +kernel) (pa_cons (pv 1) (pa_cons (pe_bltn (v := .ty "bool") (u := .type "bool") (by rfl) B.bool (by decide +kernel) rfl) pa_nil)))) pss_never pss_nil)
        (pss_cons (ps_if (pt_val (pe_callB call_isi (by rfl) B.isi (by decide +kernel) (pa_cons (pv 1) (pa_cons (pe_bltn (v := .ty "int") (u := .type "int") (by rfl) B.int (by decide +kernel) rfl) pa_nil)))) pss_never pss_nil)
        (pss_cons (ps_if (pt_val (pe_callB call_isi (by rfl) B.isi (by decide +kernel) (pa_cons (pv 1) (pa_cons (pe_bltn (v := .ty "str") (u := .type "str") (by rfl) B.str (by decide +kernel) rfl) pa_nil)))) pss_never pss_nil)
        (pss_cons (ps_if (PW.pt (pw_and (pt_val (pe_callB call_isi (by rfl) B.isi (by decide +kernel) (pa_cons (pv 1) (pa_cons (pe_bltn (v := .ty "tuple") (u := .type "tuple") (by rfl) B.tup (by decide +kernel) rfl) pa_nil)))) (pw_and1 (pt_not (pt_val (pe_callB call_isi (by rfl) B.isi (by decide +kernel) (pa_cons (pv 0) (pa_cons (pe_bltn (v := .ty "tuple") (u := .type "tuple") (by rfl) B.tup (by decide +kernel) rfl) pa_nil)))))))) pss_never pss_nil)
        (pss_cons (ps_if (PW.pt (pw_and (pt_val (pe_callB call_isi (by rfl) B.isi (by decide +kernel) (pa_cons (pv 1) (pa_cons (pe_bltn (v := .ty "list") (u := .type "list") (by rfl) B.lst (by decide +kernel) rfl) pa_nil)))) (pw_and1 (pt_not (pt_val (pe_callB call_isi (by rfl) B.isi (by decide +kernel) (pa_cons (pv 0) (pa_cons (pe_bltn (v := .ty "list") (u := .type "list") (by rfl) B.lst (by decide +kernel) rfl) pa_nil)))))))) pss_never pss_nil)
        (pss_cons (ps_if (pt_cmpR op_ne (pe_callB call_len_seq (by rfl) B.len PySem.boot_len (pa_cons (pv 0) pa_nil)) (pe_callB call_len_seq (by rfl) B.len PySem.boot_len (pa_cons (pv 1) pa_nil)) (nomark _)) (pss_one (ps_ret pe_bl)) pss_nil)
        (pss_cons (ps_for PassesOwn.never rfl (pi_range1 (by rfl) B.rng (pa_cons (pe_callB call_len_seq (by rfl) B.len PySem.boot_len (pa_cons (pv 1) pa_nil)) pa_nil)) (pg_name (i := 2) scSM.nd rfl (.inl rfl))
            (pss_one (ps_if (pt_not (pt_val (pe_def DS hr (by rfl) (pa_cons (pe_ix ix_list (pv 0) (pv 2) (fun _ _ => rfl)) (pa_cons (pe_ix ix_list (pv 1) (pv 2) (fun _ _ => rfl)) pa_nil))))) (pss_one (ps_ret pe_bl)) pss_nil)))
        (pss_one (ps_ret pe_bl))))))))), ?_⟩
    refine ⟨.ref b, rfl, rfl, _, rfl, no_if (fun z => nomatch z) ?_⟩
    refine ⟨.ref b, rfl, isi_no (.base (.lst e2)) (by decide +kernel) ?_⟩
    refine ⟨.ref b, rfl, isi_no (.base (.lst e2)) (by decide +kernel) ?_⟩
    refine ⟨.ref b, rfl, isi_no (.base (.lst e2)) (by decide +kernel) ?_⟩
    refine ⟨.ref b, rfl, .ref b, .ty "tuple", _, _, false, rfl, .ty "tuple", .base (.lst e2), kit_ty (by decide +kernel), false, rfl, iteF (iteF ?_)⟩
    refine ⟨.ref b, rfl, .ref b, .ty "list", _, _, true, rfl, .ty "list", .base (.lst e2), kit_ty (by decide +kernel), true, rfl, iteT ?_⟩
    refine ⟨.ref a, rfl, .ref a, .ty "list", _, _, true, rfl, .ty "list", .base (.lst e), kit_ty (by decide +kernel), true, rfl, iteF ?_⟩
    refine ⟨.ref a, rfl, a, xs, rfl, .inl (SqL.of e), .ref b, rfl, b, ys, rfl, .inl (SqL.of e2), rfl, _, rfl, ?_⟩
    by_cases cl : ds.length = es.length
    · rw [lx, ly, cl, decide_eq_true rfl]
      refine iteF ?_
      refine ⟨.ref b, rfl, b, ys, rfl, .inl (SqL.of e2), _, rfl, by omega, by omega, ?_⟩
      rw [ly, Int.toNat_natCast]
      refine for_range (lo := 0) (n := es.length) (fun i σ H' => H' = H ∧ PyData.eqvAll ds es = PyData.eqvAll (ds.drop i) (es.drop i) ∧ ∃ x2, σ = [some (.ref a), some (.ref b), x2]) ⟨rfl, rfl, none, rfl⟩ (fun i σ H' hi hP => ?_) (fun σ H' hP => ?_)
      · obtain ⟨rfl, eq1, x2, rfl⟩ := hP
        have g2 := List.getElem?_eq_getElem hi
        have g1 := List.getElem?_eq_getElem (l := ds) (i := i) (by omega)
        obtain ⟨x, ex, tx⟩ := r.at_ g1
        obtain ⟨y, ey, ty⟩ := r2.at_ g2
        have e0 : (0 : Int) + (i : Int) = ((i : Nat) : Int) := Int.zero_add _
        rw [drop_get g1, drop_get g2, PyData.eqvAll] at eq1
        refine ⟨.ref a, rfl, .int (0 + i), rfl, a, xs, 0 + i, x, rfl, rfl, SqL.of e, at_of e0 ex, .ref b, rfl, .int (0 + i), rfl, b, ys, 0 + i, y, rfl, rfl, SqL.of e2, at_of e0 ey, ?_⟩
        refine ⟨x, y, _, _, rfl, tx, ty, niceAll_mem nd (List.mem_of_getElem? g1), niceAll_mem ne (List.mem_of_getElem? g2), Nat.le_trans (depth_at g2) dm, _, rfl, ?_⟩
        cases c : PyData.eqv ds[i] es[i] with
        | true =>
          rw [c, Bool.true_and] at eq1
          exact iteF ⟨rfl, eq1, _, rfl⟩
        | false =>
          rw [c, Bool.false_and] at eq1
          rw [eq1] at q2
          exact iteT q2
      · obtain ⟨rfl, eq1, x2, rfl⟩ := hP
        rw [List.drop_of_length_le (by omega), List.drop_of_length_le (by omega)] at eq1
        rw [eq1] at q2
        exact q2
    · rw [lx, ly, decide_eq_false (fun z => cl (by have t := V.int.inj z; omega))]
      refine iteT ?_
      rw [eqvAll_len cl] at q2
      exact q2
abbrev dSB (P : Program) (w : World) (K : PySem.W.Frag) (mg : Str → Option Value) (base : Heap) : Prop := Def P w K mg base "_law_same" 9 ["actual", "expected"] (spSB 7)
end
end KV

namespace KV
open PySem PySem.Spec PyProof.Rows L2 KA
/-! ### what is read under a name -/
inductive Fm : Str → Rel → Prop
  | number : Fm "number" EN
  | value : Fm "value" EV
  | row : Fm "row" ERow
  | body : Fm "body" EB
  | item : Fm "item" EItem
  | change : Fm "change" EC
theorem EV.nice {d : PyData} {b : List Int} (h : EV d b) : nice d ∧ d.depth ≤ 0 := by
  cases h with
  | int i _ => exact ⟨nice_int i, by rw [PyData.depth]; exact Nat.le_refl _⟩
  | str s _ => exact ⟨nice_str s, by rw [PyData.depth]; exact Nat.le_refl _⟩
def Nc (n : Nat) (ds : List PyData) : Prop := ∀ d ∈ ds, nice d ∧ d.depth ≤ n
theorem nc_tup {ds : List PyData} {n : Nat} (h : Nc n ds) (l : ds.length ≤ 1000) : nice (.tuple ds) ∧ (PyData.tuple ds).depth ≤ n + 1 := by
  have a : niceAll ds := by
    clear l
    induction ds with
    | nil => rw [niceAll]; trivial
    | cons d ds ih => rw [niceAll]; exact ⟨(h d List.mem_cons_self).1, ih fun x hx => h x (List.mem_cons_of_mem _ hx)⟩
  refine ⟨by rw [KV.nice]; exact ⟨l, a⟩, ?_⟩
  have := depthAll_of (n := n) (ds := ds) fun d hd => (h d hd).2
  rw [PyData.depth]
  omega
theorem ETup.nice {E : Rel} {m n : Nat} (hE : ∀ {d b}, E d b → KV.nice d ∧ d.depth ≤ n) (hm : m ≤ 1000) {d : PyData} {b : List Int} (h : ETup E m d b) : KV.nice d ∧ d.depth ≤ n + 1 := by
  cases h with
  | @mk ds bs els hl => exact nc_tup (fun d hd => by obtain ⟨b, hb⟩ := els.all.1 d hd; exact hE hb) (by omega)
theorem nice_s (s : Str) {n : Nat} : nice (.str s) ∧ (PyData.str s).depth ≤ n := ⟨nice_str s, by rw [PyData.depth]; exact Nat.zero_le _⟩
theorem nice_i (i : Int) {n : Nat} : nice (.int i) ∧ (PyData.int i).depth ≤ n := ⟨nice_int i, by rw [PyData.depth]; exact Nat.zero_le _⟩
theorem up_n {d : PyData} {m n : Nat} (h : nice d ∧ d.depth ≤ m) (l : m ≤ n) : nice d ∧ d.depth ≤ n := ⟨h.1, Nat.le_trans h.2 l⟩
theorem nc1 {n : Nat} {a : PyData} (h : nice a ∧ a.depth ≤ n) : Nc n [a] := fun d hd => by
  rcases List.mem_cons.mp hd with rfl | hd
  · exact h
  · cases hd
theorem ncc {n : Nat} {a : PyData} {l : List PyData} (h : nice a ∧ a.depth ≤ n) (t : Nc n l) : Nc n (a :: l) := fun d hd => by
  rcases List.mem_cons.mp hd with rfl | hd
  · exact h
  · exact t d hd
theorem ERow.nice {d : PyData} {b : List Int} (h : ERow d b) : KV.nice d ∧ d.depth ≤ 1 := ETup.nice EV.nice (by decide) h
theorem ET.nice {d : PyData} {b : List Int} (h : ET d b) : KV.nice d ∧ d.depth ≤ 1 := by
  cases h with
  | any => exact nc_tup (nc1 (nice_s _)) (by decide)
  | val h => exact nc_tup (ncc (nice_s _) (nc1 h.nice)) (by show 2 ≤ 1000; decide)
  | var h => exact nc_tup (ncc (nice_s _) (nc1 (nice_s _))) (by show 2 ≤ 1000; decide)
theorem ETs.nice {d : PyData} {b : List Int} (h : ETs d b) : KV.nice d ∧ d.depth ≤ 2 := ETup.nice ET.nice (by decide) h
theorem ELit.nice {d : PyData} {b : List Int} (h : ELit d b) : KV.nice d ∧ d.depth ≤ 3 := by
  cases h with
  | fact _ h => exact nc_tup (ncc (nice_s _) (ncc (nice_s _) (nc1 h.nice))) (by show 3 ≤ 1000; decide)
  | notl _ h => exact nc_tup (ncc (nice_s _) (ncc (nice_s _) (nc1 h.nice))) (by show 3 ≤ 1000; decide)
  | cmp _ h1 h2 => exact nc_tup (ncc (nice_s _) (ncc (nice_s _) (ncc (up_n h1.nice (by decide)) (nc1 (up_n h2.nice (by decide)))))) (by show 4 ≤ 1000; decide)
  | isl _ _ h1 h2 => exact nc_tup (ncc (nice_s _) (ncc (nice_s _) (ncc (nice_s _) (ncc (up_n h1.nice (by decide)) (nc1 (up_n h2.nice (by decide))))))) (by show 5 ≤ 1000; decide)
  | cnt _ _ h => exact nc_tup (ncc (nice_s _) (ncc (nice_s _) (ncc (nice_s _) (nc1 h.nice)))) (by show 4 ≤ 1000; decide)
theorem EB.nice {d : PyData} {b : List Int} (h : EB d b) : KV.nice d ∧ d.depth ≤ 4 := ETup.nice ELit.nice (by decide) h
theorem EItem.nice {d : PyData} {b : List Int} (h : EItem d b) : KV.nice d ∧ d.depth ≤ 5 := by
  cases h with
  | mk h =>
    cases h with
    | rel _ _ => exact nc_tup (ncc (nice_s _) (ncc (nice_s _) (nc1 (nice_i _)))) (by show 3 ≤ 1000; decide)
    | fact _ h => exact nc_tup (ncc (nice_s _) (ncc (nice_s _) (nc1 (up_n h.nice (by decide))))) (by show 3 ≤ 1000; decide)
    | rule _ _ h1 h2 => exact nc_tup (ncc (nice_s _) (ncc (nice_s _) (ncc (nice_s _) (ncc (up_n h1.nice (by decide)) (nc1 (up_n h2.nice (by decide))))))) (by show 5 ≤ 1000; decide)
    | den _ h => exact nc_tup (ncc (nice_s _) (ncc (nice_s _) (nc1 (up_n h.nice (by decide))))) (by show 3 ≤ 1000; decide)
theorem EC.nice {d : PyData} {b : List Int} (h : EC d b) : KV.nice d ∧ d.depth ≤ 6 := by
  cases h with
  | comes h => exact nc_tup (ncc (nice_s _) (nc1 h.nice)) (by show 2 ≤ 1000; decide)
  | goes _ _ h => exact nc_tup (ncc (nice_s _) (nc1 (up_n (nc_tup (ncc (nice_i _) (ncc (nice_s _) (nc1 h.nice))) (by show 3 ≤ 1000; decide)) (by decide)))) (by show 2 ≤ 1000; decide)
theorem Fm.nice {fm : Str} {E : Rel} (f : Fm fm E) {d : PyData} {b : List Int} (h : E d b) : KV.nice d ∧ d.depth ≤ 7 := by
  cases f with
  | number => cases h with | mk _ => exact nice_i _
  | value => exact up_n (EV.nice h) (by decide)
  | row => exact up_n (ERow.nice h) (by decide)
  | body => exact up_n (EB.nice h) (by decide)
  | item => exact up_n (EItem.nice h) (by decide)
  | change => exact up_n (EC.nice h) (by decide)
section
variable {P : Program} {w : World} {K : PySem.W.Frag} {mg : Str → Option Value} {base : Heap} {C CS : Addr}
abbrev sRD : Stmt := topS 64
abbrev nRD : List Str := ["reader", "form"]
theorem scRD : FnScope nRD ["reader", "form"] (defScope sRD) := ⟨rfl, rfl, rfl, by decide +kernel, rfl, by decide +kernel, by decide +kernel⟩
def spRD (C : Addr) : Sp := fun vs H Q _ => ∃ (r dx d : Addr) (xs : List Int) (i : Nat) (fm : Str) (b : List Int), vs = [.ref r, .str fm] ∧ Rdr C H r dx d xs i ∧ At xs i b ∧
  ((∃ E D, Fm fm E ∧ E D b ∧ ∀ v H', Kp r H H' → Rdr C H' r dx d xs (i + b.length) → Tp H' v D → Q v H') ∨
    ∃ ds bs, fm = "changes" ∧ b = encL bs ∧ Els EC ds bs ∧ bs.length ≤ 1000 ∧ ∀ D acc H', Kp r H H' → Rdr C H' r dx d xs (i + b.length) → H' D = some (.lst acc) → Tps H' acc ds → Q (.ref D) H')
theorem ok_rdl {f0 : Addr} {fd : FuncData} (F0 : Fun K "_law_read" "_law_read" sRD f0 fd) (T : Cr K mg C) (MRn : mRn P w K mg base C) (MRv : mRv P w K mg base C) (MRr : mRr P w K mg base C) (MRbd : mRbd P w K mg base C) (MRi : mRi P w K mg base C) (MRch : mRch P w K mg base C) (MRcs : mRcs P w K mg base C) : FnOk P w K mg base CX0 13 f0 fd ["reader", "form"] (spRD C) := by
  refine F0.ok scRD (fun vs H Q E h => ?_) (fun cdv A outer s0 H vs Q E hr h => ?_)
  · obtain ⟨_, _, _, _, _, _, _, rfl, _⟩ := h
    rfl
  · obtain ⟨r, dx, d, xs, i, fm, b, rfl, rd, ha, h⟩ := h
    refine ⟨_, (pss_cons (ps_if (pt_cmpR op_eq (pv 1) pe_str (nomark _))
        (pss_one (ps_ret (pe_mdef0 MRn (pv 0) T.cl (hr.mono (by decide)))))
        pss_nil)
      (pss_cons (ps_if (pt_cmpR op_eq (pv 1) pe_str (nomark _))
        (pss_one (ps_ret (pe_mdef0 MRv (pv 0) T.cl (hr.mono (by decide)))))
        pss_nil)
      (pss_cons (ps_if (pt_cmpR op_eq (pv 1) pe_str (nomark _))
        (pss_one (ps_ret (pe_mdef0 MRr (pv 0) T.cl (hr.mono (by decide)))))
        pss_nil)
      (pss_cons (ps_if (pt_cmpR op_eq (pv 1) pe_str (nomark _))
        (pss_one (ps_ret (pe_mdef0 MRbd (pv 0) T.cl (hr.mono (by decide)))))
        pss_nil)
      (pss_cons (ps_if (pt_cmpR op_eq (pv 1) pe_str (nomark _))
        (pss_one (ps_ret (pe_mdef0 MRi (pv 0) T.cl (hr.mono (by decide)))))
        pss_nil)
      (pss_cons (ps_if (pt_cmpR op_eq (pv 1) pe_str (nomark _))
        (pss_one (ps_ret (pe_mdef0 MRch (pv 0) T.cl (hr.mono (by decide)))))
        pss_nil)
      (pss_one (ps_ret (pe_mdef0 MRcs (pv 0) T.cl (hr.mono (by decide))))))))))), ?_⟩
    rcases h with ⟨E', D, f, he, q⟩ | ⟨ds, bs, rfl, rfl, els, hl, q⟩
    · cases f with
      | number => exact ⟨_, rfl, rfl, _, rfl, yes_if (rd_call rfl rd (fun _ => rfl) ha he q)⟩
      | value => exact ⟨_, rfl, rfl, _, rfl, no_if (by decide +kernel) ⟨_, rfl, rfl, _, rfl, yes_if (rd_call rfl rd (fun _ => rfl) ha he q)⟩⟩
      | row => exact ⟨_, rfl, rfl, _, rfl, no_if (by decide +kernel) ⟨_, rfl, rfl, _, rfl, no_if (by decide +kernel) ⟨_, rfl, rfl, _, rfl, yes_if (rd_call rfl rd (fun _ => rfl) ha he q)⟩⟩⟩
      | body => exact ⟨_, rfl, rfl, _, rfl, no_if (by decide +kernel) ⟨_, rfl, rfl, _, rfl, no_if (by decide +kernel) ⟨_, rfl, rfl, _, rfl, no_if (by decide +kernel) ⟨_, rfl, rfl, _, rfl, yes_if (rd_call rfl rd (fun _ => rfl) ha he q)⟩⟩⟩⟩
      | item => exact ⟨_, rfl, rfl, _, rfl, no_if (by decide +kernel) ⟨_, rfl, rfl, _, rfl, no_if (by decide +kernel) ⟨_, rfl, rfl, _, rfl, no_if (by decide +kernel) ⟨_, rfl, rfl, _, rfl, no_if (by decide +kernel) ⟨_, rfl, rfl, _, rfl, yes_if (rd_call rfl rd (fun _ => rfl) ha he q)⟩⟩⟩⟩⟩
      | change => exact ⟨_, rfl, rfl, _, rfl, no_if (by decide +kernel) ⟨_, rfl, rfl, _, rfl, no_if (by decide +kernel) ⟨_, rfl, rfl, _, rfl, no_if (by decide +kernel) ⟨_, rfl, rfl, _, rfl, no_if (by decide +kernel) ⟨_, rfl, rfl, _, rfl, no_if (by decide +kernel) ⟨_, rfl, rfl, _, rfl, yes_if (rd_call rfl rd (fun _ => rfl) ha he q)⟩⟩⟩⟩⟩⟩
    · exact ⟨_, rfl, rfl, _, rfl, no_if (by decide +kernel) ⟨_, rfl, rfl, _, rfl, no_if (by decide +kernel) ⟨_, rfl, rfl, _, rfl, no_if (by decide +kernel) ⟨_, rfl, rfl, _, rfl, no_if (by decide +kernel) ⟨_, rfl, rfl, _, rfl, no_if (by decide +kernel) ⟨_, rfl, rfl, _, rfl, no_if (by decide +kernel)
        ⟨.ref r, rfl, r, dx, _, rfl, rd.hr, rfl, r, dx, d, xs, i, ds, bs, rfl, rd, ha, els, hl, q⟩⟩⟩⟩⟩⟩⟩
abbrev dRD (P : Program) (w : World) (K : PySem.W.Frag) (mg : Str → Option Value) (base : Heap) (C : Addr) : Prop := Def P w K mg base "_law_read" 13 ["reader", "form"] (spRD C)
end
end KV

namespace KV
open PySem PySem.Spec PyProof.Rows L2 KA
/-- Reader(..) as its callers know it -/
structure MkR (P : Program) (w : World) (K : PySem.W.Frag) (mg : Str → Option Value) (base : Heap) (C : Addr) : Prop where
  ex : ∃ (f : Addr) (fd : FuncData), Mk K C f ∧ FnOk P w K mg base CX0 1 f fd ["self", "data"] (spRI C) ∧ Binds K fd ["self", "data"] []
section
variable {X : Cx} {C : Addr} {p pos : Pos} {e : Expr} {es : List Expr} {t : TA}
theorem pe_mkR (M : MkR X.prog X.w X.K X.mg X.base C) (hr : Room 2 X.A) (hg : Gl X "Reader") (hm : X.mg "Reader" = some (.ref C)) (ha : PA X (e :: es) t)
    (he : starEach (e :: es) X.env = (false, eval e X.env) :: starEach es X.env := by rfl) (hpl : (backTo pos (starEach es X.env)).any (·.1) = false := by rfl) :
    PE X (.Call (.Name "Reader" p) (e :: es) [] pos) (tMake C (spRI C) [] E0 t) := by
  obtain ⟨f, fd, m, F, b0⟩ := M.ex
  exact pe_make m F hr hg hm b0 .nil pass0 ha (by decide) he hpl
end
section
variable {H : Hp} {a b : Addr} {xs ys : List Int} {Q : VK}
theorem rcat_ints (ea : H a = some (.lst (xs.map V.int))) (eb : H b = some (.lst (ys.map V.int))) (l : xs.length + ys.length ≤ 16000000) (q : ∀ p H', Same H H' → H p = none → H' p = some (.lst ((xs ++ ys).map V.int)) → Q (.ref p) H') : rCat (.ref a) (.ref b) H Q :=
  ⟨a, b, _, _, rfl, rfl, ea, eb, len8 (by rw [List.length_map, List.length_map]; exact l), fun p n => q p _ (same_new n) n (by rw [upd_same, List.map_append])⟩
theorem small_il (l : List Int) : small (.list (intsD l)) := by
  show (PyData.list (intsD l)).depth ≤ 64
  have := depthAll_of (n := 0) (ds := intsD l) fun d hd => by
    obtain ⟨i, _, rfl⟩ := List.mem_map.mp hd
    rw [PyData.depth]
    exact Nat.le_refl _
  rw [PyData.depth]
  omega
theorem eqv_il : ∀ l : List Int, PyData.eqvAll (intsD l) (intsD l) = true
  | [] => rfl
  | i :: l => by
    show PyData.eqvAll (.int i :: intsD l) (.int i :: intsD l) = true
    rw [PyData.eqvAll, eqv_il l, eqv_int, decide_eq_true rfl]
    rfl
theorem eqv_l (l : List Int) : PyData.eqv (.list (intsD l)) (.list (intsD l)) = true := by
  rw [PyData.eqv]
  exact eqv_il l
theorem eq_ints (ea : H a = some (.lst (xs.map V.int))) (eb : H b = some (.lst (xs.map V.int))) (q : Q (.bl true) H) : rEqD false (.ref a) (.ref b) H Q :=
  ⟨_, _, .lst ea (dls_ints xs), .lst eb (dls_ints xs), small_il xs, by rw [eqv_l]; exact q⟩
theorem ne_ints (ea : H a = some (.lst (xs.map V.int))) (eb : H b = some (.lst (xs.map V.int))) (q : Q (.bl false) H) : rEqD true (.ref a) (.ref b) H Q :=
  ⟨_, _, .lst ea (dls_ints xs), .lst eb (dls_ints xs), small_il xs, by rw [eqv_l]; exact q⟩
theorem cs_ints {σ : L2.St} {i j : Nat} (h1 : σ[i]? = some (some (.ref a))) (h2 : σ[j]? = some (some (.ref b))) (ea : H a = some (.lst (xs.map V.int))) (eb : H b = some (.lst (xs.map V.int))) (l : xs.length ≤ 16000000) (q : Q (.bl true) H) : tCall (spSB 7) [] E0 (tCons (tVar i) (tCons (tVar j) tNil)) σ H Q :=
  ⟨_, h1, _, h2, same_ints (E := E0) ea eb l q⟩
end
section
variable {P : Program} {w : World} {K : PySem.W.Frag} {mg : Str → Option Value} {base : Heap} {C CS : Addr}
abbrev dEN (P : Program) (w : World) (K : PySem.W.Frag) (mg : Str → Option Value) (base : Heap) (C : Addr) : Prop := Def P w K mg base "_law_ends" 3 ["reader", "tail"] (spEN C)
abbrev sAS : Stmt := topS 66
abbrev nAS : List Str := ["form", "thing", "told", "due", "tail", "passed", "reader"]
theorem scAS : FnScope nAS ["form", "thing", "told", "due", "tail"] (defScope sAS) := ⟨rfl, rfl, rfl, by decide +kernel, rfl, by decide +kernel, by decide +kernel⟩
/-- the thing of this name that has these bytes -/
def Thing (H : Hp) (fm : Str) (v : V) (b : List Int) : Prop := (∃ E D, Fm fm E ∧ E D b ∧ Tp H v D) ∨ ∃ a acc ds bs, fm = "changes" ∧ b = encL bs ∧ Els EC ds bs ∧ bs.length ≤ 1000 ∧ v = .ref a ∧ H a = some (.lst acc) ∧ Tps H acc ds
theorem Thing.same {H H' : Hp} {fm : Str} {v : V} {b : List Int} (h : Thing H fm v b) (s : Same H H') : Thing H' fm v b := by
  rcases h with ⟨E, D, f, e, t⟩ | ⟨a, acc, ds, bs, e1, e2, els, l, e3, ea, t⟩
  · exact .inl ⟨E, D, f, e, t.mono (Tk.of s)⟩
  · exact .inr ⟨a, acc, ds, bs, e1, e2, els, l, e3, s _ _ ea, t.mono (Tk.of s)⟩
theorem rd_same {σ : L2.St} {H : Hp} {fm : Str} {v : V} {b xs : List Int} {r dx d : Addr} {i : Nat} {Q : VK} (h6 : σ[6]? = some (some (.ref r))) (h0 : σ[0]? = some (some (.str fm))) (h1 : σ[1]? = some (some v)) (th : Thing H fm v b) (rd : Rdr C H r dx d xs i) (ha : At xs i b) (q : ∀ H', Kp r H H' → Rdr C H' r dx d xs (i + b.length) → Q (.bl true) H') :
    tCall spSame [] E0 (tCons (tCall (spRD C) [] E0 (tCons (tVar 6) (tCons (tVar 0) tNil))) (tCons (tVar 1) tNil)) σ H Q := by
  refine ⟨.ref r, h6, .str fm, h0, r, dx, d, xs, i, fm, b, rfl, rd, ha, ?_⟩
  rcases th with ⟨E, D, f, he, t⟩ | ⟨a, acc, ds, bs, e1, e2, els, l, rfl, ea, ta⟩
  · refine .inl ⟨E, D, f, he, fun v' H' k rd' t' => ⟨v, h1, .inl ⟨v', v, D, D, rfl, t', t.mono (rd.tk k), (f.nice he).1, (f.nice he).1, (f.nice he).2, ?_⟩⟩⟩
    rw [nice_plain (f.nice he).1]
    exact q H' k rd'
  · have nar : a ≠ r := fun z => by rw [z, rd.hr] at ea; cases ea
    refine .inr ⟨ds, bs, e1, e2, els, l, fun D acc' H' k rd' eD t' => ⟨.ref a, h1, .inr ?_⟩⟩
    have hn : ∀ d ∈ ds, nice d ∧ d.depth ≤ 7 := fun d hd => by
      obtain ⟨b, hb⟩ := els.all.1 d hd
      exact up_n hb.nice (by decide)
    have ha : niceAll ds := by
      clear ta t' els
      induction ds with
      | nil => rw [niceAll]; trivial
      | cons d ds ih => rw [niceAll]; exact ⟨(hn d List.mem_cons_self).1, ih fun x hx => hn x (List.mem_cons_of_mem _ hx)⟩
    have le := els.length
    refine ⟨D, a, acc', acc, ds, ds, rfl, eD, k _ _ nar ea, t', ta.mono (rd.tk k), ha, ha, depthAll_of fun d hd => (hn d hd).2, by omega, ?_⟩
    rw [nice_plain.all_plain ha]
    exact q H' k rd'
theorem int_same {H : Hp} {i : Int} {Q : VK} {E : XK} (q : Q (.bl true) H) : spSame [.int i, .int i] H Q E := same_true (.inl ⟨.int i, .int i, .int i, nice_int i, by rw [PyData.depth]; exact Nat.zero_le _⟩) q
def spAS : Sp := fun vs H Q _ => ∃ (fm : Str) (v : V) (a c t : Addr) (b ts : List Int), vs = [.str fm, v, .ref a, .ref c, .ref t] ∧ Thing H fm v b ∧ H a = some (.lst (b.map V.int)) ∧ H c = some (.lst (b.map V.int)) ∧ H t = some (.lst (ts.map V.int)) ∧ b.length ≤ 7000000 ∧ ts.length ≤ 1000 ∧ ∀ H', Same H H' → Q (.bl true) H'
theorem ok_as {f0 : Addr} {fd : FuncData} (F0 : Fun K "_law_asks" "_law_asks" sAS f0 fd) (B : Bt mg) (T : Cr K mg C) (MKR : MkR P w K mg base C) (DSB : dSB P w K mg base) (DSame : dSame P w K mg base) (DRD : dRD P w K mg base C) (DEN : dEN P w K mg base C) : FnOk P w K mg base CX0 14 f0 fd ["form", "thing", "told", "due", "tail"] spAS := by
  refine F0.ok scAS (fun vs H Q E h => ?_) (fun cdv A outer s0 H vs Q E hr h => ?_)
  · obtain ⟨_, _, _, _, _, _, _, rfl, _⟩ := h
    rfl
  · obtain ⟨fm, v, a, c, t, b, ts, rfl, th, ea, ec, et, lb, lt, q⟩ := h
    have hu := hu_of hr
    refine ⟨_, (pss_cons (ps_if (pt_not (pt_val (pe_def DSB (hr.mono (by decide)) (by rfl) (pa_cons (pv 2) (pa_cons (pv 3) pa_nil)))))
        (pss_one (ps_ret pe_bl))
        pss_nil)
      (pss_cons (ps_set (i := 5) scAS.nd rfl (.inl rfl) (pe_op op_cat (pv 3) (pv 4)))
      (pss_cons (ps_set (i := 6) scAS.nd rfl (.inl rfl) (pe_mkR MKR (hr.mono (by decide)) (by rfl) T.mgC (pa_cons (pv 5) pa_nil)))
      (pss_cons (ps_if (pt_cmpR (op_neQ hr.units) (pv 5) (pe_op op_cat (pv 3) (pv 4)) (nomark _))
        (pss_one (ps_ret pe_bl))
        pss_nil)
      (pss_cons (ps_expr (pe_bm PySem.F.plainAttrs_list PySem.F.slot_list_insert PySem.F.type_list_insert mt_insert (pv 5) (pa_cons pe_int (pa_cons pe_int pa_nil))))
      (pss_cons (ps_if (PW.pt (pw_or (pt_not (pt_val (pe_def DSame (hr.mono (by decide)) (by rfl) (pa_cons (pe_fld (pv 6) rfl) (pa_cons pe_int pa_nil))))) (pw_or1 (pt_not (pt_val (pe_def DSame (hr.mono (by decide)) (by rfl) (pa_cons (pe_def DRD (hr.mono (by decide)) (by rfl) (pa_cons (pv 6) (pa_cons (pv 0) pa_nil))) (pa_cons (pv 1) pa_nil))))))))
        (pss_one (ps_ret pe_bl))
        pss_nil)
      (pss_one (ps_ret (pe_and (pe_def DSame (hr.mono (by decide)) (by rfl) (pa_cons (pe_fld (pv 6) rfl) (pa_cons (pe_callB call_len_seq (by rfl) B.len PySem.boot_len (pa_cons (pv 3) pa_nil)) pa_nil))) (pe_and (pe_cmpR (op_eqQ hr.units) (pv 5) (pe_op op_cat (pe_op op_cat (pe_lst (pa_cons pe_int pa_nil)) (pv 3)) (pv 4)) (nomark _)) (pe_one (pe_def DEN (hr.mono (by decide)) (by rfl) (pa_cons (pv 6) (pa_cons (pv 4) pa_nil)))))))))))))), ?_⟩
    refine cs_ints (i := 2) (j := 3) rfl rfl ea ec (by omega) ⟨_, rfl, iteF ?_⟩
    refine ⟨.ref c, rfl, .ref t, rfl, rcat_ints ec et (by omega) fun Pa H1 s1 nPa eP => ?_⟩
    refine ⟨.ref Pa, rfl, fun r dx nr ndx ne => ⟨r, dx, Pa, b ++ ts, rfl, upd_same, ?_, by rw [List.length_append]; omega, fun d H2 k2 nd rd => ⟨rfl, ?_⟩⟩⟩
    · exact (same_put (same_new ndx) nr) _ _ eP
    have sm : Same H1 (upd (upd H1 dx (.own r)) r (.ins C dx [])) := same_put (same_new ndx) nr
    have s12 : Same H1 H2 := fun x o h => k2 x o (fun z => by rw [z, nr] at h; cases h) (sm x o h)
    have s02 := s1.trans s12
    have nPr : Pa ≠ r := fun z => by rw [z, nr] at eP; cases eP
    have nPd : Pa ≠ d := fun z => by have := sm _ _ eP; rw [z, nd] at this; cases this
    refine ⟨.ref Pa, rfl, .ref c, rfl, .ref t, rfl, rcat_ints (s02 _ _ ec) (s02 _ _ et) (by omega) fun p2 H3 s3 n2 e2 => ne_ints (s3 _ _ (s12 _ _ eP)) e2 ⟨_, rfl, iteF ?_⟩⟩
    have s13 := s12.trans s3
    have s03 := s1.trans s13
    have rd3 := rd.same s3
    have eP3 := s13 _ _ eP
    refine ⟨.ref Pa, rfl, .inl ⟨rfl, _, SqL.of eP3⟩, Pa, _, 0, .int 9, rfl, rfl, eP3, by rw [sizeLine_eq, List.length_map, List.length_append]; omega, by decide, by decide, ?_⟩
    generalize hG : upd H3 Pa _ = H4
    have e4 : H4 Pa = some (.lst ((9 :: (b ++ ts)).map V.int)) := by subst hG; exact upd_same
    have k4 : ∀ x o, x ≠ Pa → H3 x = some o → H4 x = some o := fun x o n h => by subst hG; rw [upd_ne n]; exact h
    clear hG
    have nP0 : H Pa = none := by
      cases z : H Pa with
      | none => rfl
      | some o => rw [z] at nPa; cases nPa
    have s04 : Same H H4 := fun x o h => k4 x o (fun z => by rw [z, nP0] at h; cases h) (s03 x o h)
    have rd4 : Rdr C H4 r dx d (b ++ ts) 0 := ⟨k4 _ _ nPr.symm rd3.hr, k4 _ _ nPd.symm rd3.hd, rd3.ne, rd3.len⟩
    have th4 := th.same s04
    refine ⟨.ref r, rfl, r, C, dx, _, .int 0, rfl, rd4.hr, T.cl, T.nA, rfl, int_same (Q := fun x H1 => ∃ c, x = .bl c ∧ _) ⟨true, rfl, iteF' rfl ?_⟩⟩
    refine rd_same rfl rfl rfl th4 rd4 ⟨[], ts, rfl, rfl⟩ fun H5 k5 rd5 => ⟨true, rfl, iteF' rfl ?_⟩
    rw [Nat.zero_add] at rd5
    have nr0 : H r = none := by
      cases z : H r with
      | none => rfl
      | some o => rw [s1 _ _ z] at nr; cases nr
    have s05 : Same H H5 := fun x o h => k5 x o (fun z => by rw [z, nr0] at h; cases h) (s04 x o h)
    have e5 := k5 _ _ nPr e4
    refine ⟨.ref r, rfl, r, C, dx, _, .int (b.length : Int), rfl, rd5.hr, T.cl, T.nA, rfl, .ref c, rfl, c, _, rfl, .inl (SqL.of (s05 _ _ ec)), ?_⟩
    rw [List.length_map]
    refine int_same (Q := fun x H1 => ∃ c, x = .bl c ∧ _) ⟨true, rfl, iteT' rfl ?_⟩
    refine ⟨.ref Pa, rfl, by show 1 ≤ sizeLine; decide, fun p6 n6 => ?_⟩
    have s6 := same_new (o := HO.lst [.int 9]) n6
    refine ⟨.ref c, rfl, rcat_ints (xs := [9]) upd_same (s6 _ _ (s05 _ _ ec)) (by show 1 + _ ≤ _; omega) fun p7 H7 s7 n7 e7 => ⟨.ref t, rfl, rcat_ints e7 (s7 _ _ (s6 _ _ (s05 _ _ et))) (by rw [List.length_append]; show 1 + _ + _ ≤ _; omega) fun p8 H8 s8 n8 e8 => eq_ints (s8 _ _ (s7 _ _ (s6 _ _ e5))) (by rw [e8, List.append_assoc]; rfl) ⟨true, rfl, iteT' rfl ?_⟩⟩⟩
    have s58 := s6.trans (s7.trans s8)
    have s08 := s05.trans s58
    exact ⟨.ref r, rfl, .ref t, rfl, r, dx, d, t, b ++ ts, _, b.length, rfl, rd5.same s58, s08 _ _ et, by rw [List.length_map, List.length_append], by rw [List.length_map]; omega, fun H9 s9 => q H9 (s08.trans s9)⟩
abbrev dAS (P : Program) (w : World) (K : PySem.W.Frag) (mg : Str → Option Value) (base : Heap) : Prop := Def P w K mg base "_law_asks" 14 ["form", "thing", "told", "due", "tail"] spAS
end
end KV

namespace KV
open PySem PySem.Spec PyProof.Rows L2 KA
theorem goodS_of {s : Str} (h : (decide (s.cps.toList.length ≤ 100) && s.cps.toList.all (fun c => decide (32 ≤ c) && decide (c ≤ 126) && decide (c ≠ 37))) = true) : GoodS s := by
  rw [Bool.and_eq_true, List.all_eq_true] at h
  refine ⟨of_decide_eq_true h.1, fun c hc => ?_⟩
  have := h.2 c hc
  rw [Bool.and_eq_true, Bool.and_eq_true] at this
  exact ⟨of_decide_eq_true this.1.1, of_decide_eq_true this.1.2, of_decide_eq_true this.2⟩
theorem chars_good : ∀ c ∈ charsS.cps.toList, GoodC c := (goodS_of (s := charsS) (by decide +kernel)).2
theorem big_eq : big = 85070591730234615865843651857942052864 := by decide +kernel
theorem big1 {v u : Int} (v0 : 0 ≤ v) (v1 : v < 2) (u0 : 0 ≤ u) (u1 : u < 3) : ((1 - 2 * v) * (10 ^ 30 - 1 - u)).natAbs < big := by
  rw [big_eq]
  have c : v = 0 ∨ v = 1 := by omega
  rcases c with rfl | rfl <;> omega
theorem big2 {v u : Int} (v0 : 0 ≤ v) (v1 : v < 2) (u0 : 0 ≤ u) (u1 : u < 1000000000000000000000000000000) : ((1 - 2 * v) * u).natAbs < big := by
  rw [big_eq]
  have c : v = 0 ∨ v = 1 := by omega
  rcases c with rfl | rfl <;> omega
def spVal : Sp := fun vs H Q _ => ∃ (st L : Addr), vs = [.ref st] ∧ Good st L H ∧ ∀ (v : V) (d : PyData) H', Dr st L H H' → (∃ b, EV d b) → (∀ H2, Tp H2 v d) → Q v H'
theorem fin_int {st L : Addr} {H H' : Hp} {Q : VK} {i : Int} (q : ∀ (v : V) (d : PyData) H', Dr st L H H' → (∃ b, EV d b) → (∀ H2, Tp H2 v d) → Q v H') (hb : i.natAbs < big) (d : Dr st L H H') : Q (.int i) H' := q _ (.int i) _ d ⟨_, .int i hb⟩ (fun _ => .int i)
theorem fin_str {st L : Addr} {H H' : Hp} {Q : VK} {z : Str} (q : ∀ (v : V) (d : PyData) H', Dr st L H H' → (∃ b, EV d b) → (∀ H2, Tp H2 v d) → Q v H') (hz : GoodS z) (d : Dr st L H H') : Q (.str z) H' := q _ (.str z) _ d ⟨_, .str z hz⟩ (fun _ => .str z)
section
variable {P : Program} {w : World} {K : PySem.W.Frag} {mg : Str → Option Value} {base : Heap}
section
variable {X : Cx} {k : Nat} {x : Str} {ps : List Str} {sp : Sp} {e : Expr} {es : List Expr} {t : TA} {p pos : Pos}
end
section
variable {P : Program} {w : World} {K : PySem.W.Frag} {mg : Str → Option Value} {base : Heap}
abbrev sVal : Stmt := topS 36
theorem scVal : FnScope ["state", "pick", "start", "step", "j"] ["state"] (defScope sVal) := ⟨rfl, rfl, rfl, by decide +kernel, rfl, by decide +kernel, by decide +kernel⟩
theorem ok_val {f : Addr} {fd : FuncData} (F : Fun K "_law_value" "_law_value" sVal f fd) (B : Bt mg) (DN : dNext P w K mg base) (DC : dCh P w K mg base) : FnOk P w K mg base CX0 2 f fd ["state"] spVal := by
  refine F.ok scVal (fun vs H Q E h => ?_) (fun cdv A outer s H vs Q E hr h => ?_)
  · obtain ⟨st, L, rfl, _⟩ := h
    rfl
  · obtain ⟨st, L, rfl, g, q⟩ := h
    refine ⟨_, pss_cons (ps_set (i := 1) scVal.nd rfl (.inl rfl) (pe_def DN hr (by rfl) (pa_cons (pv 0) (pa_cons pe_int pa_nil))))
      (pss_cons (ps_if (pt_cmpR op_lt (pv 1) pe_int (nomark _)) (pss_one (ps_ret (pe_ix ix_list (pe_lst (pa_cons pe_int (pa_cons pe_int (pa_cons pe_int (pa_cons (pe_un un_neg pe_int) pa_nil))))) (pv 1) (fun _ _ => rfl)))) pss_nil)
      (pss_cons (ps_if (pt_cmpR op_eq (pv 1) pe_int (nomark _)) (pss_one (ps_ret (pe_op op_mul (pe_op op_sub pe_int (pe_op op_mul pe_int (pe_def DN hr (by rfl) (pa_cons (pv 0) (pa_cons pe_int pa_nil)))))
          (pe_op op_sub (pe_op op_sub (pe_op op_pow pe_int pe_int) pe_int) (pe_def DN hr (by rfl) (pa_cons (pv 0) (pa_cons pe_int pa_nil))))))) pss_nil)
      (pss_cons (ps_if (pt_cmpR op_eq (pv 1) pe_int (nomark _)) (pss_one (ps_ret (pe_op op_mul (pe_op op_sub pe_int (pe_op op_mul pe_int (pe_def DN hr (by rfl) (pa_cons (pv 0) (pa_cons pe_int pa_nil)))))
          (pe_ix ix_list (pe_lst (pa_cons pe_int (pa_cons pe_int (pa_cons pe_int (pa_cons pe_int (pa_cons (pe_def DN hr (by rfl) (pa_cons (pv 0) (pa_cons (pe_op op_pow pe_int pe_int) pa_nil))) pa_nil)))))) (pe_def DN hr (by rfl) (pa_cons (pv 0) (pa_cons pe_int pa_nil))) (fun _ _ => rfl))))) pss_nil)
      (pss_cons (ps_if (pt_cmpR op_lt (pv 1) pe_int (nomark _)) (pss_one (ps_ret (pe_ix ix_list (pe_lst (pa_cons pe_str (pa_cons pe_str (pa_cons pe_str (pa_cons pe_str pa_nil))))) (pe_op op_sub (pv 1) pe_int) (fun _ _ => rfl)))) pss_nil)
      (pss_cons (ps_set (i := 2) scVal.nd rfl (.inr rfl) (pe_def DN hr (by rfl) (pa_cons (pv 0) (pa_cons pe_int pa_nil))))
      (pss_cons (ps_set (i := 3) scVal.nd rfl (.inr rfl) (pe_def DN hr (by rfl) (pa_cons (pv 0) (pa_cons pe_int pa_nil))))
      (pss_one (ps_ret (pe_join pe_str (pe_lc (own := [("j", 4)]) (g := gName 4) (tt := tYes) rfl scVal.nd (pi_range1 (by rfl) B.rng (pa_cons (pe_def DN hr (by rfl) (pa_cons (pv 0) (pa_cons pe_int pa_nil))) pa_nil))
        (blkOk_by (own := [("j", 4)]) (N := ["state", "pick", "start", "step", "j"]) (sc := defScope sVal) (by decide +kernel)) (fun _ _ _ _ _ => pg_name (i := 4) scVal.nd rfl (Or.inl rfl)) (fun _ _ _ _ _ => pts_nil)
        (fun _ _ _ _ _ => pe_ix ix_str (pe_def0 DC hr (by rfl)) (pe_op op_mod (pe_op op_add (pv 2) (pe_op op_mul (pv 3) (pv 4))) pe_int) (fun _ _ => rfl)))))))))))), ?_⟩
    -- pick
    refine ⟨.ref st, rfl, st, L, 12, rfl, g, by decide, by decide, fun pick H1 d1 p0 p1 => ?_⟩
    refine ⟨.int pick, rfl, pick, 4, rfl, rfl, _, rfl, ite2 (fun c => ?_) (fun c => ?_)⟩
    · have c4 : pick < 4 := of_decide_eq_true c
      obtain ⟨y, ey, cy⟩ := lit4 (a := .int 0) (b := .int 1) (c := .int 2) (d := .int (-1)) p0 c4
      refine ⟨1, rfl, (by show 4 ≤ sizeLine; decide), fun p np => ⟨.int pick, rfl, p, _, pick, y, rfl, rfl, SqL.of upd_same, ey, ?_⟩⟩
      have d2 := d1.add (o := .lst [.int 0, .int 1, .int 2, .int (-1)]) np
      rcases cy with rfl | rfl | rfl | rfl
      · exact fin_int q (by decide +kernel) d2
      · exact fin_int q (by decide +kernel) d2
      · exact fin_int q (by decide +kernel) d2
      · exact fin_int q (by decide +kernel) d2
    have n4 : ¬ pick < 4 := fun z => c (decide_eq_true z)
    refine ⟨.int pick, rfl, rfl, _, rfl, ite2 (fun c => ?_) (fun n4e => ?_)⟩
    · refine ⟨.ref st, rfl, st, L, 2, rfl, d1.good, by decide, by decide, fun v2 H2 d2 v0 v1 => ?_⟩
      refine ⟨2, v2, rfl, rfl, .inl ⟨by decide, by decide⟩, 1, 2 * v2, rfl, rfl, 10, 30, rfl, rfl, ⟨by decide, by decide, by decide⟩, _, 1, rfl, rfl, ?_⟩
      refine ⟨.ref st, rfl, st, L, 3, rfl, d2.good, by decide, by decide, fun v3 H3 d3 w0 w1 => ?_⟩
      exact ⟨_, v3, rfl, rfl, 1 - 2 * v2, _, rfl, rfl, .inl ⟨by omega, by omega⟩, fin_int q (big1 v0 v1 w0 w1) ((d1.trans d2).trans d3)⟩
    refine ⟨.int pick, rfl, rfl, _, rfl, ite2 (fun c => ?_) (fun n5e => ?_)⟩
    · refine ⟨.ref st, rfl, st, L, 2, rfl, d1.good, by decide, by decide, fun v2 H2 d2 v0 v1 => ?_⟩
      refine ⟨2, v2, rfl, rfl, .inl ⟨by decide, by decide⟩, 1, 2 * v2, rfl, rfl, ?_⟩
      refine ⟨.ref st, rfl, 10, 30, rfl, rfl, ⟨by decide, by decide, by decide⟩, st, L, _, rfl, d2.good, by decide, by decide, fun v3 H3 d3 w0 w1 => ?_⟩
      refine ⟨(by show 5 ≤ sizeLine; decide), fun p np => ?_⟩
      have d4 := ((d1.trans d2).trans d3).add (o := .lst [.int 127, .int 128, .int 16383, .int 16384, .int v3]) np
      refine ⟨.ref st, rfl, st, L, 5, rfl, d4.good, by decide, by decide, fun v5 H5 d5 x0 x1 => ?_⟩
      have ep : H5 p = some (.lst [.int 127, .int 128, .int 16383, .int 16384, .int v3]) := d5.at_ (fun z => by
        subst z
        exact absurd (((d1.trans d2).trans d3).free np) (by
          obtain ⟨_, _, _, _, e, _⟩ := g
          rw [e]
          exact fun z => nomatch z)) upd_same
      obtain ⟨y, ey, i5, e5, j0, j1⟩ : ∃ y, atI [V.int 127, .int 128, .int 16383, .int 16384, .int v3] v5 = some y ∧ ∃ j, y = .int j ∧ 0 ≤ j ∧ j < 1000000000000000000000000000000 := by
        have c5 : v5 = 0 ∨ v5 = 1 ∨ v5 = 2 ∨ v5 = 3 ∨ v5 = 4 := by omega
        have w2 : v3 < 1000000000000000000000000000000 := w1
        rcases c5 with rfl | rfl | rfl | rfl | rfl <;> exact ⟨_, rfl, _, rfl, by omega, by omega⟩
      subst e5
      exact ⟨p, _, v5, .int i5, rfl, rfl, SqL.of ep, ey, 1 - 2 * v2, i5, rfl, rfl, .inl ⟨by omega, by omega⟩, fin_int q (big2 v0 v1 j0 j1) (d4.trans d5)⟩
    refine ⟨.int pick, rfl, pick, 10, rfl, rfl, _, rfl, ite2 (fun c => ?_) (fun c => ?_)⟩
    · have c10 : pick < 10 := of_decide_eq_true c
      have m4 : pick ≠ 4 := fun z => n4e (decide_eq_true (congrArg V.int z))
      have m5 : pick ≠ 5 := fun z => n5e (decide_eq_true (congrArg V.int z))
      refine ⟨(by show 4 ≤ sizeLine; decide), fun p np => ?_⟩
      refine ⟨.int pick, rfl, pick, 6, rfl, rfl, ?_⟩
      have d2 := d1.add (o := .lst [.str "", .str "a", .str "ab", .str "1"]) np
      obtain ⟨y, ey, cy⟩ := lit4 (v := pick - 6) (a := .str "") (b := .str "a") (c := .str "ab") (d := .str "1") (by omega) (by omega)
      refine ⟨p, _, pick - 6, y, rfl, rfl, SqL.of upd_same, ey, ?_⟩
      rcases cy with rfl | rfl | rfl | rfl
      · exact fin_str q (goodS_of (by decide +kernel)) d2
      · exact fin_str q (goodS_of (by decide +kernel)) d2
      · exact fin_str q (goodS_of (by decide +kernel)) d2
      · exact fin_str q (goodS_of (by decide +kernel)) d2
    refine ⟨.ref st, rfl, st, L, 94, rfl, d1.good, by decide, by decide, fun va H2 d2 a0 a1 => ?_⟩
    refine ⟨.ref st, rfl, st, L, 94, rfl, d2.good, by decide, by decide, fun vb H3 d3 b0 b1 => ?_⟩
    refine ⟨⟨_, rfl⟩, ?_⟩
    refine ⟨.ref st, rfl, st, L, 31, rfl, d3.good, by decide, by decide, fun n H4 d4 n0 n1 => ?_⟩
    refine ⟨n, rfl, by omega, by omega, fun D nD => ?_⟩
    refine lc_range (lo := 0) (n := n.toNat) (fun i H' => Dr st L H4 H' ∧ ∃ ys : List Nat, H' D = some (.lst (ys.map fun c => V.str ⟨#[c]⟩)) ∧ ys.length = i ∧ ∀ y ∈ ys, GoodC y) ⟨Dr.new d4.good nD, [], upd_same, rfl, fun y hy => by cases hy⟩ (fun i H' hi hP => ?_) (fun H' hP => ?_)
    · obtain ⟨dd, ys, eD, ly, hy⟩ := hP
      refine ⟨rfl, ?_⟩
      refine iteT (B := True) ?_
      refine ⟨rfl, ?_⟩
      refine ⟨.int va, rfl, .int vb, rfl, .int (0 + i), rfl, vb, 0 + i, rfl, rfl, .inl ⟨by omega, by omega⟩, va, _, rfl, rfl, _, 94, rfl, rfl, (by show (0 : Int) < 94; decide), ?_⟩
      have m0 : 0 ≤ (va + vb * (0 + (i : Int))) % 94 := Int.emod_nonneg _ (by decide)
      have m1 : (va + vb * (0 + (i : Int))) % 94 < 94 := Int.emod_lt_of_pos _ (by decide)
      obtain ⟨m, em⟩ := nat_of m0
      have hm : m < charsS.cps.toList.length := by
        have t : charsS.cps.toList.length = 94 := by decide +kernel
        omega
      refine ⟨charsS, (va + vb * (0 + (i : Int))) % 94, charsS.cps.toList[m], rfl, rfl, (by decide +kernel), (by rw [em]; exact atI_nat (List.getElem?_eq_getElem hm)), ys.map fun c => V.str ⟨#[c]⟩, eD, ?_, dd.put d4.good nD, ys ++ [charsS.cps.toList[m]], ?_, ?_, ?_⟩
      · rw [List.length_map, ly]
        exact small1000 (by omega)
      · rw [upd_same, List.map_append]
        rfl
      · rw [List.length_append, ly]
        rfl
      · intro y hy2
        rcases List.mem_append.mp hy2 with h1 | h1
        · exact hy y h1
        · rw [List.mem_singleton.mp h1]
          exact chars_good _ (List.getElem_mem hm)
    · obtain ⟨dd, ys, eD, ly, hy⟩ := hP
      refine ⟨_, D, ys.map fun c => ⟨#[c]⟩, rfl, rfl, .inl (SqL.of (by rw [List.map_map]; exact eD)), ?_, ?_⟩
      · rw [sum_ones, List.length_map, ly]
        show n.toNat + n.toNat * 0 ≤ 16777216
        omega
      · rw [join_chars]
        exact fin_str q ⟨by show ys.length ≤ 100; omega, fun c hc => hy c hc⟩ (((d1.trans d2).trans (d3.trans d4)).trans dd)

abbrev dVal (P : Program) (w : World) (K : PySem.W.Frag) (mg : Str → Option Value) (base : Heap) : Prop := Def P w K mg base "_law_value" 2 ["state"] spVal
end
end
end KV

namespace KV
open PySem PySem.Spec PyProof.Rows L2 KA
def NM8 : List Str := ["r", "r1", "r_", "longest_name", "longest_namf", "a", "ab", "r1x"]
theorem nm_good : ∀ z ∈ NM8, GoodS z := fun z hz => by
  have : NM8.all (fun s => decide (s.cps.toList.length ≤ 100) && s.cps.toList.all (fun c => decide (32 ≤ c) && decide (c ≤ 126) && decide (c ≠ 37))) = true := by decide +kernel
  exact goodS_of (List.all_eq_true.mp this z hz)
theorem lit_at {zs : List Str} {v : Int} (h0 : 0 ≤ v) (h1 : v < zs.length) : ∃ (m : Nat) (z : Str), atI (zs.map V.str) v = some (.str z) ∧ zs[m]? = some z := by
  obtain ⟨m, em⟩ := nat_of h0
  have hm : m < zs.length := by omega
  refine ⟨m, zs[m], ?_, List.getElem?_eq_getElem hm⟩
  rw [em]
  refine atI_nat ?_
  rw [List.getElem?_map, List.getElem?_eq_getElem hm]
  rfl
def spRow : Sp := fun vs H Q _ => ∃ (st L : Addr) (n : Int), vs = [.ref st, .int n] ∧ Good st L H ∧ 0 ≤ n ∧ n ≤ 5 ∧
  ∀ (p : Addr) (ds : List PyData) (bs : List (List Int)) H', Dr st L H H' → Tp H' (.ref p) (.tuple ds) → Els EV ds bs → ds.length = n.toNat → Q (.ref p) H'
def spName : Sp := fun vs H Q _ => ∃ (st L : Addr), vs = [.ref st] ∧ Good st L H ∧ ∀ (z : Str) H', Dr st L H H' → z ∈ NM8 → Q (.str z) H'
/-- a thing of this kind is drawn -/
def spDe (E : Rel) : Sp := fun vs H Q _ => ∃ (st L : Addr), vs = [.ref st] ∧ Good st L H ∧ ∀ (v : V) (d : PyData) (b : List Int) H', Dr st L H H' → Tp H' v d → E d b → Q v H'
section
variable {st L : Addr} {K : PySem.W.Frag} {σ : L2.St} {H : Hp} {E : Rel} {j m : Nat} {dvs : List V}
/-- things drawn into a tuple -/
theorem dr_tuple (h0 : σ[0]? = some (some (.ref st))) (hj : 0 < j) (g : Good st L H) (hm : m ≤ 1000) (n : Int) (hn : n.toNat ≤ m) (n0 : 0 ≤ n) {J : TI} (hJ : ∀ R, R (Itr 0 n.toNat) H → J σ H R) (Q : VK) (q : ∀ v ds bs H', Dr st L H H' → Tp H' v (.tuple ds) → Els E ds bs → ds.length = n.toNat → Q v H') :
    tLc J (gName j) tYes (tCall (spDe E) [] E0 (tCons (tVar 0) tNil)) [j] σ H fun x H1 => ∃ p ys, [x] = [.ref p] ∧ ((SqL K H1 p ys ∧ ∀ l, H1 l = none → Q (.ref l) (upd H1 l (.tup ys))) ∨ (SqT K H1 p ys ∧ Q (.ref p) H1)) := by
  refine hJ _ fun D nD => ?_
  refine lc_range (lo := 0) (n := n.toNat) (fun i H' => Dr st L H H' ∧ ∃ ys ds bs, H' D = some (.lst ys) ∧ Tps H' ys ds ∧ ds.length = i ∧ Els E ds bs) ⟨Dr.new g nD, [], [], [], upd_same, .nil, rfl, .nil⟩ (fun i H' hi hP => ?_) (fun H' hP => ?_)
  · obtain ⟨dd, ys, ds, bs, eD, ht, ly, els⟩ := hP
    refine ⟨set_wipe σ j _, ?_⟩
    unfold tYes; dsimp only; rw [if_pos rfl]
    refine ⟨.ref st, slot_0 h0 hj, st, L, rfl, dd.good, fun v d b H2 d2 td he => ?_⟩
    have nst : D ≠ st := fun z => g.not_none (by rw [← z]; exact nD)
    have eD2 := d2.at_ nst eD
    have kk : Tk H2 (upd H2 D (.lst (ys ++ [v]))) := Tk.lst eD2
    refine ⟨ys, eD2, small1000 (by rw [ht.length]; omega), (dd.trans d2).put g nD, ys ++ [v], ds ++ [d], bs ++ [b], upd_same, ((ht.mono (d2.tk dd.good)).mono kk).append (.cons (td.mono kk) .nil), ?_, els.app (.cons he .nil)⟩
    rw [List.length_append, ly]
    rfl
  · obtain ⟨dd, ys, ds, bs, eD, ht, ly, els⟩ := hP
    exact ⟨D, ys, rfl, .inl ⟨SqL.of eD, fun p np => q _ ds bs _ (dd.add np) (.tup upd_same (ht.mono (Tk.new np))) els ly⟩⟩
end
section
variable {P : Program} {w : World} {K : PySem.W.Frag} {mg : Str → Option Value} {base : Heap}
abbrev dRow (P : Program) (w : World) (K : PySem.W.Frag) (mg : Str → Option Value) (base : Heap) : Prop := Def P w K mg base "_law_row" 3 ["state", "width"] spRow
abbrev dName (P : Program) (w : World) (K : PySem.W.Frag) (mg : Str → Option Value) (base : Heap) : Prop := Def P w K mg base "_law_name" 2 ["state"] spName
abbrev dTerm (P : Program) (w : World) (K : PySem.W.Frag) (mg : Str → Option Value) (base : Heap) : Prop := Def P w K mg base "_law_term" 3 ["state"] (spDe ET)
abbrev dTerms (P : Program) (w : World) (K : PySem.W.Frag) (mg : Str → Option Value) (base : Heap) : Prop := Def P w K mg base "_law_terms" 4 ["state"] (spDe ETs)
abbrev dLit (P : Program) (w : World) (K : PySem.W.Frag) (mg : Str → Option Value) (base : Heap) : Prop := Def P w K mg base "_law_literal" 5 ["state"] (spDe ELit)
abbrev dBody (P : Program) (w : World) (K : PySem.W.Frag) (mg : Str → Option Value) (base : Heap) : Prop := Def P w K mg base "_law_body" 6 ["state"] (spDe EB)
abbrev sDRw : Stmt := topS 37
abbrev nDRw : List Str := ["state", "width", "k"]
theorem scDRw : FnScope nDRw ["state", "width"] (defScope sDRw) := ⟨rfl, rfl, rfl, by decide +kernel, rfl, by decide +kernel, by decide +kernel⟩
theorem ok_row {f : Addr} {fd : FuncData} (F : Fun K "_law_row" "_law_row" sDRw f fd) (B : Bt mg) (DDV : dVal P w K mg base) : FnOk P w K mg base CX0 3 f fd ["state", "width"] spRow := by
  refine F.ok scDRw (fun vs H Q E h => ?_) (fun cdv A outer s H vs Q E hr h => ?_)
  · obtain ⟨st, L, n, rfl, _⟩ := h
    rfl
  · obtain ⟨st, L, n, rfl, g, n0, n1, q⟩ := h
    refine ⟨_, (pss_one (ps_ret (pe_callTy call_tuple_of (by rfl) B.tup (by decide +kernel) (pa_cons (pe_lc (own := [("k", 2)]) (g := (gName 2)) (tt := tYes) (te := (tCall spVal [] E0 (tCons (tVar 0) tNil))) rfl scDRw.nd (pi_range1 (by rfl) B.rng (pa_cons (pv 1) pa_nil)) (blkOk_by (own := [("k", 2)]) (N := nDRw) (sc := defScope sDRw) (by decide +kernel)) (fun _ _ _ _ _ => (pg_name (i := 2) scDRw.nd rfl (Or.inl rfl))) (fun _ _ _ _ _ => pts_nil) (fun _ _ _ _ _ => (pe_def DDV (hr.mono (by decide)) (by rfl) (pa_cons (pv 0) pa_nil)))) pa_nil)))), ?_⟩
    refine ⟨.int n, rfl, n, rfl, by omega, by omega, fun D nD => ?_⟩
    refine lc_range (lo := 0) (n := n.toNat) (fun i H' => Dr st L H H' ∧ ∃ ys ds bs, H' D = some (.lst ys) ∧ (∀ H2, Tps H2 ys ds) ∧ ds.length = i ∧ Els EV ds bs) ⟨Dr.new g nD, [], [], [], upd_same, fun _ => .nil, rfl, .nil⟩ (fun i H' hi hP => ?_) (fun H' hP => ?_)
    · obtain ⟨dd, ys, ds, bs, eD, ht, ly, els⟩ := hP
      refine ⟨rfl, ?_⟩
      refine iteT (B := True) ?_
      refine ⟨.ref st, rfl, st, L, rfl, dd.good, fun v d H2 d2 ev tp2 => ?_⟩
      obtain ⟨b, hb⟩ := ev
      have lD : ys.length = i := by rw [(ht H2).length, ly]
      have nst : D ≠ st := fun z => g.not_none (by rw [← z]; exact nD)
      refine ⟨ys, d2.at_ nst eD, small1000 (by omega), (dd.trans d2).put g nD, ys ++ [v], ds ++ [d], bs ++ [b], upd_same, Tps.snoc_all ht tp2, ?_, els.app (.cons hb .nil)⟩
      rw [List.length_append, ly]
      rfl
    · obtain ⟨dd, ys, ds, bs, eD, ht, ly, els⟩ := hP
      exact ⟨D, ys, rfl, .inl ⟨SqL.of eD, fun p np => q p ds bs _ (dd.add np) (.tup upd_same (ht _)) els ly⟩⟩
abbrev sDNm : Stmt := topS 38
abbrev nDNm : List Str := ["state"]
theorem scDNm : FnScope nDNm ["state"] (defScope sDNm) := ⟨rfl, rfl, rfl, by decide +kernel, rfl, by decide +kernel, by decide +kernel⟩
theorem ok_name {f : Addr} {fd : FuncData} (F : Fun K "_law_name" "_law_name" sDNm f fd) (DN : dNext P w K mg base) : FnOk P w K mg base CX0 2 f fd ["state"] spName := by
  refine F.ok scDNm (fun vs H Q E h => ?_) (fun cdv A outer s H vs Q E hr h => ?_)
  · obtain ⟨st, L, rfl, _⟩ := h
    rfl
  · obtain ⟨st, L, rfl, g, q⟩ := h
    refine ⟨_, (pss_one (ps_ret (pe_ix ix_list (pe_lst (pa_cons pe_str (pa_cons pe_str (pa_cons pe_str (pa_cons pe_str (pa_cons pe_str (pa_cons pe_str (pa_cons pe_str (pa_cons pe_str pa_nil))))))))) (pe_def DN (hr.mono (by decide)) (by rfl) (pa_cons (pv 0) (pa_cons pe_int pa_nil))) (fun _ _ => rfl)))), ?_⟩
    refine ⟨(by show 8 ≤ sizeLine; decide), fun p np => ?_⟩
    have d1 := Dr.new (o := .lst (NM8.map V.str)) g np
    refine ⟨.ref st, rfl, st, L, 8, rfl, d1.good, by decide, by decide, fun v H2 d2 v0 v1 => ?_⟩
    obtain ⟨m, z, ez, em⟩ := lit_at (zs := NM8) v0 v1
    exact ⟨p, _, v, .str z, rfl, rfl, SqL.of (Dr.keep g np d2), ez, q z _ (d1.trans d2) (List.mem_of_getElem? em)⟩
abbrev sDT : Stmt := topS 39
abbrev nDT : List Str := ["state", "pick"]
theorem scDT : FnScope nDT ["state"] (defScope sDT) := ⟨rfl, rfl, rfl, by decide +kernel, rfl, by decide +kernel, by decide +kernel⟩
theorem ok_term {f : Addr} {fd : FuncData} (F : Fun K "_law_term" "_law_term" sDT f fd) (DN : dNext P w K mg base) (DDV : dVal P w K mg base) (DDNm : dName P w K mg base) : FnOk P w K mg base CX0 3 f fd ["state"] (spDe ET) := by
  refine F.ok scDT (fun vs H Q E h => ?_) (fun cdv A outer s H vs Q E hr h => ?_)
  · obtain ⟨st, L, rfl, _⟩ := h
    rfl
  · obtain ⟨st, L, rfl, g, q⟩ := h
    refine ⟨_, (pss_cons (ps_set (i := 1) scDT.nd rfl (.inl rfl) (pe_def DN (hr.mono (by decide)) (by rfl) (pa_cons (pv 0) (pa_cons pe_int pa_nil))))
      (pss_cons (ps_if (pt_cmpR op_eq (pv 1) pe_int (nomark _))
        (pss_one (ps_ret (pe_tup (pa_cons pe_str pa_nil))))
        pss_nil)
      (pss_cons (ps_if (pt_cmpR op_eq (pv 1) pe_int (nomark _))
        (pss_one (ps_ret (pe_tup (pa_cons pe_str (pa_cons (pe_def DDV (hr.mono (by decide)) (by rfl) (pa_cons (pv 0) pa_nil)) pa_nil)))))
        pss_nil)
      (pss_one (ps_ret (pe_tup (pa_cons pe_str (pa_cons (pe_def DDNm (hr.mono (by decide)) (by rfl) (pa_cons (pv 0) pa_nil)) pa_nil)))))))), ?_⟩
    refine ⟨.ref st, rfl, st, L, 4, rfl, g, by decide, by decide, fun pick H1 d1 p0 p1 => ?_⟩
    refine ⟨.int pick, rfl, rfl, _, rfl, ite2 (fun c => ?_) (fun c => ?_)⟩
    · exact ⟨(by show 1 ≤ sizeLine; decide), fun p np => q _ _ _ _ (d1.add np) (.tup upd_same (.cons (.str _) .nil)) .any⟩
    refine ⟨.int pick, rfl, rfl, _, rfl, ite2 (fun c => ?_) (fun c => ?_)⟩
    · refine ⟨.ref st, rfl, st, L, rfl, d1.good, fun v d H2 d2 ev td => ?_⟩
      obtain ⟨b, hb⟩ := ev
      exact ⟨(by show 2 ≤ sizeLine; decide), fun p np => q _ _ _ _ ((d1.trans d2).add np) (.tup upd_same (.cons (.str _) (.cons (td _) .nil))) (.val hb)⟩
    · refine ⟨.ref st, rfl, st, L, rfl, d1.good, fun z H2 d2 hz => ?_⟩
      exact ⟨(by show 2 ≤ sizeLine; decide), fun p np => q _ _ _ _ ((d1.trans d2).add np) (.tup upd_same (.cons (.str _) (.cons (.str z) .nil))) (.var (nm_good z hz))⟩
abbrev sDTs : Stmt := topS 40
abbrev nDTs : List Str := ["state", "k"]
theorem scDTs : FnScope nDTs ["state"] (defScope sDTs) := ⟨rfl, rfl, rfl, by decide +kernel, rfl, by decide +kernel, by decide +kernel⟩
theorem ok_terms {f : Addr} {fd : FuncData} (F : Fun K "_law_terms" "_law_terms" sDTs f fd) (B : Bt mg) (DN : dNext P w K mg base) (DDT : dTerm P w K mg base) : FnOk P w K mg base CX0 4 f fd ["state"] (spDe ETs) := by
  refine F.ok scDTs (fun vs H Q E h => ?_) (fun cdv A outer s H vs Q E hr h => ?_)
  · obtain ⟨st, L, rfl, _⟩ := h
    rfl
  · obtain ⟨st, L, rfl, g, q⟩ := h
    refine ⟨_, (pss_one (ps_ret (pe_callTy call_tuple_of (by rfl) B.tup (by decide +kernel) (pa_cons (pe_lc (own := [("k", 1)]) (g := (gName 1)) (tt := tYes) (te := (tCall (spDe ET) [] E0 (tCons (tVar 0) tNil))) rfl scDTs.nd (pi_range1 (by rfl) B.rng (pa_cons (pe_def DN (hr.mono (by decide)) (by rfl) (pa_cons (pv 0) (pa_cons pe_int pa_nil))) pa_nil)) (blkOk_by (own := [("k", 1)]) (N := nDTs) (sc := defScope sDTs) (by decide +kernel)) (fun _ _ _ _ _ => (pg_name (i := 1) scDTs.nd rfl (Or.inl rfl))) (fun _ _ _ _ _ => pts_nil) (fun _ _ _ _ _ => (pe_def DDT (hr.mono (by decide)) (by rfl) (pa_cons (pv 0) pa_nil)))) pa_nil)))), ?_⟩
    refine ⟨.ref st, rfl, st, L, 5, rfl, g, by decide, by decide, fun n H1 d1 n0 n1 => ?_⟩
    refine ⟨n, rfl, by omega, by omega, ?_⟩
    exact dr_tuple (E := ET) (m := 5) (j := 1) (K := K) (J := fun σ H R => R (Itr 0 n.toNat) H) (σ := L2.start nDTs [.ref st]) rfl (by decide) d1.good (by decide) n (by omega) n0 (fun R h => h) Q (fun v ds bs H' dd t els l => q v _ _ H' (d1.trans dd) t (.mk els (by omega)))
end
end KV

namespace KV
open PySem PySem.Spec PyProof.Rows L2 KA
theorem dec_str {a b : Str} (c : decide (V.str a = V.str b) = true) : a = b := by
  have := of_decide_eq_true c
  injection this
theorem EV.atom {d : PyData} {b : List Int} (h : EV d b) : isAtom d := by
  cases h with
  | int _ _ => trivial
  | str _ _ => trivial
theorem Els.atoms {ds : List PyData} {bs : List (List Int)} (h : Els EV ds bs) : Atoms ds := fun d hd => by
  obtain ⟨b, hb⟩ := h.all.1 d hd
  exact hb.atom
section
variable {P : Program} {w : World} {K : PySem.W.Frag} {mg : Str → Option Value} {base : Heap}
abbrev sDLi : Stmt := topS 41
abbrev nDLi : List Str := ["state", "form", "operator"]
theorem scDLi : FnScope nDLi ["state"] (defScope sDLi) := ⟨rfl, rfl, rfl, by decide +kernel, rfl, by decide +kernel, by decide +kernel⟩
theorem ok_lit {f : Addr} {fd : FuncData} (F : Fun K "_law_literal" "_law_literal" sDLi f fd) (DN : dNext P w K mg base) (DDT : dTerm P w K mg base) (DDNm : dName P w K mg base) (DDTs : dTerms P w K mg base) : FnOk P w K mg base CX0 5 f fd ["state"] (spDe ELit) := by
  refine F.ok scDLi (fun vs H Q E h => ?_) (fun cdv A outer s H vs Q E hr h => ?_)
  · obtain ⟨st, L, rfl, _⟩ := h
    rfl
  · obtain ⟨st, L, rfl, g, q⟩ := h
    refine ⟨_, (pss_cons (ps_set (i := 1) scDLi.nd rfl (.inl rfl) (pe_ix ix_list (pe_lst (pa_cons pe_str (pa_cons pe_str (pa_cons pe_str (pa_cons pe_str (pa_cons pe_str (pa_cons pe_str pa_nil))))))) (pe_def DN (hr.mono (by decide)) (by rfl) (pa_cons (pv 0) (pa_cons pe_int pa_nil))) (fun _ _ => rfl)))
      (pss_cons (ps_if (pt_cmpR op_eq (pv 1) pe_str (nomark _))
        (pss_cons (ps_set (i := 2) scDLi.nd rfl (.inl rfl) (pe_ix ix_list (pe_lst (pa_cons pe_str (pa_cons pe_str (pa_cons pe_str (pa_cons pe_str (pa_cons pe_str (pa_cons pe_str pa_nil))))))) (pe_def DN (hr.mono (by decide)) (by rfl) (pa_cons (pv 0) (pa_cons pe_int pa_nil))) (fun _ _ => rfl)))
        (pss_one (ps_ret (pe_tup (pa_cons (pv 1) (pa_cons (pv 2) (pa_cons (pe_def DDT (hr.mono (by decide)) (by rfl) (pa_cons (pv 0) pa_nil)) (pa_cons (pe_def DDT (hr.mono (by decide)) (by rfl) (pa_cons (pv 0) pa_nil)) pa_nil))))))))
        pss_nil)
      (pss_cons (ps_if (pt_cmpR op_eq (pv 1) pe_str (nomark _))
        (pss_one (ps_ret (pe_tup (pa_cons (pv 1) (pa_cons (pe_def DDNm (hr.mono (by decide)) (by rfl) (pa_cons (pv 0) pa_nil)) (pa_cons (pe_ix ix_list (pe_lst (pa_cons pe_str (pa_cons pe_str (pa_cons pe_str pa_nil)))) (pe_def DN (hr.mono (by decide)) (by rfl) (pa_cons (pv 0) (pa_cons pe_int pa_nil))) (fun _ _ => rfl)) (pa_cons (pe_def DDT (hr.mono (by decide)) (by rfl) (pa_cons (pv 0) pa_nil)) (pa_cons (pe_def DDT (hr.mono (by decide)) (by rfl) (pa_cons (pv 0) pa_nil)) pa_nil))))))))
        pss_nil)
      (pss_cons (ps_if (pt_cmpR op_eq (pv 1) pe_str (nomark _))
        (pss_one (ps_ret (pe_tup (pa_cons (pv 1) (pa_cons (pe_def DDNm (hr.mono (by decide)) (by rfl) (pa_cons (pv 0) pa_nil)) (pa_cons (pe_def DDNm (hr.mono (by decide)) (by rfl) (pa_cons (pv 0) pa_nil)) (pa_cons (pe_def DDTs (hr.mono (by decide)) (by rfl) (pa_cons (pv 0) pa_nil)) pa_nil)))))))
        pss_nil)
      (pss_one (ps_ret (pe_tup (pa_cons (pv 1) (pa_cons (pe_def DDNm (hr.mono (by decide)) (by rfl) (pa_cons (pv 0) pa_nil)) (pa_cons (pe_def DDTs (hr.mono (by decide)) (by rfl) (pa_cons (pv 0) pa_nil)) pa_nil)))))))))), ?_⟩
    refine ⟨(by show 6 ≤ sizeLine; decide), fun p np => ?_⟩
    have d0 := Dr.new (o := .lst ((["fact", "fact", "not", "compare", "is", "count"] : List Str).map V.str)) g np
    refine ⟨.ref st, rfl, st, L, 6, rfl, d0.good, by decide, by decide, fun v H1 dv v0 v1 => ?_⟩
    obtain ⟨mf, fm, ef, emf⟩ := lit_at (zs := ["fact", "fact", "not", "compare", "is", "count"]) v0 v1
    have d1 := d0.trans dv
    refine ⟨p, _, v, .str fm, rfl, rfl, SqL.of (Dr.keep g np dv), ef, ?_⟩
    refine ⟨.str fm, rfl, rfl, _, rfl, ite2 (fun c => ?_) (fun c => ?_)⟩
    · cases dec_str c
      refine ⟨(by show 6 ≤ sizeLine; decide), fun p2 np2 => ?_⟩
      have d2 := Dr.new (o := .lst (opsC.map V.str)) d1.good np2
      refine ⟨.ref st, rfl, st, L, 6, rfl, d2.good, by decide, by decide, fun u H2 du u0 u1 => ?_⟩
      obtain ⟨k, op, eo, ek⟩ := lit_at (zs := opsC) u0 u1
      refine ⟨p2, _, u, .str op, rfl, rfl, SqL.of (Dr.keep d1.good np2 du), eo, ?_⟩
      refine ⟨_, rfl, .str op, rfl, .ref st, rfl, st, L, rfl, du.good, fun a da ba H3 d3 ta ea => ⟨.ref st, rfl, st, L, rfl, d3.good, fun b db bb H4 d4 tb eb => ⟨(by show 4 ≤ sizeLine; decide), fun t nt => ?_⟩⟩⟩
      exact q _ _ _ _ ((((d1.trans d2).trans du).trans (d3.trans d4)).add nt) (.tup upd_same (.cons (.str _) (.cons (.str _) (.cons ((ta.mono (d4.tk d3.good)).mono (Tk.new nt)) (.cons (tb.mono (Tk.new nt)) .nil))))) (.cmp ek ea eb)
    refine ⟨.str fm, rfl, rfl, _, rfl, ite2 (fun c2 => ?_) (fun c2 => ?_)⟩
    · cases dec_str c2
      refine ⟨_, rfl, .ref st, rfl, st, L, rfl, d1.good, fun nm H2 d2 hnm => ⟨(by show 3 ≤ sizeLine; decide), fun p2 np2 => ?_⟩⟩
      have d3 := Dr.new (o := .lst (opsR.map V.str)) d2.good np2
      refine ⟨.ref st, rfl, st, L, 3, rfl, d3.good, by decide, by decide, fun u H3 du u0 u1 => ?_⟩
      obtain ⟨k, op, eo, ek⟩ := lit_at (zs := opsR) u0 u1
      refine ⟨p2, _, u, .str op, rfl, rfl, SqL.of (Dr.keep d2.good np2 du), eo, ?_⟩
      refine ⟨.ref st, rfl, st, L, rfl, du.good, fun a da ba H4 d4 ta ea => ⟨.ref st, rfl, st, L, rfl, d4.good, fun b db bb H5 d5 tb eb => ⟨(by show 5 ≤ sizeLine; decide), fun t nt => ?_⟩⟩⟩
      exact q _ _ _ _ ((((d1.trans d2).trans (d3.trans du)).trans (d4.trans d5)).add nt) (.tup upd_same (.cons (.str _) (.cons (.str _) (.cons (.str _) (.cons ((ta.mono (d5.tk d4.good)).mono (Tk.new nt)) (.cons (tb.mono (Tk.new nt)) .nil)))))) (.isl (nm_good _ hnm) ek ea eb)
    refine ⟨.str fm, rfl, rfl, _, rfl, ite2 (fun c3 => ?_) (fun c3 => ?_)⟩
    · cases dec_str c3
      refine ⟨_, rfl, .ref st, rfl, st, L, rfl, d1.good, fun nm H2 d2 hn1 => ⟨.ref st, rfl, st, L, rfl, d2.good, fun nm2 H3 d3 hn2 => ⟨.ref st, rfl, st, L, rfl, d3.good, fun b db bb H4 d4 tb eb => ⟨(by show 4 ≤ sizeLine; decide), fun t nt => ?_⟩⟩⟩⟩
      exact q _ _ _ _ (((d1.trans d2).trans (d3.trans d4)).add nt) (.tup upd_same (.cons (.str _) (.cons (.str _) (.cons (.str _) (.cons (tb.mono (Tk.new nt)) .nil))))) (.cnt (nm_good _ hn1) (nm_good _ hn2) eb)
    · refine ⟨.str fm, rfl, .ref st, rfl, st, L, rfl, d1.good, fun nm H2 d2 hnm => ⟨.ref st, rfl, st, L, rfl, d2.good, fun b db bb H3 d3 tb eb => ⟨(by show 3 ≤ sizeLine; decide), fun t nt => ?_⟩⟩⟩
      have tt : Tp (upd H3 t (.tup [.str fm, .str nm, b])) (.ref t) (.tuple [.str fm, .str nm, db]) := .tup upd_same (.cons (.str _) (.cons (.str _) (.cons (tb.mono (Tk.new nt)) .nil)))
      have dd := (d1.trans (d2.trans d3)).add (o := .tup [.str fm, .str nm, b]) nt
      have cs : fm = "fact" ∨ fm = "not" := by
        have hm := List.mem_of_getElem? emf
        simp only [List.mem_cons, List.not_mem_nil, or_false] at hm
        rcases hm with h | h | h | h | h | h
        · exact .inl h
        · exact .inl h
        · exact .inr h
        · subst h; exact absurd (decide_eq_true rfl) c
        · subst h; exact absurd (decide_eq_true rfl) c2
        · subst h; exact absurd (decide_eq_true rfl) c3
      rcases cs with rfl | rfl
      · exact q _ _ _ _ dd tt (.fact (nm_good _ hnm) eb)
      · exact q _ _ _ _ dd tt (.notl (nm_good _ hnm) eb)
abbrev sDB : Stmt := topS 42
abbrev nDB : List Str := ["state", "k"]
theorem scDB : FnScope nDB ["state"] (defScope sDB) := ⟨rfl, rfl, rfl, by decide +kernel, rfl, by decide +kernel, by decide +kernel⟩
theorem ok_body {f : Addr} {fd : FuncData} (F : Fun K "_law_body" "_law_body" sDB f fd) (B : Bt mg) (DN : dNext P w K mg base) (DDLi : dLit P w K mg base) : FnOk P w K mg base CX0 6 f fd ["state"] (spDe EB) := by
  refine F.ok scDB (fun vs H Q E h => ?_) (fun cdv A outer s H vs Q E hr h => ?_)
  · obtain ⟨st, L, rfl, _⟩ := h
    rfl
  · obtain ⟨st, L, rfl, g, q⟩ := h
    refine ⟨_, (pss_one (ps_ret (pe_callTy call_tuple_of (by rfl) B.tup (by decide +kernel) (pa_cons (pe_lc (own := [("k", 1)]) (g := (gName 1)) (tt := tYes) (te := (tCall (spDe ELit) [] E0 (tCons (tVar 0) tNil))) rfl scDB.nd (pi_range1 (by rfl) B.rng (pa_cons (pe_def DN (hr.mono (by decide)) (by rfl) (pa_cons (pv 0) (pa_cons pe_int pa_nil))) pa_nil)) (blkOk_by (own := [("k", 1)]) (N := nDB) (sc := defScope sDB) (by decide +kernel)) (fun _ _ _ _ _ => (pg_name (i := 1) scDB.nd rfl (Or.inl rfl))) (fun _ _ _ _ _ => pts_nil) (fun _ _ _ _ _ => (pe_def DDLi (hr.mono (by decide)) (by rfl) (pa_cons (pv 0) pa_nil)))) pa_nil)))), ?_⟩
    refine ⟨.ref st, rfl, st, L, 5, rfl, g, by decide, by decide, fun n H1 d1 n0 n1 => ?_⟩
    refine ⟨n, rfl, by omega, by omega, ?_⟩
    exact dr_tuple (E := ELit) (m := 5) (j := 1) (K := K) (J := fun σ H R => R (Itr 0 n.toNat) H) (σ := L2.start nDB [.ref st]) rfl (by decide) d1.good (by decide) n (by omega) n0 (fun R h => h) Q (fun v ds bs H' dd t els l => q v _ _ H' (d1.trans dd) t (.mk els (by omega)))
/-- an item with its bytes -/
def spItem : Sp := fun vs H Q _ => ∃ (st L : Addr), vs = [.ref st] ∧ Good st L H ∧ ∀ (v : V) (i : It1) (b : List Int) H', Dr st L H H' → Tp H' v (itD i) → okI i → EI i b → (keyI i).2.1 ∈ NM8 → Q v H'
abbrev sDI : Stmt := topS 43
abbrev nDI : List Str := ["state", "pick", "name"]
theorem scDI : FnScope nDI ["state"] (defScope sDI) := ⟨rfl, rfl, rfl, by decide +kernel, rfl, by decide +kernel, by decide +kernel⟩
theorem ok_item {f : Addr} {fd : FuncData} (F : Fun K "_law_item" "_law_item" sDI f fd) (DN : dNext P w K mg base) (DDRw : dRow P w K mg base) (DDNm : dName P w K mg base) (DDTs : dTerms P w K mg base) (DDB : dBody P w K mg base) : FnOk P w K mg base CX0 7 f fd ["state"] spItem := by
  refine F.ok scDI (fun vs H Q E h => ?_) (fun cdv A outer s H vs Q E hr h => ?_)
  · obtain ⟨st, L, rfl, _⟩ := h
    rfl
  · obtain ⟨st, L, rfl, g, q⟩ := h
    refine ⟨_, (pss_cons (ps_set (i := 1) scDI.nd rfl (.inl rfl) (pe_def DN (hr.mono (by decide)) (by rfl) (pa_cons (pv 0) (pa_cons pe_int pa_nil))))
      (pss_cons (ps_set (i := 2) scDI.nd rfl (.inl rfl) (pe_def DDNm (hr.mono (by decide)) (by rfl) (pa_cons (pv 0) pa_nil)))
      (pss_cons (ps_if (pt_cmpR op_lt (pv 1) pe_int (nomark _))
        (pss_one (ps_ret (pe_tup (pa_cons pe_str (pa_cons (pv 2) (pa_cons (pe_op op_add pe_int (pe_def DN (hr.mono (by decide)) (by rfl) (pa_cons (pv 0) (pa_cons pe_int pa_nil)))) pa_nil))))))
        pss_nil)
      (pss_cons (ps_if (pt_cmpR op_lt (pv 1) pe_int (nomark _))
        (pss_one (ps_ret (pe_tup (pa_cons pe_str (pa_cons (pv 2) (pa_cons (pe_def DDRw (hr.mono (by decide)) (by rfl) (pa_cons (pv 0) (pa_cons (pe_op op_add pe_int (pe_def DN (hr.mono (by decide)) (by rfl) (pa_cons (pv 0) (pa_cons pe_int pa_nil)))) pa_nil))) pa_nil))))))
        pss_nil)
      (pss_cons (ps_if (pt_cmpR op_lt (pv 1) pe_int (nomark _))
        (pss_one (ps_ret (pe_tup (pa_cons pe_str (pa_cons (pv 2) (pa_cons (pe_def DDNm (hr.mono (by decide)) (by rfl) (pa_cons (pv 0) pa_nil)) (pa_cons (pe_def DDTs (hr.mono (by decide)) (by rfl) (pa_cons (pv 0) pa_nil)) (pa_cons (pe_def DDB (hr.mono (by decide)) (by rfl) (pa_cons (pv 0) pa_nil)) pa_nil))))))))
        pss_nil)
      (pss_one (ps_ret (pe_tup (pa_cons pe_str (pa_cons (pv 2) (pa_cons (pe_def DDB (hr.mono (by decide)) (by rfl) (pa_cons (pv 0) pa_nil)) pa_nil))))))))))), ?_⟩
    refine ⟨.ref st, rfl, st, L, 8, rfl, g, by decide, by decide, fun pick H1 d1 p0 p1 => ?_⟩
    refine ⟨.ref st, rfl, st, L, rfl, d1.good, fun nm H2 d2 hnm => ?_⟩
    have d12 := d1.trans d2
    refine ⟨.int pick, rfl, pick, 2, rfl, rfl, _, rfl, ite2 (fun c => ?_) (fun c => ?_)⟩
    · refine ⟨.str nm, rfl, .ref st, rfl, st, L, 4, rfl, d2.good, by decide, by decide, fun n H3 d3 n0 n1 => ⟨1, n, rfl, rfl, (by show 3 ≤ sizeLine; decide), fun p np => ?_⟩⟩
      obtain ⟨k, rfl⟩ := nat_of n0
      exact q _ (.rel nm ((1 + k : Nat) : Int)) _ _ ((d12.trans d3).add np) (.tup upd_same (.cons (.str _) (.cons (.str nm) (.cons (.int _) .nil)))) trivial (.rel (nm_good _ hnm) (by omega)) hnm
    refine ⟨.int pick, rfl, pick, 5, rfl, rfl, _, rfl, ite2 (fun c => ?_) (fun c => ?_)⟩
    · refine ⟨.str nm, rfl, .ref st, rfl, .ref st, rfl, st, L, 4, rfl, d2.good, by decide, by decide, fun n H3 d3 n0 n1 => ⟨1, n, rfl, rfl, st, L, 1 + n, rfl, d3.good, by omega, by omega, fun r ds bs H4 d4 tr els lr => ⟨(by show 3 ≤ sizeLine; decide), fun p np => ?_⟩⟩⟩
      exact q _ (.fact nm ds) _ _ ((d12.trans (d3.trans d4)).add np) (.tup upd_same (.cons (.str _) (.cons (.str nm) (.cons (tr.mono (Tk.new np)) .nil)))) ⟨els.atoms, by omega⟩ (.fact (nm_good _ hnm) (.mk els (by omega))) hnm
    refine ⟨.int pick, rfl, pick, 7, rfl, rfl, _, rfl, ite2 (fun c => ?_) (fun c => ?_)⟩
    · refine ⟨.str nm, rfl, .ref st, rfl, st, L, rfl, d2.good, fun nm2 H3 d3 hn2 => ⟨.ref st, rfl, st, L, rfl, d3.good, fun b db bb H4 d4 tb eb => ⟨.ref st, rfl, st, L, rfl, d4.good, fun b2 db2 bb2 H5 d5 tb2 eb2 => ⟨(by show 5 ≤ sizeLine; decide), fun p np => ?_⟩⟩⟩⟩
      exact q _ (.rule nm nm2 db db2) _ _ ((d12.trans (d3.trans (d4.trans d5))).add np) (.tup upd_same (.cons (.str _) (.cons (.str nm) (.cons (.str nm2) (.cons ((tb.mono (d5.tk d4.good)).mono (Tk.new np)) (.cons (tb2.mono (Tk.new np)) .nil)))))) ⟨(ETs.nice eb).1, (EB.nice eb2).1, Nat.le_trans (ETs.nice eb).2 (by decide), (EB.nice eb2).2⟩ (.rule (nm_good _ hnm) (nm_good _ hn2) eb eb2) hnm
    · refine ⟨.str nm, rfl, .ref st, rfl, st, L, rfl, d2.good, fun b db bb H3 d3 tb eb => ⟨(by show 3 ≤ sizeLine; decide), fun p np => ?_⟩⟩
      exact q _ (.den nm db) _ _ ((d12.trans d3).add np) (.tup upd_same (.cons (.str _) (.cons (.str nm) (.cons (tb.mono (Tk.new np)) .nil)))) ⟨(EB.nice eb).1, (EB.nice eb).2⟩ (.den (nm_good _ hnm) eb) hnm
abbrev dItem (P : Program) (w : World) (K : PySem.W.Frag) (mg : Str → Option Value) (base : Heap) : Prop := Def P w K mg base "_law_item" 7 ["state"] spItem
end
end KV

namespace KV
open PySem PySem.Spec PyProof.Rows L2 KA
/-- an item with bytes -/
def PI (i : It1) : Prop := okI i ∧ (∃ b, EI i b) ∧ (keyI i).2.1 ∈ NM8
theorem PI.okL {js : List It1} (h : ∀ i ∈ js, PI i) : OkL js := fun i hi => (h i hi).1
theorem mem_putI' {its : List It1} {i x : It1} (h : x ∈ putI its i) : x ∈ its ∨ x = i := by
  unfold putI at h
  rw [List.mem_append, List.mem_append, List.mem_filter, List.mem_filter, List.mem_singleton] at h
  rcases h with (h | h) | h
  · exact .inl h.1
  · exact .inr h
  · exact .inl h.1
theorem mem_puts' : ∀ {js its : List It1} {x : It1}, x ∈ puts its js → x ∈ its ∨ x ∈ js
  | [], its, x, h => .inl h
  | j :: js, its, x, h => by
    rcases mem_puts' (js := js) (its := putI its j) h with h | h
    · rcases mem_putI' h with h | h
      · exact .inl h
      · exact .inr (by rw [h]; exact List.mem_cons_self)
    · exact .inr (List.mem_cons_of_mem _ h)
theorem PI.puts {js : List It1} (h : ∀ i ∈ js, PI i) : ∀ i ∈ puts [] js, PI i := fun i hi => by
  rcases mem_puts' hi with c | c
  · cases c
  · exact h i c
theorem bytes_of : ∀ {js : List It1}, (∀ i ∈ js, ∃ b, EI i b) → ∃ bs, Els EItem (js.map itD) bs
  | [], _ => ⟨[], .nil⟩
  | j :: js, h => by
    obtain ⟨b, hb⟩ := h j List.mem_cons_self
    obtain ⟨bs, hbs⟩ := bytes_of (js := js) fun i hi => h i (List.mem_cons_of_mem _ hi)
    exact ⟨b :: bs, .cons (.mk hb) hbs⟩
theorem few_of {js : List It1} (h : ∀ i ∈ js, (keyI i).2.1 ∈ NM8) : Few js := ⟨NM8, by decide, h⟩
/-- the key of an item with bytes -/
theorem EC.key {i : It1} {b : List Int} (h : EI i b) : ∃ c, EC (.tuple [.str "goes", kdI i]) c := by
  cases h with
  | rel h0 h1 => exact ⟨_, .goes (k := 0) (by decide) h0 (.mk .nil (Nat.zero_le _))⟩
  | fact h0 h1 => exact ⟨_, .goes (k := 1) (by decide) h0 h1⟩
  | rule h0 _ _ _ => exact ⟨_, .goes (k := 2) (by decide) h0 (.mk .nil (Nat.zero_le _))⟩
  | den h0 _ => exact ⟨_, .goes (k := 3) (by decide) h0 (.mk .nil (Nat.zero_le _))⟩
section
variable {P : Program} {w : World} {K : PySem.W.Frag} {mg : Str → Option Value} {base : Heap} {C : Addr}
abbrev sIs : Stmt := topS 49
abbrev nIs : List Str := ["state", "most", "items", "ordered", "item", "k"]
theorem scIs : FnScope nIs ["state", "most"] (defScope sIs) := ⟨rfl, rfl, rfl, by decide +kernel, rfl, by decide +kernel, by decide +kernel⟩
def spIs : Sp := fun vs H Q _ => ∃ (st L : Addr) (m : Int), vs = [.ref st, .int m] ∧ Good st L H ∧ 0 ≤ m ∧ m ≤ 100 ∧ ∀ (p a b : Addr) js xs ys H', Dr st L H H' → H a = none → H b = none → H' p = some (.tup [.ref a, .ref b]) → H' a = some (.lst xs) → Tps H' xs (js.map itD) → H' b = some (.lst ys) → Tps H' ys ((puts [] js).map itD) → (∀ i ∈ js, PI i) → js.length ≤ m.toNat → Q (.ref p) H'
theorem ok_is {f0 : Addr} {fd : FuncData} (F0 : Fun K "_law_items" "_law_items" sIs f0 fd) (B : Bt mg) (DN : dNext P w K mg base) (DDI : dItem P w K mg base) (DPl : dPl P w K mg base) : FnOk P w K mg base CX0 8 f0 fd ["state", "most"] spIs := by
  refine F0.ok scIs (fun vs H Q E h => ?_) (fun cdv A outer s H vs Q E hr h => ?_)
  · obtain ⟨_, _, _, rfl, _⟩ := h
    rfl
  · obtain ⟨st, L, m, rfl, g, m0, m1, q⟩ := h
    refine ⟨_, (pss_cons (ps_setLc (i := 2) (own := [("k", 5)]) (g := (gName 5)) (tt := tYes) (te := (tCall spItem [] E0 (tCons (tVar 0) tNil))) (by rfl) scIs.nd rfl rfl (sw_true rfl rfl rfl (by decide +kernel)) (pi_range1 (by rfl) B.rng (pa_cons (pe_def DN (hr.mono (by decide)) (by rfl) (pa_cons (pv 0) (pa_cons (pe_op op_add (pv 1) pe_int) pa_nil))) pa_nil)) (blkOk_by (own := [("k", 5)]) (N := nIs) (sc := defScope sIs) (by decide +kernel)) (fun _ _ _ _ _ => (pg_name (i := 5) scIs.nd rfl (Or.inl rfl))) (fun _ _ _ _ _ => pts_nil) (fun _ _ _ _ _ => (pe_def DDI (hr.mono (by decide)) (by rfl) (pa_cons (pv 0) pa_nil))))
      (pss_cons (ps_set (i := 3) scIs.nd rfl (.inl rfl) (pe_lst pa_nil))
      (pss_cons (ps_for PassesOwn.never rfl (pi_list (pv 2)) (pg_name (i := 4) scIs.nd rfl (Or.inl rfl))
        (pss_one (ps_set (i := 3) scIs.nd rfl (.inl rfl) (pe_def DPl (hr.mono (by decide)) (by rfl) (pa_cons (pv 3) (pa_cons (pv 4) pa_nil))))))
      (pss_one (ps_ret (pe_tup (pa_cons (pv 2) (pa_cons (pv 3) pa_nil)))))))), ?_⟩
    refine ⟨.ref st, rfl, .int m, rfl, m, 1, rfl, rfl, st, L, m + 1, rfl, g, by omega, by omega, fun n H1 d1 n0 n1 => ⟨n, rfl, by omega, by omega, fun D nD => ?_⟩⟩
    have nDs : D ≠ st := fun z => d1.good.not_none (by rw [← z]; exact nD)
    refine lc_range (lo := 0) (n := n.toNat) (fun i H' => Dr st L H1 H' ∧ ∃ ys js, H' D = some (.lst ys) ∧ Tps H' ys (js.map itD) ∧ js.length = i ∧ ∀ x ∈ js, PI x) ⟨Dr.new d1.good nD, [], [], upd_same, .nil, rfl, (fun i hi => by cases hi)⟩ (fun i H' hi hP => ?_) (fun H2 hP => ?_)
    · obtain ⟨dd, ys, js, eD, tp, lj, oj⟩ := hP
      refine ⟨rfl, ?_⟩
      refine iteT (B := True) ?_
      refine ⟨.ref st, rfl, st, L, rfl, dd.good, fun v j b H3 d3 tv ov eb hnm => ?_⟩
      have eD3 := d3.at_ nDs eD
      have ly : ys.length = i := by rw [tp.length, List.length_map, lj]
      refine ⟨ys, eD3, small1000 (by omega), (dd.trans d3).put d1.good nD, ys ++ [v], js ++ [j], upd_same, ?_, ?_, ?_⟩
      · rw [List.map_append]
        exact ((tp.mono (d3.tk dd.good)).mono (Tk.lst eD3)).append (.cons (tv.mono (Tk.lst eD3)) .nil)
      · rw [List.length_append, lj]
        rfl
      · intro x hx
        rcases List.mem_append.mp hx with h | h
        · exact oj x h
        · rw [List.mem_singleton.mp h]
          exact ⟨ov, ⟨b, eb⟩, hnm⟩
    obtain ⟨dd, ys, js, eD, tp, lj, pj⟩ := hP
    have oj := PI.okL pj
    have d2 := d1.trans dd
    refine ⟨Nat.zero_le _, fun O nO => ?_⟩
    have eD2 : (upd H2 O (.lst [])) D = some (.lst ys) := (same_new nO) _ _ eD
    have tpO := tp.mono (Tk.new (o := .lst []) nO)
    have nOH : H O = none := d2.free nO
    have dO := d2.add (o := .lst []) nO
    have eO : (upd H2 O (.lst [])) O = some (.lst []) := upd_same
    have ly : ys.length = js.length := by rw [tp.length, List.length_map]
    have nDH : H D = none := d1.free nD
    revert eD2 tpO dO eO
    generalize upd H2 O (.lst []) = H3
    intro eD2 tpO dO eO
    refine ⟨.ref D, rfl, D, rfl, ⟨ys, SqL.of eD2⟩, ?_⟩
    refine for_list (K := K) (a := D) (xs := ys) (fun i σ H' => (∃ o x4, σ = [some (.ref st), some (.int m), some (.ref D), some (.ref o), x4, none] ∧ H o = none ∧ ∃ zs, H' o = some (.lst zs) ∧ Tps H' zs ((puts [] (js.take i)).map itD)) ∧ Same H3 H') ⟨⟨O, none, rfl, nOH, [], eO, .nil⟩, Same.refl _⟩ (fun i σ H' _ hP => SqL.of (hP.2 _ _ eD2)) (fun i x σ H' hx hP => ?_) (fun σ H' hP => ?_)
    · obtain ⟨⟨o, x4, rfl, no, zs, eo, tz⟩, sm⟩ := hP
      obtain ⟨j, ej, tj⟩ := item_get tpO hx
      have hi : i < js.length := (List.getElem?_eq_some_iff.mp ej).1
      obtain ⟨p1, p2, p3⟩ := puts_ok (js := js.take i) (its := []) (fun x hx => oj x (List.mem_of_mem_take hx)) List.Pairwise.nil (fun i hi => by cases hi)
      rw [List.length_take, List.length_nil] at p3
      refine ⟨.ref o, rfl, x, rfl, o, x, j, _, zs, rfl, eo, tz, tj.mono (Tk.of sm), p2, oj j (List.mem_of_getElem? ej), by omega, fun L2 ys2 H4 s4 nL2 eL2 t2 => ?_⟩
      refine ⟨⟨L2, _, rfl, ?_, ys2, eL2, ?_⟩, sm.trans s4⟩
      · exact dO.free (sm.free nL2)
      · rw [puts_take ej]
        exact t2
    · obtain ⟨⟨o, x4, rfl, no, zs, eo, tz⟩, sm⟩ := hP
      refine ⟨.ref D, rfl, .ref o, rfl, (by show 2 ≤ sizeLine; decide), fun p np => ?_⟩
      rw [ly, List.take_length] at tz
      exact q p D o js ys zs _ ((dO.trans (Dr.same dO.good sm)).add np) nDH no upd_same ((same_new np) _ _ (sm _ _ eD2)) ((tpO.mono (Tk.of sm)).mono (Tk.new np)) ((same_new np) _ _ eo) (tz.mono (Tk.new np)) pj (by omega)
abbrev dIs (P : Program) (w : World) (K : PySem.W.Frag) (mg : Str → Option Value) (base : Heap) : Prop := Def P w K mg base "_law_items" 8 ["state", "most"] spIs
abbrev sAC : Stmt := topS 63
abbrev nAC : List Str := ["state", "most", "changes", "k", "item"]
theorem scAC : FnScope nAC ["state", "most"] (defScope sAC) := ⟨rfl, rfl, rfl, by decide +kernel, rfl, by decide +kernel, by decide +kernel⟩
def spAC : Sp := fun vs H Q _ => ∃ (st L : Addr) (m : Int), vs = [.ref st, .int m] ∧ Good st L H ∧ 0 ≤ m ∧ m ≤ 100 ∧ ∀ (D : Addr) xs ds bs H', Dr st L H H' → H D = none → H' D = some (.lst xs) → Tps H' xs ds → Els EC ds bs → ds.length ≤ m.toNat → Q (.ref D) H'
theorem ok_ac {f0 : Addr} {fd : FuncData} (F0 : Fun K "_law_any_changes" "_law_any_changes" sAC f0 fd) (B : Bt mg) (DN : dNext P w K mg base) (DDI : dItem P w K mg base) (DLK : dLK P w K mg base) : FnOk P w K mg base CX0 8 f0 fd ["state", "most"] spAC := by
  refine F0.ok scAC (fun vs H Q E h => ?_) (fun cdv A outer s H vs Q E hr h => ?_)
  · obtain ⟨_, _, _, rfl, _⟩ := h
    rfl
  · obtain ⟨st, L, m, rfl, g, m0, m1, q⟩ := h
    refine ⟨_, (pss_cons (ps_set (i := 2) scAC.nd rfl (.inl rfl) (pe_lst pa_nil))
      (pss_cons (ps_for PassesOwn.never rfl (pi_range1 (by rfl) B.rng (pa_cons (pe_def DN (hr.mono (by decide)) (by rfl) (pa_cons (pv 0) (pa_cons (pe_op op_add (pv 1) pe_int) pa_nil))) pa_nil)) (pg_name (i := 3) scAC.nd rfl (Or.inl rfl))
        (pss_cons (ps_set (i := 4) scAC.nd rfl (.inl rfl) (pe_def DDI (hr.mono (by decide)) (by rfl) (pa_cons (pv 0) pa_nil)))
        (pss_one (ps_expr (pe_bm PySem.F.plainAttrs_list PySem.F.slot_list_append PySem.F.type_list_append mt_append (pv 2) (pa_cons (pe_ix ix_list (pe_lst (pa_cons (pe_tup (pa_cons pe_str (pa_cons (pv 4) pa_nil))) (pa_cons (pe_tup (pa_cons pe_str (pa_cons (pe_def DLK (hr.mono (by decide)) (by rfl) (pa_cons (pv 4) pa_nil)) pa_nil))) pa_nil))) (pe_def DN (hr.mono (by decide)) (by rfl) (pa_cons (pv 0) (pa_cons pe_int pa_nil))) (fun _ _ => rfl)) pa_nil))))))
      (pss_one (ps_ret (pv 2))))), ?_⟩
    refine ⟨Nat.zero_le _, fun D nD => ?_⟩
    have d0 := Dr.new (o := .lst []) g nD
    have nDs : D ≠ st := fun z => g.not_none (by rw [← z]; exact nD)
    refine ⟨.ref st, rfl, .int m, rfl, m, 1, rfl, rfl, st, L, m + 1, rfl, d0.good, by omega, by omega, fun n H1 d1 n0 n1 => ⟨n, rfl, by omega, by omega, ?_⟩⟩
    have eD1 := d1.at_ nDs upd_same
    refine for_range (lo := 0) (n := n.toNat) (fun i σ H' => Dr st L H H' ∧ ∃ x3 x4 ys ds bs, σ = [some (.ref st), some (.int m), some (.ref D), x3, x4] ∧ H' D = some (.lst ys) ∧ Tps H' ys ds ∧ ds.length = i ∧ Els EC ds bs) ⟨d0.trans d1, none, none, [], [], [], rfl, eD1, .nil, rfl, .nil⟩ (fun i σ H' hi hP => ?_) (fun σ H' hP => ?_)
    · obtain ⟨dd, x3, x4, ys, ds, bs, rfl, eD, tp, ld, els⟩ := hP
      refine ⟨.ref st, rfl, st, L, rfl, dd.good, fun v j b H3 d3 tv ov eb hnm => ?_⟩
      have eD3 := d3.at_ nDs eD
      have d03 := dd.trans d3
      have tp3 := tp.mono (d3.tk dd.good)
      have ly : ys.length = i := by rw [tp.length, ld]
      refine ⟨.ref D, rfl, .inl ⟨rfl, _, SqL.of eD3⟩, v, rfl, (by show 2 ≤ sizeLine; decide), fun p1 np1 => ?_⟩
      have s1 : Same H3 (upd H3 p1 (.tup [.str "comes", v])) := same_new np1
      refine ⟨v, rfl, v, j, rfl, tv.mono (Tk.of s1), ov, fun r H5 s5 tr => ⟨(by show 2 ≤ sizeLine; decide), fun p2 np2 => ⟨(by show 2 ≤ sizeLine; decide), fun l nl => ?_⟩⟩⟩
      have s2 : Same H5 (upd H5 p2 (.tup [.str "goes", .ref r])) := same_new np2
      have s3 := s2.trans (same_new nl (o := .lst [.ref p1, .ref p2]))
      have s35 := s1.trans (s5.trans s3)
      have g6 := Dr.same d3.good s35
      refine ⟨.ref st, rfl, st, L, 2, rfl, g6.good, by decide, by decide, fun w6 H7 d7 z0 z1 => ?_⟩
      have nls : l ≠ st := fun z => (Dr.same d3.good (s1.trans (s5.trans s2))).good.not_none (by rw [← z]; exact nl)
      have el7 := d7.at_ nls upd_same
      have tk7 := d7.tk g6.good
      have ep1 := tk7 _ _ ((s5.trans s3) _ _ (upd_same (H := H3) (a := p1) (o := .tup [.str "comes", v])))
      have ep2 := tk7 _ _ ((same_new nl (o := .lst [.ref p1, .ref p2])) _ _ (upd_same (H := H5) (a := p2) (o := .tup [.str "goes", .ref r])))
      have tx7 := (tv.mono (Tk.of s35)).mono tk7
      have tr7 := (tr.mono (Tk.of s3)).mono tk7
      have eb7 := d7.at_ nDs (s35 _ _ eD3)
      have tp7 := (tp3.mono (Tk.of s35)).mono tk7
      have d07 := (d03.trans g6).trans d7
      have fin : ∀ (c : PyData) (bc : List Int) (y : V), EC c bc → Tp H7 y c → Dr st L H (upd H7 D (.lst (ys ++ [y]))) ∧ ∃ x3 x4 ys2 ds2 bs2, [some (.ref st), some (.int m), some (.ref D), some (.int (0 + (i : Int))), some v] = [some (.ref st), some (.int m), some (.ref D), x3, x4] ∧ (upd H7 D (.lst (ys ++ [y]))) D = some (.lst ys2) ∧ Tps (upd H7 D (.lst (ys ++ [y]))) ys2 ds2 ∧ ds2.length = i + 1 ∧ Els EC ds2 bs2 := fun c bc y hc ty => by
        refine ⟨d07.put g nD, _, _, ys ++ [y], ds ++ [c], bs ++ [bc], rfl, upd_same, (tp7.mono (Tk.lst eb7)).append (.cons (ty.mono (Tk.lst eb7)) .nil), ?_, els.app (.cons hc .nil)⟩
        rw [List.length_append, ld]
        rfl
      obtain ⟨ck, hck⟩ := EC.key eb
      rcases (show w6 = 0 ∨ w6 = 1 by omega) with e6 | e6
      · subst e6
        exact ⟨l, _, 0, .ref p1, rfl, rfl, SqL.of el7, rfl, D, ys, .ref p1, rfl, rfl, eb7, small1000 (by omega), fin _ _ (.ref p1) (.comes (.mk eb)) (.tup ep1 (.cons (.str _) (.cons tx7 .nil)))⟩
      · subst e6
        exact ⟨l, _, 1, .ref p2, rfl, rfl, SqL.of el7, rfl, D, ys, .ref p2, rfl, rfl, eb7, small1000 (by omega), fin _ _ (.ref p2) hck (.tup ep2 (.cons (.str _) (.cons tr7 .nil)))⟩
    · obtain ⟨dd, x3, x4, ys, ds, bs, rfl, eD, tp, ld, els⟩ := hP
      exact ⟨.ref D, rfl, q D ys ds bs _ dd nD eD tp els (by omega)⟩
abbrev dAC (P : Program) (w : World) (K : PySem.W.Frag) (mg : Str → Option Value) (base : Heap) : Prop := Def P w K mg base "_law_any_changes" 8 ["state", "most"] spAC
end
end KV

namespace KV
open PySem PySem.Spec PyProof.Rows L2 KA
theorem SortedI.take_lt {l : List It1} (s : SortedI l) {k : Nat} {i : It1} (e : l[k]? = some i) : ∀ x ∈ l.take k, kc (keyI x) (keyI i) < 0 := fun x hx => by
  obtain ⟨j, hj, e2⟩ := List.getElem_of_mem hx
  rw [List.length_take] at hj
  rw [List.getElem_take] at e2
  obtain ⟨hi, e3⟩ := List.getElem?_eq_some_iff.mp e
  rw [← e2, ← e3]
  exact List.pairwise_iff_getElem.mp s j k (by omega) hi (by omega)
theorem puts_sorted {l : List It1} (s : SortedI l) : ∀ k, k ≤ l.length → puts [] (l.take k) = l.take k
  | 0, _ => rfl
  | k + 1, h => by
    have e : l[k]? = some l[k] := List.getElem?_eq_getElem h
    rw [puts_take e, puts_sorted s k (by omega), take_next e]
    have lt := s.take_lt e
    unfold putI
    rw [List.filter_eq_self.mpr (fun x hx => decide_eq_true (lt x hx)), List.filter_eq_nil_iff.mpr (fun x hx => by rw [decide_eq_false (by have := lt x hx; omega)]; decide), List.append_nil]
theorem puts_self {l : List It1} (s : SortedI l) : puts [] l = l := by
  have := puts_sorted s l.length (Nat.le_refl _)
  rwa [List.take_length] at this
theorem puts_twice {l : List It1} (o : OkL l) : puts [] (puts [] l) = puts [] l := puts_self (puts_ok (js := l) (its := []) o List.Pairwise.nil (fun i hi => by cases hi)).1
/-- the facts of 'many' -/
def many1 (k : Nat) : It1 := .fact "many" [.int (k : Int), .str "row"]
def manyI (n : Nat) : List It1 := (List.range n).map many1
theorem many_lt {a b : Nat} (h : a < b) : ltI (many1 a) (many1 b) := by
  refine kc_lt_iff.mpr (.inr ⟨rfl, .inr ⟨rfl, ?_⟩⟩)
  show rord [.int (a : Int), .str "row"] [.int (b : Int), .str "row"] < 0
  rw [rord, if_pos (show bf (.int (a : Int)) (.int (b : Int)) = true from decide_eq_true (by omega))]
  decide
theorem many_sorted (n : Nat) : SortedI (manyI n) := by
  refine List.pairwise_map.mpr ?_
  exact List.Pairwise.imp (fun h => many_lt h) List.pairwise_lt_range
theorem many_len (n : Nat) : (manyI n).length = n := by
  unfold manyI
  rw [List.length_map, List.length_range]
theorem many_good : GoodS "many" := goodS_of (by decide +kernel)
theorem many_EI {k : Nat} (h : k < 1000) : ∃ b, EI (many1 k) b := by
  have hk : ((k : Int)).natAbs < big := by rw [big_eq]; omega
  have els : Els EV [.int (k : Int), .str "row"] _ := .cons (.int _ hk) (.cons (.str "row" (goodS_of (by decide +kernel))) .nil)
  exact ⟨_, .fact many_good (.mk els (by show 2 ≤ 5; decide))⟩
theorem many_ok (k : Nat) : okI (many1 k) := by
  refine ⟨fun d hd => ?_, by show 2 ≤ 1000; decide⟩
  rcases List.mem_cons.mp hd with h | hd
  · rw [h]; trivial
  · rcases List.mem_cons.mp hd with h | hd
    · rw [h]; trivial
    · cases hd
end KV

namespace KV
open PySem PySem.Spec PyProof.Rows L2 KA
section
variable {σ : L2.St} {H : Hp} {K : PySem.W.Frag} {i j : Nat} {E : Rel} {a : Addr} {ds : List PyData} {bs : List (List Int)} {xs : List V} {dvs : XK}
/-- the bytes of a list of things -/
theorem yl_listed (h : σ[i]? = some (some (.ref a))) (ea : H a = some (.lst xs)) (ts : Tps H xs ds) (els : Els E ds bs) (hn : bs.length ≤ 1000) (hj : j < σ.length) (fl : bs.flatten.length ≤ 8000000) :
    Yl (tCall spWL [] dvs (tCons (tLc (iList K (tVar i)) (gName j) tYes (tCall (spW E) [] E0 (tCons (tVar j) tNil)) [j]) tNil)) σ H (encL bs) := fun Q q =>
  yl_mapL (K := K) (yv_var h) ea ts els (by rw [els.length]; exact hn) hj (fun x H1 => spWL ([x] ++ []) H1 Q dvs) fun D acc H' s' eD il => ⟨D, acc, bs, rfl, eD, il, fl, hn, fun p2 H3 s3 n3 e3 => q p2 H3 (s'.trans s3) (back_none s' n3) e3⟩
end
/-- items as an image takes them -/
structure ImI (js os : List It1) : Prop where
  ok : OkL js
  by_ : ∀ i ∈ js, ∃ b, EI i b
  len : js.length ≤ 400
  few : Few js
  put : puts [] js = os
theorem ImI.bytes {js os : List It1} (h : ImI js os) : ∃ bs, Els EItem (js.map itD) bs ∧ bs.length ≤ 400 ∧ bs.flatten.length ≤ 400 * 5400 ∧ (encL bs).length ≤ 18 + 400 * 5400 := by
  obtain ⟨bs, els⟩ := bytes_of h.by_
  have l := els.length
  rw [List.length_map] at l
  have l4 := h.len
  have f := flat_len (m := 5400) (bs := bs) fun b hb => by obtain ⟨d, hd⟩ := els.all.2 b hb; exact hd.len.2
  have f2 : bs.flatten.length ≤ 400 * 5400 := Nat.le_trans f (Nat.mul_le_mul_right _ (by omega))
  refine ⟨bs, els, by omega, f2, ?_⟩
  unfold encL
  rw [List.length_append]
  have := encN_len18 (n := bs.length) (Nat.lt_of_le_of_lt (show bs.length ≤ 400 by omega) (by decide))
  omega
theorem ImI.many {n : Nat} (h : n ≤ 400) : ImI (manyI n) (manyI n) := by
  refine ⟨fun i hi => ?_, fun i hi => ?_, by rw [many_len]; exact h, ⟨["many"], by decide, fun i hi => ?_⟩, puts_self (many_sorted n)⟩
  · obtain ⟨k, _, rfl⟩ := List.mem_map.mp hi
    exact many_ok k
  · obtain ⟨k, hk, rfl⟩ := List.mem_map.mp hi
    exact many_EI (by have := List.mem_range.mp hk; omega)
  · obtain ⟨k, _, rfl⟩ := List.mem_map.mp hi
    exact List.mem_singleton.mpr rfl
theorem ImI.drawn {js : List It1} (h : ∀ i ∈ js, PI i) (l : js.length ≤ 400) : ImI js (puts [] js) := ⟨PI.okL h, fun i hi => (h i hi).2.1, l, few_of fun i hi => (h i hi).2.2, rfl⟩
theorem ImI.os {js os : List It1} (h : ImI js os) : ImI os os := by
  have hp := puts_ok (js := js) (its := []) h.ok List.Pairwise.nil (fun i hi => by cases hi)
  rw [h.put] at hp
  have mem : ∀ i ∈ os, i ∈ js := fun i hi => by
    rw [← h.put] at hi
    rcases mem_puts' hi with c | c
    · cases c
    · exact c
  refine ⟨hp.2.1, fun i hi => h.by_ i (mem i hi), ?_, ?_, puts_self hp.1⟩
  · have h2 := hp.2.2
    have h3 := h.len
    rw [List.length_nil] at h2
    omega
  · obtain ⟨NM, l, hn⟩ := h.few
    exact ⟨NM, l, fun i hi => hn i (mem i hi)⟩
section
variable {P : Program} {w : World} {K : PySem.W.Frag} {mg : Str → Option Value} {base : Heap} {C CS : Addr}
abbrev dSt (P : Program) (w : World) (K : PySem.W.Frag) (mg : Str → Option Value) (base : Heap) (C : Addr) : Prop := Def P w K mg base "_law_is_state" 11 ["actual", "ordered"] (spSt C)
abbrev sIM : Stmt := topS 67
abbrev nIM : List Str := ["state", "tail", "items", "ordered", "commits", "due", "mixed", "data", "reader", "told", "k", "item"]
theorem scIM : FnScope nIM ["state", "tail"] (defScope sIM) := ⟨rfl, rfl, rfl, by decide +kernel, rfl, by decide +kernel, by decide +kernel⟩
def spIM : Sp := fun vs H Q _ => ∃ (st L tl : Addr) (ts : List Int), vs = [.ref st, .ref tl] ∧ Good st L H ∧ tl ≠ st ∧ H tl = some (.lst (ts.map V.int)) ∧ ts.length ≤ 1000 ∧ ∀ H', Q (.bl true) H'
theorem ok_im {f0 : Addr} {fd : FuncData} (F0 : Fun K "_law_image" "_law_image" sIM f0 fd) (B : Bt mg) (T : Cr K mg C) (TS : Cs K mg CS) (MK : MkSt P w K mg base CS) (MKR : MkR P w K mg base C) (DN : dNext P w K mg base) (DIs : dIs P w K mg base) (DCN : dCN P w K mg base) (DCLd : dCLd P w K mg base) (DCI : dCI P w K mg base) (DWIm : dWIm P w K mg base CS) (DSB : dSB P w K mg base) (DSame : dSame P w K mg base) (DSt : dSt P w K mg base CS) (DEN : dEN P w K mg base C) (MRim : mRim P w K mg base C CS) : FnOk P w K mg base CX0 13 f0 fd ["state", "tail"] spIM := by
  refine F0.ok scIM (fun vs H Q E h => ?_) (fun cdv A outer s0 H vs Q E hr h => ?_)
  · obtain ⟨_, _, _, _, rfl, _⟩ := h
    rfl
  · obtain ⟨st, L, tl, ts, rfl, g, nts, et, lt, q⟩ := h
    refine ⟨_, (pss_cons (ps_asg (pe_def DIs (hr.mono (by decide)) (by rfl) (pa_cons (pv 0) (pa_cons pe_int pa_nil))) (pg_tup rfl (pgs_cons (pg_name (i := 2) scIM.nd rfl (Or.inl rfl)) (pgs_cons (pg_name (i := 3) scIM.nd rfl (Or.inl rfl)) pgs_nil))))
      (C8.pss_cut (ps_if (pt_cmpR op_eq (pe_def DN (hr.mono (by decide)) (by rfl) (pa_cons (pv 0) (pa_cons pe_int pa_nil))) pe_int (nomark _))
        (pss_cons (ps_setLc (i := 2) (own := [("k", 10)]) (g := (gName 10)) (tt := tYes) (te := (tTup (tCons (tC (.str "fact")) (tCons (tC (.str "many")) (tCons (tTup (tCons (tVar 10) (tCons (tC (.str "row")) tNil))) tNil))))) (by rfl) scIM.nd rfl rfl (sw_true rfl rfl rfl (by decide +kernel)) (pi_range1 (by rfl) B.rng (pa_cons (pe_op op_add pe_int (pe_def DN (hr.mono (by decide)) (by rfl) (pa_cons (pv 0) (pa_cons pe_int pa_nil)))) pa_nil)) (blkOk_by (own := [("k", 10)]) (N := nIM) (sc := defScope sIM) (by decide +kernel)) (fun _ _ _ _ _ => (pg_name (i := 10) scIM.nd rfl (Or.inl rfl))) (fun _ _ _ _ _ => pts_nil) (fun _ _ _ _ _ => (pe_tup (pa_cons pe_str (pa_cons pe_str (pa_cons (pe_tup (pa_cons (pv 10) (pa_cons pe_str pa_nil))) pa_nil))))))
        (pss_one (ps_set (i := 3) scIM.nd rfl (.inl rfl) (pe_callTy call_lstK (by rfl) B.lst (by decide +kernel) (pa_cons (pv 2) pa_nil)))))
        pss_nil)
      (pss_cons (ps_set (i := 4) scIM.nd rfl (.inl rfl) (pe_ix ix_list (pe_lst (pa_cons (pe_def DN (hr.mono (by decide)) (by rfl) (pa_cons (pv 0) (pa_cons pe_int pa_nil))) (pa_cons (pe_def DN (hr.mono (by decide)) (by rfl) (pa_cons (pv 0) (pa_cons (pe_op op_pow pe_int pe_int) pa_nil))) pa_nil))) (pe_def DN (hr.mono (by decide)) (by rfl) (pa_cons (pv 0) (pa_cons pe_int pa_nil))) (fun _ _ => rfl)))
      (pss_cons (ps_set (i := 5) scIM.nd rfl (.inl rfl) (pe_op op_cat (pe_def DCN (hr.mono (by decide)) (by rfl) (pa_cons (pv 4) pa_nil)) (pe_def DCLd (hr.mono (by decide)) (by rfl) (pa_cons (pe_lc (own := [("item", 11)]) (g := (gName 11)) (tt := tYes) (te := (tCall (spW EItem) [] E0 (tCons (tVar 11) tNil))) rfl scIM.nd (pi_list (pv 3)) (blkOk_by (own := [("item", 11)]) (N := nIM) (sc := defScope sIM) (by decide +kernel)) (fun _ _ _ _ _ => (pg_name (i := 11) scIM.nd rfl (Or.inl rfl))) (fun _ _ _ _ _ => pts_nil) (fun _ _ _ _ _ => (pe_def DCI (hr.mono (by decide)) (by rfl) (pa_cons (pv 11) pa_nil)))) pa_nil))))
      (pss_cons (ps_if (pt_not (pt_val (pe_def DSB (hr.mono (by decide)) (by rfl) (pa_cons (pe_def DWIm (hr.mono (by decide)) (by rfl) (pa_cons (pv 4) (pa_cons (pe_mk1 MK (hr.mono (by decide)) (by rfl) TS.mgC (pa_cons (pv 2) pa_nil)) pa_nil))) (pa_cons (pv 5) pa_nil)))))
        (pss_one (ps_ret pe_bl))
        pss_nil)
      (pss_cons (ps_set (i := 6) scIM.nd rfl (.inl rfl) (pe_op op_cat (pe_def DCN (hr.mono (by decide)) (by rfl) (pa_cons (pv 4) pa_nil)) (pe_def DCLd (hr.mono (by decide)) (by rfl) (pa_cons (pe_lc (own := [("item", 11)]) (g := (gName 11)) (tt := tYes) (te := (tCall (spW EItem) [] E0 (tCons (tVar 11) tNil))) rfl scIM.nd (pi_list (pv 2)) (blkOk_by (own := [("item", 11)]) (N := nIM) (sc := defScope sIM) (by decide +kernel)) (fun _ _ _ _ _ => (pg_name (i := 11) scIM.nd rfl (Or.inl rfl))) (fun _ _ _ _ _ => pts_nil) (fun _ _ _ _ _ => (pe_def DCI (hr.mono (by decide)) (by rfl) (pa_cons (pv 11) pa_nil)))) pa_nil))))
      (pss_cons (ps_for PassesOwn.never rfl (pi_list (pe_lst (pa_cons (pv 5) (pa_cons (pv 6) pa_nil)))) (pg_name (i := 7) scIM.nd rfl (Or.inl rfl))
        (pss_cons (ps_set (i := 8) scIM.nd rfl (.inl rfl) (pe_mkR MKR (hr.mono (by decide)) (by rfl) T.mgC (pa_cons (pe_op op_cat (pv 7) (pv 1)) pa_nil)))
        (pss_cons (ps_set (i := 9) scIM.nd rfl (.inl rfl) (pe_mdef0 MRim (pv 8) T.cl (hr.mono (by decide))))
        (pss_cons (ps_if (PW.pt (pw_or (pt_not (pt_val (pe_callB call_isi (by rfl) B.isi (by decide +kernel) (pa_cons (pv 9) (pa_cons (pe_bltn (v := .ty "tuple") (u := .type "tuple") (by rfl) B.tup (by decide +kernel) rfl) pa_nil))))) (pw_or (pt_cmpR op_ne (pe_callB call_len_seq (by rfl) B.len PySem.boot_len (pa_cons (pv 9) pa_nil)) pe_int (nomark _)) (pw_or1 (pt_not (pt_val (pe_def DSame (hr.mono (by decide)) (by rfl) (pa_cons (pe_ix ix_tup (pv 9) pe_int (fun _ _ => rfl)) (pa_cons (pv 4) pa_nil)))))))))
          (pss_one (ps_ret pe_bl))
          pss_nil)
        (pss_one (ps_if (PW.pt (pw_or (pt_not (pt_val (pe_def DSt (hr.mono (by decide)) (by rfl) (pa_cons (pe_ix ix_tup (pv 9) pe_int (fun _ _ => rfl)) (pa_cons (pv 3) pa_nil))))) (pw_or (pt_not (pt_val (pe_def DSame (hr.mono (by decide)) (by rfl) (pa_cons (pe_fld (pv 8) rfl) (pa_cons (pe_callB call_len_seq (by rfl) B.len PySem.boot_len (pa_cons (pv 7) pa_nil)) pa_nil))))) (pw_or1 (pt_not (pt_val (pe_def DEN (hr.mono (by decide)) (by rfl) (pa_cons (pv 8) (pa_cons (pv 1) pa_nil)))))))))
          (pss_one (ps_ret pe_bl))
          pss_nil))))))
      (pss_one (ps_ret pe_bl))))))))), ?_⟩
    refine ⟨.ref st, rfl, st, L, 12, rfl, g, by decide, by decide, fun p a b js xs ys H1 d1 na nb ep ea tx eb ty pj lj => ?_⟩
    refine ⟨p, _, rfl, SqT.of ep, rfl, _, _, rfl, _, _, rfl, rfl, ?_⟩
    have nne : ∀ {c : Addr}, H c = none → c ≠ st := fun {c} hc z => g.not_none (by rw [← z]; exact hc)
    refine ⟨fun σ H' => ∃ I O js xs ys x10, σ = [some (.ref st), some (.ref tl), some (.ref I), some (.ref O), none, none, none, none, none, none, x10, none] ∧ Dr st L H H' ∧ H' I = some (.lst xs) ∧ Tps H' xs (js.map itD) ∧ H' O = some (.lst ys) ∧ Tps H' ys ((puts [] js).map itD) ∧ ImI js (puts [] js) ∧ I ≠ st ∧ O ≠ st, ?_, ?_⟩
    · refine ⟨.ref st, rfl, st, L, 12, rfl, d1.good, by decide, by decide, fun v H2 d2 v0 v1 => ⟨rfl, _, rfl, ite2 (fun c => ?_) (fun c => ?_)⟩⟩
      · have d12 := d1.trans d2
        refine ⟨.ref st, rfl, st, L, 160, rfl, d2.good, by decide, by decide, fun u H3 d3 u0 u1 => ⟨120, u, rfl, rfl, 120 + u, rfl, by omega, by omega, fun D nD => ?_⟩⟩
        obtain ⟨k, rfl⟩ := nat_of u0
        have d13 := d12.trans d3
        have nDs : D ≠ st := nne (d13.free nD)
        refine lc_range (lo := 0) (n := (120 + (k : Int)).toNat) (fun i H' => Same H3 H' ∧ ∃ ys, H' D = some (.lst ys) ∧ Tps H' ys ((manyI i).map itD)) ⟨same_new nD, [], upd_same, .nil⟩ (fun i H' hi hP => ?_) (fun H4 hP => ?_)
        · obtain ⟨sm, ys, eD, tp⟩ := hP
          refine ⟨rfl, ?_⟩
          refine iteT (B := True) ?_
          refine ⟨_, rfl, (by show 2 ≤ sizeLine; decide), fun p1 n1 => ⟨(by show 3 ≤ sizeLine; decide), fun p2 n2 => ?_⟩⟩
          have s1 := same_new (o := HO.tup [.int (0 + (i : Int)), .str "row"]) n1
          have s2 := same_new (o := HO.tup [.str "fact", .str "many", .ref p1]) n2
          have eD2 := s2 _ _ (s1 _ _ eD)
          have ly := tp.length
          rw [List.length_map, many_len] at ly
          refine ⟨ys, eD2, small1000 (by omega), same_put (sm.trans (s1.trans s2)) nD, ys ++ [.ref p2], upd_same, ?_⟩
          have e : manyI (i + 1) = manyI i ++ [many1 i] := by
            unfold manyI
            rw [List.range_succ, List.map_append]
            rfl
          rw [e, List.map_append]
          refine ((tp.mono (Tk.of (s1.trans s2))).mono (Tk.lst eD2)).append (.cons ?_ .nil)
          have t1 : Tp (upd (upd H' p1 (.tup [.int (0 + (i : Int)), .str "row"])) p2 (.tup [.str "fact", .str "many", .ref p1])) (.ref p2) (itD (many1 i)) := .tup upd_same (.cons (.str _) (.cons (.str _) (.cons (.tup (s2 _ _ upd_same) (.cons (by rw [Int.zero_add]; exact .int _) (.cons (.str _) .nil))) .nil)))
          exact t1.mono (Tk.lst eD2)
        · obtain ⟨sm, ys, eD, tp⟩ := hP
          refine ⟨.ref D, rfl, D, _, rfl, .inl (SqL.of eD), fun l nl => ?_⟩
          have sl := same_new (o := HO.lst ys) nl
          have im := ImI.many (n := (120 + (k : Int)).toNat) (by omega)
          have t2 := tp.mono (Tk.of sl)
          have dl := d13.trans (Dr.same d3.good (sm.trans sl))
          refine ⟨D, l, manyI (120 + (k : Int)).toNat, ys, ys, _, rfl, dl, sl _ _ eD, t2, upd_same, by rw [im.put]; exact t2, by rw [im.put]; exact im, nDs, nne ((d13.trans (Dr.same d3.good sm)).free nl)⟩
      · have tk2 := d2.tk d1.good
        exact ⟨a, b, js, xs, ys, none, rfl, d1.trans d2, d2.at_ (nne na) ea, tx.mono tk2, d2.at_ (nne nb) eb, ty.mono tk2, ImI.drawn pj (by omega), nne na, nne nb⟩
    · rintro σ H2 ⟨I, O, js, xs, ys, x10, rfl, d2, eI, tI, eO, tO, im, nI, nO⟩
      refine ⟨.ref st, rfl, st, L, 200, rfl, d2.good, by decide, by decide, fun c1 H3 d3 c10 c11 => ⟨.ref st, rfl, 10, 12, rfl, rfl, ⟨by decide, by decide, by decide⟩, st, L, _, rfl, d3.good, by decide, by decide, fun c2 H4 d4 c20 c21 => ⟨(by show 2 ≤ sizeLine; decide), fun p np => ?_⟩⟩⟩
      have d24 := (d2.trans d3).trans d4
      have d5 := d24.add (o := .lst [.int c1, .int c2]) np
      have nps : p ≠ st := nne (d24.free np)
      refine ⟨.ref st, rfl, st, L, 2, rfl, d5.good, by decide, by decide, fun c3 H6 d6 c30 c31 => ?_⟩
      have c21' : c2 < 1000000000000 := c21
      obtain ⟨n, en, hn⟩ : ∃ n : Nat, atI [V.int c1, .int c2] c3 = some (.int (n : Int)) ∧ n < big := by
        obtain ⟨m1, rfl⟩ := nat_of c10
        obtain ⟨m2, rfl⟩ := nat_of c20
        rw [big_eq]
        rcases (show c3 = 0 ∨ c3 = 1 by omega) with rfl | rfl
        · exact ⟨m1, rfl, by omega⟩
        · exact ⟨m2, rfl, by omega⟩
      refine ⟨p, _, c3, .int (n : Int), rfl, rfl, SqL.of (d6.at_ nps upd_same), en, ?_⟩
      have d26 : Dr st L H2 H6 := by
        have := (Dr.refl d2.good).trans ((d3.trans d4).trans ((Dr.new (o := .lst [.int c1, .int c2]) d4.good np).trans d6))
        exact this
      have tk26 := d26.tk d2.good
      have eI6 := d26.at_ nI eI
      have eO6 := d26.at_ nO eO
      have tI6 := tI.mono tk26
      have tO6 := tO.mono tk26
      have et6 := (d2.trans d26).at_ nts et
      obtain ⟨bI, elI, lI, fI, lenI⟩ := im.bytes
      obtain ⟨bO, elO, lO, fO, lenO⟩ := im.os.bytes
      have l18 := encN_len18 hn
      clear tk26 d26 c21' c21 c20 c11 c10 en d5 d24 eI eO tI tO
      refine (yl_cat (a := encN n) (b := encL bO) (yl_num (yv_var rfl) hn) (fun H' s => yl_listed (K := K) (i := 3) (j := 11) rfl (s _ _ eO6) (tO6.mono (Tk.of s)) elO (by omega) (by show 11 < 12; decide) (by omega)) (by omega)) _ fun pd Hd sd nd ed => ?_
      refine ⟨_, rfl, .ref I, rfl, fun x dx nx ndx ne => ?_⟩
      have smx : Same Hd (upd (upd Hd dx (.own x)) x (.ins CS dx [])) := same_put (same_new ndx) nx
      have sdx := sd.trans smx
      refine ⟨x, dx, I, js, rfl, upd_same, .inr ⟨xs, sdx _ _ eI6, tI6.mono (Tk.of sdx)⟩, im.ok, im.len, fun He F ke _ ste => ⟨rfl, ?_⟩⟩
      have sde : Same Hd He := fun c o h => ke c o (smx c o h) (fun z => by rw [z, nx] at h; cases h)
      have s6e := sd.trans sde
      refine ⟨n, x, puts [] js, F, 2 * js.length, bO, rfl, hn, ste, by have := im.len; omega, im.os.len, im.os.few, elO, fun pw Hf sf nf ef => ⟨.ref pd, rfl, ?_⟩⟩
      have s6f := s6e.trans sf
      refine ⟨pw, pd, _, _, _, _, rfl, ef, (sde.trans sf) _ _ ed, ints_tps _, ints_tps _, ints_nice _, ints_nice _, ints_depth _, by rw [List.length_map, List.length_append]; omega, ?_⟩
      rw [nice_plain.all_plain (ints_nice _)]
      refine ⟨true, rfl, iteF' rfl ?_⟩
      refine (yl_cat (a := encN n) (b := encL bI) (yl_num (yv_var rfl) hn) (fun H' s => yl_listed (K := K) (i := 2) (j := 11) rfl ((s6f.trans s) _ _ eI6) (tI6.mono (Tk.of (s6f.trans s))) elI (by omega) (by show 11 < 12; decide) (by omega)) (by omega)) _ fun pm Hg sg ng eg => ?_
      have s6g := s6f.trans sg
      have edg := ((sde.trans sf).trans sg) _ _ ed
      refine ⟨.ref pd, rfl, .ref pm, rfl, (by show 2 ≤ sizeLine; decide), fun pl npl => ?_⟩
      have sgl := same_new (o := HO.lst [.ref pd, .ref pm]) npl
      have eH : ∃ H0, H0 = upd Hg pl (.lst [.ref pd, .ref pm]) := ⟨_, rfl⟩
      obtain ⟨H0, eH0⟩ := eH
      rw [← eH0] at sgl ⊢
      have epl : H0 pl = some (.lst [.ref pd, .ref pm]) := by rw [eH0]; exact upd_same
      have s60 := s6g.trans sgl
      refine ⟨pl, rfl, ⟨_, SqL.of epl⟩, ?_⟩
      refine for_list (K := K) (a := pl) (xs := [.ref pd, .ref pm]) (fun i σ H' => (∃ x7 x8 x9 y10, σ = [some (.ref st), some (.ref tl), some (.ref I), some (.ref O), some (.int (n : Int)), some (.ref pd), some (.ref pm), x7, x8, x9, y10, none]) ∧ Same H0 H') ⟨⟨_, _, _, _, rfl⟩, Same.refl _⟩ (fun i σ H' _ hP => SqL.of (hP.2 _ _ epl)) (fun i x σ H' hx hP => ?_) (fun σ H' hP => ?_)
      · obtain ⟨⟨x7, x8, x9, y10, rfl⟩, s0⟩ := hP
        have s6 := s60.trans s0
        obtain ⟨D, bs, js', rfl, eD, els, im', lbs⟩ : ∃ D bs js', x = .ref D ∧ H' D = some (.lst ((encN n ++ encL bs).map V.int)) ∧ Els EItem (js'.map itD) bs ∧ ImI js' (puts [] js) ∧ (encL bs).length ≤ 18 + 400 * 5400 := by
          rcases i with _ | _ | i
          · cases hx
            exact ⟨pd, bO, _, rfl, (sgl.trans s0) _ _ edg, elO, im.os, lenO⟩
          · cases hx
            exact ⟨pm, bI, _, rfl, (sgl.trans s0) _ _ eg, elI, im, lenI⟩
          · cases hx
        have hxs : ∃ bb, bb = encN n ++ encL bs := ⟨_, rfl⟩
        obtain ⟨bb, ebb⟩ := hxs
        have lbb : bb.length ≤ 3000000 := by rw [ebb, List.length_append]; omega
        rw [← ebb] at eD
        refine ⟨.ref D, rfl, .ref tl, rfl, rcat_ints eD (s6 _ _ et6) (by omega) fun Pa Ha sa na ea => fun r dr nr ndr ner => ⟨r, dr, Pa, bb ++ ts, rfl, upd_same, (same_put (same_new ndr) nr) _ _ ea, by rw [List.length_append]; omega, fun d Hb kb ndd rd => ⟨rfl, ?_⟩⟩⟩
        have sab : Same Ha Hb := fun c o h => kb c o (fun z => by rw [z, nr] at h; cases h) ((same_put (same_new ndr) nr) c o h)
        have s6b := s6.trans (sa.trans sab)
        refine ⟨.ref r, rfl, r, dr, _, rfl, rd.hr, rfl, r, dr, d, bb ++ ts, 0, n, js', bs, rfl, rd, ⟨[], ts, by rw [ebb]; rfl, rfl⟩, hn, els, im'.ok, im'.len, fun pt s F' Hc kc rdc ept stc => ?_⟩
        rw [← ebb, Nat.zero_add] at rdc
        rw [im'.put] at stc
        have nr0 : H' r = none := by
          cases z : H' r with
          | none => rfl
          | some o => rw [sa _ _ z] at nr; cases nr
        have s0c : Same H' Hc := fun c o h => kc c o (fun z => by rw [z, nr0] at h; cases h) ((sa.trans sab) c o h)
        have s6c := s6.trans s0c
        refine ⟨.ref pt, rfl, .ref pt, .ty "tuple", _, _, true, rfl, .ty "tuple", .base (.tup ept), kit_ty (by decide +kernel), true, rfl, iteF' rfl ?_⟩
        refine ⟨.ref pt, rfl, pt, _, rfl, .inr (SqT.of ept), rfl, _, rfl, iteNS rfl ?_⟩
        refine ⟨.ref pt, rfl, pt, _, 0, .int (n : Int), rfl, rfl, SqT.of ept, rfl, .int (n : Int), rfl, int_same (Q := fun x H1 => ∃ c, x = .bl c ∧ _) ⟨true, rfl, iteF' rfl ?_⟩⟩
        refine ⟨.ref pt, rfl, pt, _, 1, .ref s, rfl, rfl, SqT.of ept, rfl, .ref O, rfl, s, O, puts [] js, ys, F', 2 * js'.length, rfl, stc, by have := im'.len; omega, im.os.len, im.os.few, s6c _ _ eO6, tO6.mono (Tk.of s6c), fun Hj sj => ⟨true, rfl, iteF' rfl ?_⟩⟩
        have rdj := rdc.same sj
        have s0j := s0c.trans sj
        refine ⟨.ref r, rfl, r, C, dr, _, .int (bb.length : Int), rfl, rdj.hr, T.cl, T.nA, rfl, .ref D, rfl, D, _, rfl, .inl (SqL.of (s0j _ _ eD)), ?_⟩
        rw [List.length_map]
        refine int_same (Q := fun x H1 => ∃ c, x = .bl c ∧ _) ⟨true, rfl, iteF' rfl ?_⟩
        exact ⟨.ref r, rfl, .ref tl, rfl, r, dr, d, tl, bb ++ ts, _, bb.length, rfl, rdj, (s6.trans s0j) _ _ et6, by rw [List.length_map, List.length_append], by rw [List.length_map]; exact lt, fun Hk sk => ⟨true, rfl, iteF' rfl ⟨⟨_, _, _, _, rfl⟩, s0.trans (s0j.trans sk)⟩⟩⟩
      · exact q H'
abbrev dIM (P : Program) (w : World) (K : PySem.W.Frag) (mg : Str → Option Value) (base : Heap) : Prop := Def P w K mg base "_law_image" 13 ["state", "tail"] spIM
end
end KV

namespace KV
open PySem PySem.Spec PyProof.Rows L2 KA
theorem len4 {a b c d : V} : [a, b, c, d].length ≤ sizeLine := by show 4 ≤ sizeLine; decide
section
variable {σ : L2.St} {H : Hp} {tl : Addr} {ts : List Int} {Q : VK}
theorem asks_one {E : Rel} {fm : Str} {t : TE} {v : V} {d : PyData} {b : List Int} (f : Fm fm E) (hv : ∀ H', Same H H' → Yv t σ H' v) (h2 : σ[2]? = some (some (.ref tl))) (et : H tl = some (.lst (ts.map V.int))) (lt : ts.length ≤ 1000) (td : Tp H v d) (he : E d b) (lb : b.length ≤ 7000000) (q : ∀ H', Same H H' → Q (.bl true) H') :
    tCall spAS [] E0 (tCons (tC (.str fm)) (tCons t (tCons (tCall (spW E) [] E0 (tCons t tNil)) (tCons (tCall (spW E) [] E0 (tCons t tNil)) (tCons (tVar 2) tNil))))) σ H Q :=
  hv H (Same.refl _) _ (hv H (Same.refl _) _ ⟨v, d, b, rfl, td, he, fun p1 H1 s1 n1 e1 => hv H1 s1 _ ⟨v, d, b, rfl, td.mono (Tk.of s1), he, fun p2 H2 s2 n2 e2 => ⟨.ref tl, h2, fm, v, p1, p2, tl, b, ts, rfl, .inl ⟨E, d, f, he, td.mono (Tk.of (s1.trans s2))⟩, s2 _ _ e1, e2, (s1.trans s2) _ _ et, lb, lt, fun H3 s3 => q H3 ((s1.trans s2).trans s3)⟩⟩⟩)
theorem asks_num {i n : Nat} (hv : σ[i]? = some (some (.int (n : Int)))) (hn : n < big) (h2 : σ[2]? = some (some (.ref tl))) (et : H tl = some (.lst (ts.map V.int))) (lt : ts.length ≤ 1000) (q : ∀ H', Same H H' → Q (.bl true) H') :
    tCall spAS [] E0 (tCons (tC (.str "number")) (tCons (tVar i) (tCons (tCall spWN [] E0 (tCons (tVar i) tNil)) (tCons (tCall spWN [] E0 (tCons (tVar i) tNil)) (tCons (tVar 2) tNil))))) σ H Q :=
  ⟨_, hv, _, hv, n, rfl, hn, fun p1 H1 s1 n1 e1 => ⟨_, hv, n, rfl, hn, fun p2 H2 s2 n2 e2 => ⟨.ref tl, h2, "number", _, p1, p2, tl, encN n, ts, rfl, .inl ⟨EN, _, .number, .mk hn, .int _⟩, s2 _ _ e1, e2, (s1.trans s2) _ _ et, by have := encN_len18 hn; omega, lt, fun H3 s3 => q H3 ((s1.trans s2).trans s3)⟩⟩⟩
end
theorem tps_rep {H : Hp} {v : V} {d : PyData} (t : Tp H v d) : ∀ n, Tps H (List.replicate n [v]).flatten (List.replicate n d)
  | 0 => .nil
  | n + 1 => by
    rw [List.replicate_succ, List.flatten_cons, List.replicate_succ]
    exact .cons t (tps_rep t n)
theorem els_rep {E : Rel} {d : PyData} {b : List Int} (h : E d b) : ∀ n, Els E (List.replicate n d) (List.replicate n b)
  | 0 => .nil
  | n + 1 => .cons h (els_rep h n)
section
variable {P : Program} {w : World} {K : PySem.W.Frag} {mg : Str → Option Value} {base : Heap} {C CS : Addr}
def spLaw (K : PySem.W.Frag) : Sp := fun vs H Q _ => ∃ (a : Addr) (ns : List Int), vs = [.ref a] ∧ SqL K H a (ns.map V.int) ∧ ns.length ≤ 63 ∧ ∀ H', Q (.bl true) H'
abbrev sLaw : Stmt := topS 68
abbrev nLaw : List Str := ["script", "state", "tail", "number", "k", "value", "row", "body", "item", "changes", "due", "change"]
theorem scLaw : FnScope nLaw ["script"] (defScope sLaw) := ⟨rfl, rfl, rfl, by decide +kernel, rfl, by decide +kernel, by decide +kernel⟩
theorem ok_law {f0 : Addr} {fd : FuncData} (F0 : Fun K "law" "law" sLaw f0 fd) (B : Bt mg) (DN : dNext P w K mg base) (DDV : dVal P w K mg base) (DDRw : dRow P w K mg base) (DDB : dBody P w K mg base) (DDI : dItem P w K mg base) (DAC : dAC P w K mg base) (DAS : dAS P w K mg base) (DIM : dIM P w K mg base) (DWN : dWN P w K mg base) (DCN : dCN P w K mg base) (DWV : dWV P w K mg base) (DCV : dCV P w K mg base) (DWR : dWR P w K mg base) (DCR : dCR P w K mg base) (DWB : dWB P w K mg base) (DCB : dCB P w K mg base) (DWI : dWI P w K mg base) (DCI : dCI P w K mg base) (DWC : dWC P w K mg base) (DCC : dCC P w K mg base) (DWCs : dWCs P w K mg base) (DCLd : dCLd P w K mg base) : FnOk P w K mg base CX0 15 f0 fd ["script"] (spLaw K) := by
  refine F0.ok scLaw (fun vs H Q E h => ?_) (fun cdv A outer s0 H vs Q E hr h => ?_)
  · obtain ⟨a, ns, rfl, _⟩ := h
    rfl
  · obtain ⟨sc, ns, rfl, hS, hlen, q⟩ := h
    refine ⟨_, (pss_cons (ps_set (i := 1) scLaw.nd rfl (.inr rfl) (pe_lst (pa_cons (pe_callTy call_list_of (by rfl) B.lst (by decide +kernel) (pa_cons (pv 0) pa_nil)) (pa_cons pe_int (pa_cons pe_int (pa_cons pe_int pa_nil))))))
      (pss_cons (ps_setLc (i := 2) (own := [("k", 4)]) (g := (gName 4)) (tt := tYes) (te := (tCall spNext [] E0 (tCons (tVar 1) (tCons (tC (.int 256)) tNil)))) (by rfl) scLaw.nd rfl rfl (sw_true rfl rfl rfl (by decide +kernel)) (pi_range1 (by rfl) B.rng (pa_cons (pe_def DN (hr.mono (by decide)) (by rfl) (pa_cons (pv 1) (pa_cons pe_int pa_nil))) pa_nil)) (blkOk_by (own := [("k", 4)]) (N := nLaw) (sc := defScope sLaw) (by decide +kernel)) (fun _ _ _ _ _ => (pg_name (i := 4) scLaw.nd rfl (Or.inl rfl))) (fun _ _ _ _ _ => pts_nil) (fun _ _ _ _ _ => (pe_def DN (hr.mono (by decide)) (by rfl) (pa_cons (pv 1) (pa_cons pe_int pa_nil)))))
      (pss_cons (ps_set (i := 3) scLaw.nd rfl (.inl rfl) (pe_ix ix_list (pe_lst (pa_cons pe_int (pa_cons pe_int (pa_cons pe_int (pa_cons pe_int (pa_cons (pe_def DN (hr.mono (by decide)) (by rfl) (pa_cons (pv 1) (pa_cons (pe_op op_pow pe_int pe_int) pa_nil))) pa_nil)))))) (pe_def DN (hr.mono (by decide)) (by rfl) (pa_cons (pv 1) (pa_cons pe_int pa_nil))) (fun _ _ => rfl)))
      (pss_cons (ps_if (pt_not (pt_val (pe_def DAS (hr.mono (by decide)) (by rfl) (pa_cons pe_str (pa_cons (pv 3) (pa_cons (pe_def DWN (hr.mono (by decide)) (by rfl) (pa_cons (pv 3) pa_nil)) (pa_cons (pe_def DCN (hr.mono (by decide)) (by rfl) (pa_cons (pv 3) pa_nil)) (pa_cons (pv 2) pa_nil))))))))
        (pss_one (ps_ret pe_bl))
        pss_nil)
      (pss_cons (ps_for PassesOwn.never rfl (pi_range1 (by rfl) B.rng (pa_cons pe_int pa_nil)) (pg_name (i := 4) scLaw.nd rfl (Or.inl rfl))
        (pss_cons (ps_set (i := 5) scLaw.nd rfl (.inl rfl) (pe_def DDV (hr.mono (by decide)) (by rfl) (pa_cons (pv 1) pa_nil)))
        (pss_cons (ps_if (pt_not (pt_val (pe_def DAS (hr.mono (by decide)) (by rfl) (pa_cons pe_str (pa_cons (pv 5) (pa_cons (pe_def DWV (hr.mono (by decide)) (by rfl) (pa_cons (pv 5) pa_nil)) (pa_cons (pe_def DCV (hr.mono (by decide)) (by rfl) (pa_cons (pv 5) pa_nil)) (pa_cons (pv 2) pa_nil))))))))
          (pss_one (ps_ret pe_bl))
          pss_nil)
        (pss_cons (ps_set (i := 6) scLaw.nd rfl (.inl rfl) (pe_def DDRw (hr.mono (by decide)) (by rfl) (pa_cons (pv 1) (pa_cons (pe_def DN (hr.mono (by decide)) (by rfl) (pa_cons (pv 1) (pa_cons pe_int pa_nil))) pa_nil))))
        (pss_cons (ps_if (pt_not (pt_val (pe_def DAS (hr.mono (by decide)) (by rfl) (pa_cons pe_str (pa_cons (pv 6) (pa_cons (pe_def DWR (hr.mono (by decide)) (by rfl) (pa_cons (pv 6) pa_nil)) (pa_cons (pe_def DCR (hr.mono (by decide)) (by rfl) (pa_cons (pv 6) pa_nil)) (pa_cons (pv 2) pa_nil))))))))
          (pss_one (ps_ret pe_bl))
          pss_nil)
        (pss_cons (ps_set (i := 7) scLaw.nd rfl (.inl rfl) (pe_def DDB (hr.mono (by decide)) (by rfl) (pa_cons (pv 1) pa_nil)))
        (pss_cons (ps_if (pt_not (pt_val (pe_def DAS (hr.mono (by decide)) (by rfl) (pa_cons pe_str (pa_cons (pv 7) (pa_cons (pe_def DWB (hr.mono (by decide)) (by rfl) (pa_cons (pv 7) pa_nil)) (pa_cons (pe_def DCB (hr.mono (by decide)) (by rfl) (pa_cons (pv 7) pa_nil)) (pa_cons (pv 2) pa_nil))))))))
          (pss_one (ps_ret pe_bl))
          pss_nil)
        (pss_cons (ps_set (i := 8) scLaw.nd rfl (.inl rfl) (pe_def DDI (hr.mono (by decide)) (by rfl) (pa_cons (pv 1) pa_nil)))
        (pss_one (ps_if (pt_not (pt_val (pe_def DAS (hr.mono (by decide)) (by rfl) (pa_cons pe_str (pa_cons (pv 8) (pa_cons (pe_def DWI (hr.mono (by decide)) (by rfl) (pa_cons (pv 8) pa_nil)) (pa_cons (pe_def DCI (hr.mono (by decide)) (by rfl) (pa_cons (pv 8) pa_nil)) (pa_cons (pv 2) pa_nil))))))))
          (pss_one (ps_ret pe_bl))
          pss_nil))))))))))
      (pss_cons (ps_set (i := 9) scLaw.nd rfl (.inl rfl) (pe_op op_cat (pe_def DAC (hr.mono (by decide)) (by rfl) (pa_cons (pv 1) (pa_cons pe_int pa_nil))) (pe_lst (pa_cons (pe_tup (pa_cons pe_str (pa_cons (pe_tup (pa_cons (pe_def DN (hr.mono (by decide)) (by rfl) (pa_cons (pv 1) (pa_cons pe_int pa_nil))) (pa_cons pe_str (pa_cons (pe_tup pa_nil) pa_nil)))) pa_nil))) pa_nil))))
      (C8.pss_cut (ps_if (pt_cmpR op_eq (pe_def DN (hr.mono (by decide)) (by rfl) (pa_cons (pv 1) (pa_cons pe_int pa_nil))) pe_int (nomark _))
        (pss_one (ps_set (i := 9) scLaw.nd rfl (.inl rfl) (pe_op op_rep (pe_lst (pa_cons (pe_ix ix_list (pv 9) pe_int (fun _ _ => rfl)) pa_nil)) pe_int)))
        pss_nil)
      (pss_cons (ps_if (pt_not (pt_val (pe_def DAS (hr.mono (by decide)) (by rfl) (pa_cons pe_str (pa_cons (pe_ix ix_list (pv 9) pe_int (fun _ _ => rfl)) (pa_cons (pe_def DWC (hr.mono (by decide)) (by rfl) (pa_cons (pe_ix ix_list (pv 9) pe_int (fun _ _ => rfl)) pa_nil)) (pa_cons (pe_def DCC (hr.mono (by decide)) (by rfl) (pa_cons (pe_ix ix_list (pv 9) pe_int (fun _ _ => rfl)) pa_nil)) (pa_cons (pv 2) pa_nil))))))))
        (pss_one (ps_ret pe_bl))
        pss_nil)
      (pss_cons (ps_set (i := 10) scLaw.nd rfl (.inl rfl) (pe_def DCLd (hr.mono (by decide)) (by rfl) (pa_cons (pe_lc (own := [("change", 11)]) (g := (gName 11)) (tt := tYes) (te := (tCall (spW EC) [] E0 (tCons (tVar 11) tNil))) rfl scLaw.nd (pi_list (pv 9)) (blkOk_by (own := [("change", 11)]) (N := nLaw) (sc := defScope sLaw) (by decide +kernel)) (fun _ _ _ _ _ => (pg_name (i := 11) scLaw.nd rfl (Or.inl rfl))) (fun _ _ _ _ _ => pts_nil) (fun _ _ _ _ _ => (pe_def DCC (hr.mono (by decide)) (by rfl) (pa_cons (pv 11) pa_nil)))) pa_nil)))
      (pss_one (ps_ret (pe_and (pe_def DAS (hr.mono (by decide)) (by rfl) (pa_cons pe_str (pa_cons (pv 9) (pa_cons (pe_def DWCs (hr.mono (by decide)) (by rfl) (pa_cons (pe_callTy call_list_of (by rfl) B.lst (by decide +kernel) (pa_cons (pv 9) pa_nil)) pa_nil)) (pa_cons (pv 10) (pa_cons (pv 2) pa_nil)))))) (pe_one (pe_def DIM (hr.mono (by decide)) (by rfl) (pa_cons (pv 1) (pa_cons (pv 2) pa_nil)))))))))))))))), ?_⟩
    refine ⟨.ref sc, rfl, sc, _, rfl, .inl hS, fun L nL => ?_⟩
    generalize hG : upd _ L _ = H1
    obtain ⟨s1, e1⟩ := gen_up hG nL
    clear hG
    refine ⟨len4, fun st nst => ?_⟩
    generalize hG : upd _ st _ = H2
    obtain ⟨s2, e2⟩ := gen_up hG nst
    clear hG
    have g : Good st L H2 := ⟨ns, 0, 0, 1, e2, s2 _ _ e1, by decide, by decide⟩
    clear e2 s2 e1 s1 nL nst hS
    have nne : ∀ {c : Addr}, H2 c = none → c ≠ st := fun {c} hc z => g.not_none (by rw [← z]; exact hc)
    -- the tail
    refine ⟨.ref st, rfl, st, L, 3, rfl, g, by decide, by decide, fun n H3 d3 n0 n1 => ⟨n, rfl, by omega, by omega, fun tl ntl => ?_⟩⟩
    have nts : tl ≠ st := nne (d3.free ntl)
    refine lc_range (lo := 0) (n := n.toNat) (fun i H' => Dr st L H3 H' ∧ ∃ ts : List Int, H' tl = some (.lst (ts.map V.int)) ∧ ts.length = i) ⟨Dr.new d3.good ntl, [], upd_same, rfl⟩ (fun i H' hi hP => ?_) (fun H4 hP => ?_)
    · obtain ⟨dd, ts, eT, lt⟩ := hP
      refine ⟨rfl, ?_⟩
      refine iteT (B := True) ?_
      refine ⟨.ref st, rfl, st, L, 256, rfl, dd.good, by decide, by decide, fun v H5 d5 v0 v1 => ?_⟩
      refine ⟨_, d5.at_ nts eT, by rw [sizeLine_eq, List.length_map]; omega, (dd.trans d5).put d3.good ntl, ts ++ [v], by rw [upd_same, List.map_append]; rfl, ?_⟩
      rw [List.length_append, lt]
      rfl
    obtain ⟨d4, ts, eT, lt⟩ := hP
    have lt3 : ts.length ≤ 1000 := by omega
    have g4 := d4.good
    clear nne d4 d3 ntl g n0 n1 lt
    -- the number
    refine ⟨.ref st, rfl, 10, 30, rfl, rfl, ⟨by decide, by decide, by decide⟩, st, L, _, rfl, g4, by decide, by decide, fun v3 H5 d5 w0 w1 => ?_⟩
    refine ⟨(by show 5 ≤ sizeLine; decide), fun p np => ?_⟩
    have d6 := d5.add (o := .lst [.int 127, .int 128, .int 16383, .int 16384, .int v3]) np
    have nps : p ≠ st := fun z => g4.not_none (by rw [← z]; exact d5.free np)
    refine ⟨.ref st, rfl, st, L, 5, rfl, d6.good, by decide, by decide, fun v5 H6 d7 x0 x1 => ?_⟩
    have ep := d7.at_ nps upd_same
    have w2 : v3 < 1000000000000000000000000000000 := w1
    obtain ⟨k, ey, hk⟩ : ∃ k : Nat, atI [V.int 127, .int 128, .int 16383, .int 16384, .int v3] v5 = some (.int (k : Int)) ∧ k < big := by
      obtain ⟨m3, rfl⟩ := nat_of w0
      rw [big_eq]
      have c5 : v5 = 0 ∨ v5 = 1 ∨ v5 = 2 ∨ v5 = 3 ∨ v5 = 4 := by omega
      rcases c5 with rfl | rfl | rfl | rfl | rfl
      · exact ⟨127, rfl, by omega⟩
      · exact ⟨128, rfl, by omega⟩
      · exact ⟨16383, rfl, by omega⟩
      · exact ⟨16384, rfl, by omega⟩
      · exact ⟨m3, rfl, by omega⟩
    refine ⟨p, _, v5, .int (k : Int), rfl, rfl, SqL.of ep, ey, ?_⟩
    have d46 := d6.trans d7
    have eT6 := d46.at_ nts eT
    have g6 := d46.good
    clear ey ep w2 w1 w0 x0 x1 d46 d7 d6 d5 np nps eT
    refine asks_num rfl hk rfl eT6 lt3 fun H7 s7 => ⟨true, rfl, iteF' rfl ?_⟩
    have g7 := (Dr.same g6 s7).good
    have eT7 := s7 _ _ eT6
    refine ⟨2, rfl, by decide, by decide, ?_⟩
    refine for_range (lo := 0) (n := (2 : Int).toNat) (fun i σ H' => Dr st L H7 H' ∧ ∃ x4 x5 x6 x7 x8, σ = [some (.ref sc), some (.ref st), some (.ref tl), some (.int (k : Int)), x4, x5, x6, x7, x8, none, none, none]) ⟨Dr.refl g7, _, _, _, _, _, rfl⟩ (fun i σ H' hi hP => ?_) (fun σ H' hP => ?_)
    · obtain ⟨d8, x4, x5, x6, x7, x8, rfl⟩ := hP
      refine ⟨.ref st, rfl, st, L, rfl, d8.good, fun v d Ha da ev td => ?_⟩
      obtain ⟨b, hb⟩ := ev
      have dA := d8.trans da
      refine asks_one .value (fun _ _ => yv_var rfl) rfl (dA.at_ nts eT7) lt3 (td _) hb (by have := hb.len; omega) fun Hb sb => ⟨true, rfl, iteF' rfl ?_⟩
      have dB := dA.trans (Dr.same dA.good sb)
      refine ⟨.ref st, rfl, .ref st, rfl, st, L, 6, rfl, dB.good, by decide, by decide, fun m Hc dc m0 m1 => ⟨st, L, m, rfl, dc.good, m0, by omega, fun pr ds bs Hd dd tr els ld => ?_⟩⟩
      have dD := dB.trans (dc.trans dd)
      have er : ERow (.tuple ds) (encL bs) := .mk els (by omega)
      refine asks_one .row (fun _ _ => yv_var rfl) rfl (dD.at_ nts eT7) lt3 tr er (by have := er.len; omega) fun He se => ⟨true, rfl, iteF' rfl ?_⟩
      have dE := dD.trans (Dr.same dD.good se)
      refine ⟨.ref st, rfl, st, L, rfl, dE.good, fun vb db bb Hf df tb eb => ?_⟩
      have dF := dE.trans df
      refine asks_one .body (fun _ _ => yv_var rfl) rfl (dF.at_ nts eT7) lt3 tb eb (by have := EB.len eb; omega) fun Hg sg => ⟨true, rfl, iteF' rfl ?_⟩
      have dG := dF.trans (Dr.same dF.good sg)
      refine ⟨.ref st, rfl, st, L, rfl, dG.good, fun vi it bi Hh dh ti oi ei hn => ?_⟩
      have dH := dG.trans dh
      refine asks_one .item (fun _ _ => yv_var rfl) rfl (dH.at_ nts eT7) lt3 ti (.mk ei) (by have := ei.len; omega) fun Hi si => ⟨true, rfl, iteF' rfl ?_⟩
      exact ⟨dH.trans (Dr.same dH.good si), _, _, _, _, _, rfl⟩
    · obtain ⟨d8, x4, x5, x6, x7, x8, rfl⟩ := hP
      have eT8 := d8.at_ nts eT7
      have g8 := d8.good
      clear d8 eT7 g7 s7 eT6 g6
      refine ⟨.ref st, rfl, st, L, 6, rfl, g8, by decide, by decide, fun D xs ds bs Ha da nD eD tD els ld => ?_⟩
      have nDs : D ≠ st := fun z => g8.not_none (by rw [← z]; exact nD)
      refine ⟨.ref st, rfl, st, L, 4, rfl, da.good, by decide, by decide, fun m Hb db m0 m1 => ?_⟩
      obtain ⟨mk, rfl⟩ := nat_of m0
      refine ⟨Nat.zero_le _, fun p0 n0 => ⟨(by show 3 ≤ sizeLine; decide), fun p1 n1 => ⟨(by show 2 ≤ sizeLine; decide), fun p2 n2 => ⟨(by show 1 ≤ sizeLine; decide), fun p3 n3 => ?_⟩⟩⟩⟩
      have s0 := same_new (o := HO.tup []) n0
      have s1 := same_new (o := HO.tup [.int (mk : Int), .str "a", .ref p0]) n1
      have s2 := same_new (o := HO.tup [.str "goes", .ref p1]) n2
      have s3 := same_new (o := HO.lst [.ref p2]) n3
      have s03 := s0.trans (s1.trans (s2.trans s3))
      have ecd : EC (.tuple [.str "goes", .tuple [.int (mk : Int), .str "a", .tuple []]]) ([1, (mk : Int)] ++ encS "a" ++ encL []) := .goes (by omega) (goodS_of (by decide +kernel)) (.mk .nil (Nat.zero_le _))
      have dC := (da.trans db).trans (Dr.same db.good s03)
      have eDb := db.at_ nDs eD
      have tDb := (tD.mono (db.tk da.good)).mono (Tk.of s03)
      have tp2 : Tp (upd (upd (upd (upd Hb p0 (.tup [])) p1 (.tup [.int (mk : Int), .str "a", .ref p0])) p2 (.tup [.str "goes", .ref p1])) p3 (.lst [.ref p2])) (.ref p2) (.tuple [.str "goes", .tuple [.int (mk : Int), .str "a", .tuple []]]) :=
        .tup (s3 _ _ upd_same) (.cons (.str _) (.cons (.tup (s3 _ _ (s2 _ _ upd_same)) (.cons (.int _) (.cons (.str _) (.cons (.tup (s3 _ _ (s2 _ _ (s1 _ _ upd_same))) .nil) .nil)))) .nil))
      have lx := tD.length
      refine ⟨D, p3, xs, [.ref p2], rfl, rfl, s03 _ _ eDb, upd_same, len8 (by rw [List.length_singleton]; omega), fun p4 n4 => ?_⟩
      generalize hG : upd _ p4 _ = Hc
      obtain ⟨s4, e4⟩ := gen_up hG n4
      clear hG
      have nps : p4 ≠ st := fun z => dC.good.not_none (by rw [← z]; exact n4)
      have gC := (Dr.same dC.good s4).good
      have eTc := s4 _ _ (dC.at_ nts eT8)
      have t4 := (tDb.append (.cons tp2 .nil)).mono (Tk.of s4)
      have els4 := els.app (.cons ecd .nil)
      have l4 : (ds ++ [PyData.tuple [.str "goes", .tuple [.int (mk : Int), .str "a", .tuple []]]]).length ≤ 130 := by rw [List.length_append, List.length_singleton]; omega
      have l5 : 1 ≤ (ds ++ [PyData.tuple [.str "goes", .tuple [.int (mk : Int), .str "a", .tuple []]]]).length := by rw [List.length_append, List.length_singleton]; omega
      revert t4 els4 l4 l5
      generalize ds ++ [PyData.tuple [.str "goes", .tuple [.int (mk : Int), .str "a", .tuple []]]] = d4
      generalize bs ++ [[1, (mk : Int)] ++ encS "a" ++ encL []] = b4
      intro t4 els4 l4 l5
      clear tp2 tDb dC ecd s03 s0 s1 s2 s3 n0 n1 n2 n3 n4 m0 m1 els ld eD eDb tD
      refine ⟨fun σ H' => ∃ Cc ys dd bb, σ = [some (.ref sc), some (.ref st), some (.ref tl), some (.int (k : Int)), x4, x5, x6, x7, x8, some (.ref Cc), none, none] ∧ Dr st L Hc H' ∧ Cc ≠ st ∧ H' Cc = some (.lst ys) ∧ Tps H' ys dd ∧ Els EC dd bb ∧ 1 ≤ dd.length ∧ dd.length ≤ 130, ?_, ?_⟩
      · refine ⟨.ref st, rfl, st, L, 10, rfl, gC, by decide, by decide, fun u Hd du u0 u1 => ⟨rfl, _, rfl, ite2 (fun c => ?_) (fun c => ?_)⟩⟩
        · have ed0 : d4[0]? = some (d4[0]'(by omega)) := List.getElem?_eq_getElem (by omega)
          obtain ⟨v0, ev0, tv0⟩ := t4.at_ ed0
          obtain ⟨b0, eb0, hb0⟩ := els4.get ed0
          refine ⟨.ref p4, rfl, p4, _, 0, v0, rfl, rfl, SqL.of (du.at_ nps e4), atI_nat (j := 0) ev0, (by show 1 ≤ sizeLine; decide), fun pa na => ?_⟩
          refine ⟨pa, 130, [v0], rfl, rfl, upd_same, by decide, by decide, (by show 1 * 130 ≤ sizeLine; decide), fun pb nb => ?_⟩
          have sa := same_new (o := HO.lst [v0]) na
          have sb := same_new (o := HO.lst (List.replicate (130 : Int).toNat [v0]).flatten) nb
          have sab := sa.trans sb
          have dab := du.trans (Dr.same du.good sab)
          refine ⟨pb, _, List.replicate 130 d4[0], List.replicate 130 b0, rfl, dab, fun z => gC.not_none (by rw [← z]; exact (du.trans (Dr.same du.good sa)).free nb), upd_same, tps_rep ((tv0.mono (du.tk gC)).mono (Tk.of sab)) 130, els_rep hb0 130, by rw [List.length_replicate]; decide, by rw [List.length_replicate]; decide⟩
        · exact ⟨p4, _, d4, b4, rfl, du, nps, du.at_ nps e4, t4.mono (du.tk gC), els4, l5, l4⟩
      · rintro σ H0 ⟨Cc, ys, dd, bb, rfl, d0, nC, eC, tC', elC, l1, l130⟩
        have eT0 := d0.at_ nts eTc
        have lbb := elC.length
        have ed0 : dd[0]? = some (dd[0]'(by omega)) := List.getElem?_eq_getElem (by omega)
        obtain ⟨v0, ev0, tv0⟩ := tC'.at_ ed0
        obtain ⟨b0, eb0, hb0⟩ := elC.get ed0
        refine asks_one .change (fun H' s' Q h => ⟨.ref Cc, rfl, Cc, ys, 0, v0, rfl, rfl, SqL.of (s' _ _ eC), atI_nat (j := 0) ev0, h⟩) rfl eT0 lt3 tv0 hb0 (by have := hb0.len; omega) fun Hd sd => ⟨true, rfl, iteF' rfl ?_⟩
        have fl := EC_flat elC (by omega)
        refine (yl_listed (K := K) (i := 9) (j := 11) (E := EC) rfl (sd _ _ eC) (tC'.mono (Tk.of sd)) elC (by omega) (by show 11 < 12; decide) fl) _ fun pd He se ne ee => ?_
        have sde := sd.trans se
        refine ⟨.ref Cc, rfl, .ref Cc, rfl, Cc, _, rfl, .inl (SqL.of (sde _ _ eC)), fun l nl => ?_⟩
        have sl := same_new (o := HO.lst ys) nl
        have sdl := sde.trans sl
        refine ⟨l, ys, dd, bb, rfl, upd_same, tC'.mono (Tk.of sdl), elC, by omega, fun pw Hw sw nw ew => ⟨.ref pd, rfl, .ref tl, rfl, ?_⟩⟩
        have sdw := sdl.trans sw
        refine ⟨"changes", .ref Cc, pw, pd, tl, encL bb, ts, rfl, .inr ⟨Cc, ys, dd, bb, rfl, rfl, elC, by omega, rfl, sdw _ _ eC, tC'.mono (Tk.of sdw)⟩, ew, (sl.trans sw) _ _ ee, sdw _ _ eT0, ?_, lt3, fun Hz sz => ⟨true, rfl, iteT' rfl ?_⟩⟩
        · have fb := flat_len (m := 5401) (bs := bb) fun b hb => by obtain ⟨d, hd⟩ := elC.all.2 b hb; exact hd.len.2
          have f2 : bb.length * 5401 ≤ 130 * 5401 := Nat.mul_le_mul_right _ (by omega)
          unfold encL
          rw [List.length_append]
          have := encN_len18 (n := bb.length) (Nat.lt_of_le_of_lt (show bb.length ≤ 130 by omega) (by decide))
          omega
        · exact ⟨.ref st, rfl, .ref tl, rfl, st, L, tl, ts, rfl, (Dr.same d0.good (sdw.trans sz)).good, nts, (sdw.trans sz) _ _ eT0, lt3, fun H' => q H'⟩
end
end KV

namespace KV
open PySem PySem.Spec PyProof.Rows L2 KA
/-- a def of the text stands behind the top under its name -/
def DefAt (K : PySem.W.Frag) (x : Str) (st : Stmt) : Prop :=
  ∃ (f : Addr) (od an : Option Addr) (sl : Array (Option Value)) (oc kV dc pm cd ct : Value),
    PySem.W.nsIn K mainGlobals x = some (some (.ref f)) ∧ K.lookup f = some ⟨oc, od, .func (PySem.W.fnOf x x (defArgs st) (defBody st) (defScope st) .none kV dc pm an cd ct), sl⟩ ∧
    PySem.W.codeIn K cd x = true ∧ PySem.W.keepIn K (.ref f) = true
theorem defAt {K : PySem.W.Frag} {x : Str} {st : Stmt} {f : Addr} {od an : Option Addr} {sl : Array (Option Value)} {oc kV dc pm cd ct : Value} (a : PySem.W.nsIn K mainGlobals x = some (some (.ref f)))
    (l : K.lookup f = some ⟨oc, od, .func (PySem.W.fnOf x x (defArgs st) (defBody st) (defScope st) .none kV dc pm an cd ct), sl⟩) (c : PySem.W.codeIn K cd x = true) (k : PySem.W.keepIn K (.ref f) = true) : DefAt K x st :=
  ⟨f, od, an, sl, oc, kV, dc, pm, cd, ct, a, l, c, k⟩
/-- a method of the class -/
def MethAt (K : PySem.W.Frag) (C : Addr) (x q : Str) (st : Stmt) : Prop :=
  ∃ (f : Addr) (od an : Option Addr) (sl : Array (Option Value)) (oc kV dc pm cd ct : Value),
    PySem.W.findIn K (.ref C) x = some (some (.ref f)) ∧ PySem.W.isFn K (.ref f) = true ∧ K.lookup f = some ⟨oc, od, .func (PySem.W.fnOf x q (defArgs st) (defBody st) (defScope st) .none kV dc pm an cd ct), sl⟩ ∧
    PySem.W.codeIn K cd q = true ∧ PySem.W.keepIn K (.ref f) = true
theorem methAt {K : PySem.W.Frag} {C : Addr} {x q : Str} {st : Stmt} {f : Addr} {od an : Option Addr} {sl : Array (Option Value)} {oc kV dc pm cd ct : Value} (a : PySem.W.findIn K (.ref C) x = some (some (.ref f))) (i : PySem.W.isFn K (.ref f) = true)
    (l : K.lookup f = some ⟨oc, od, .func (PySem.W.fnOf x q (defArgs st) (defBody st) (defScope st) .none kV dc pm an cd ct), sl⟩) (c : PySem.W.codeIn K cd q = true) (k : PySem.W.keepIn K (.ref f) = true) : MethAt K C x q st :=
  ⟨f, od, an, sl, oc, kV, dc, pm, cd, ct, a, i, l, c, k⟩
/-- __init__, whose one default is an empty tuple -/
def InitAt (K : PySem.W.Frag) (C : Addr) : Prop :=
  ∃ (f Td Ed : Addr) (od an : Option Addr) (sl : Array (Option Value)) (oc kV dc pm cd ct : Value) (cT : Value) (dT : Option Addr) (nT : Nat) (slT : Array (Option Value)) (dE : Option Addr) (nE : Nat) (slE : Array (Option Value)),
    PySem.W.findIn K (.ref C) "__init__" = some (some (.ref f)) ∧ PySem.W.isFn K (.ref f) = true ∧ K.lookup f = some ⟨oc, od, .func (PySem.W.fnOf "__init__" "State.__init__" (defArgs sInit) (defBody sInit) (defScope sInit) (.ref Td) kV dc pm an cd ct), sl⟩ ∧
    PySem.W.codeIn K cd "State.__init__" = true ∧ PySem.W.keepIn K (.ref f) = true ∧ K.lookup Td = some ⟨cT, dT, .seq #[.ref Ed] nT, slT⟩ ∧ K.lookup Ed = some ⟨.type "tuple", dE, .seq #[] nE, slE⟩
theorem initAt {K : PySem.W.Frag} {C f Td Ed : Addr} {od an : Option Addr} {sl : Array (Option Value)} {oc kV dc pm cd ct : Value} {cT : Value} {dT : Option Addr} {nT : Nat} {slT : Array (Option Value)} {dE : Option Addr} {nE : Nat} {slE : Array (Option Value)}
    (a : PySem.W.findIn K (.ref C) "__init__" = some (some (.ref f))) (i : PySem.W.isFn K (.ref f) = true) (l : K.lookup f = some ⟨oc, od, .func (PySem.W.fnOf "__init__" "State.__init__" (defArgs sInit) (defBody sInit) (defScope sInit) (.ref Td) kV dc pm an cd ct), sl⟩)
    (c : PySem.W.codeIn K cd "State.__init__" = true) (k : PySem.W.keepIn K (.ref f) = true) (t : K.lookup Td = some ⟨cT, dT, .seq #[.ref Ed] nT, slT⟩) (e : K.lookup Ed = some ⟨.type "tuple", dE, .seq #[] nE, slE⟩) : InitAt K C :=
  ⟨f, Td, Ed, od, an, sl, oc, kV, dc, pm, cd, ct, cT, dT, nT, slT, dE, nE, slE, a, i, l, c, k, t, e⟩
section
variable {P : Program} {w : World} {K : PySem.W.Frag} {mg : Str → Option Value} {base h : Heap} {C : Addr}
theorem mk_def {x : Str} {st : Stmt} {ps : List Str} {sp : Sp} {k : Nat} (T : DefAt K x st) (X : K.In h) (G : h.Ns mainGlobals mg)
    (bind : ∀ (kV doc pm : Value) (an : Option Addr) (cdv ct : Value) (us : List Value), us.length = ps.length → bindArgs (PySem.W.fnOf x x (defArgs st) (defBody st) (defScope st) .none kV doc pm an cdv ct) ⟨us, []⟩ = pure (ps.zip us))
    (ok : ∀ (f : Addr) (fd : FuncData), Fun K x x st f fd → FnOk P w K mg base CX0 k f fd ps sp) : Def P w K mg base x k ps sp := by
  obtain ⟨f, od, an, sl, oc, kV, dc, pm, cd, ct, a, l, c, kp⟩ := T
  have F := fun_mk l c kp
  exact ⟨f, _, ok f _ F, PySem.W.mg_of X G a, kp, F.binds bind⟩
theorem mk_meth {x q : Str} {st : Stmt} {ps : List Str} {sp : Sp} {k : Nat} (T : MethAt K C x q st)
    (bind : ∀ (kV doc pm : Value) (an : Option Addr) (cdv ct : Value) (us : List Value), us.length = ps.length → bindArgs (PySem.W.fnOf x q (defArgs st) (defBody st) (defScope st) .none kV doc pm an cdv ct) ⟨us, []⟩ = pure (ps.zip us))
    (ok : ∀ (f : Addr) (fd : FuncData), Fun K x q st f fd → FnOk P w K mg base CX0 k f fd ps sp) : MDef P w K mg base C x k ps sp := by
  obtain ⟨f, od, an, sl, oc, kV, dc, pm, cd, ct, a, i, l, c, kp⟩ := T
  have F := fun_mk l c kp
  exact ⟨f, _, ok f _ F, ⟨a, i, kp⟩, F.binds bind⟩
theorem mk_init (T : InitAt K C) (mkC : PySem.W.makesIn K C = true) (kc : PySem.W.keepIn K (.ref C) = true) (TC : Cs K mg C) (MP : mPut P w K mg base C) : MkSt P w K mg base C := by
  obtain ⟨f, Td, Ed, od, an, sl, oc, kV, dc, pm, cd, ct, cT, dT, nT, slT, dE, nE, slE, a, i, l, c, k, t, e⟩ := T
  have hD : DflV K (.ref Td) [V.ref Ed] := .inr ⟨(fun z => by cases z), Td, _, [.ref Ed], nT, rfl, t, rfl, .cons rfl .nil⟩
  have F : FunD K "__init__" "State.__init__" (defArgs sInit) (defBody sInit) (defScope sInit) [V.ref Ed] [] f _ := ⟨⟨oc, od, .ref Td, kV, dc, pm, an, cd, ct, sl, rfl, l, c, hD, .inl rfl⟩, k⟩
  obtain ⟨ds, v1, b1⟩ := F.binds1 (ps := ["self", "items"]) 1 0 (fun z => by cases z) rfl (fun T2 kV2 doc2 pm2 an2 cdv2 ct2 us its h1 h2 => match us, its, h1, h2 with | [_], [_], _, _ => ⟨_, rfl, rfl⟩)
  obtain ⟨ds2, v2, b2⟩ := F.binds1 (ps := ["self", "items"]) 2 1 (fun z => by cases z) rfl (fun T2 kV2 doc2 pm2 an2 cdv2 ct2 us its h1 h2 => match us, its, h1, h2 with | [_, _], [_], _, _ => ⟨_, rfl, rfl⟩)
  cases v2
  exact ⟨f, _, Ed, ds, ⟨mkC, a, i, kc⟩, ok_init F TC MP, b2, b1, v1, ⟨_, #[], nE, e, rfl, rfl, Nat.zero_le _, .nil⟩⟩
end
theorem exm_at {K : PySem.W.Frag} {S R : Addr} (h1 : PySem.W.subIn K (.ref R) (.type "BaseException") = some true) (h2 : PySem.W.isClsIn K R = true) (h3 : PySem.W.typeIn K (.ref R) = some (.type "type")) (h4 : PySem.W.subIn K (.ref S) (.ref R) = some true) :
    PySem.W.exmOne K (.ref S) (.ref R) = some true := by
  have e1 : (PySem.W.subIn K (.ref R) (.type "BaseException") == some true) = true := by rw [h1] <;> rfl
  have e2 : ((PySem.W.clsIn K R).isSome && PySem.W.typeIn K (.ref R) == some (.type "type")) = true := by
    have h2' : (PySem.W.clsIn K R).isSome = true := h2
    rw [h2', h3] <;> rfl
  show (if (PySem.W.subIn K (.ref R) (.type "BaseException") == some true) = true then (if ((PySem.W.clsIn K R).isSome && PySem.W.typeIn K (.ref R) == some (.type "type")) = true then PySem.W.subIn K (.ref S) (.ref R) else none) else none) = some true
  rw [if_pos e1, if_pos e2]
  exact h4
/-- a constant tuple of texts -/
def TupAt (K : PySem.W.Frag) (x : Str) (T : Addr) (ss : List Str) : Prop := PySem.W.nsIn K mainGlobals x = some (some (.ref T)) ∧ ∃ (its : Array Value) (n : Nat) (sl : Array (Option Value)), K.lookup T = some ⟨.type "tuple", none, .seq its n, sl⟩ ∧ its.size ≤ sizeLine ∧ Vals (ss.map V.str) its.toList
theorem TupAt.sq {K : PySem.W.Frag} {x : Str} {T : Addr} {ss : List Str} (h : TupAt K x T ss) : ∀ H, SqT K H T (ss.map V.str) := fun H => by
  obtain ⟨_, its, n, sl, l, z, v⟩ := h
  exact .inr ⟨_, its, n, l, rfl, rfl, z, v⟩
theorem TupAt.lk {K : PySem.W.Frag} {x : Str} {T : Addr} {ss : List Str} (h : TupAt K x T ss) : ∃ o, K.lookup T = some o ∧ o.cls = .type "tuple" ∧ o.dict = none := by
  obtain ⟨_, its, n, sl, l, z, v⟩ := h
  exact ⟨_, l, rfl, rfl⟩
theorem tupAtC {K : PySem.W.Frag} {x : Str} {T : Addr} {t1 t2 t3 t4 t5 t6 : Tok} {n : Nat} {sl : Array (Option Value)} (a : PySem.W.nsIn K mainGlobals x = some (some (.ref T)))
    (l : K.lookup T = some ⟨.type "tuple", none, .seq #[.str "=" t1, .str "<>" t2, .str "<" t3, .str "<=" t4, .str ">" t5, .str ">=" t6] n, sl⟩) : TupAt K x T opsC :=
  ⟨a, _, n, sl, l, by show 6 ≤ sizeLine; decide, .cons ⟨_, rfl⟩ (.cons ⟨_, rfl⟩ (.cons ⟨_, rfl⟩ (.cons ⟨_, rfl⟩ (.cons ⟨_, rfl⟩ (.cons ⟨_, rfl⟩ .nil)))))⟩
theorem tupAtR {K : PySem.W.Frag} {x : Str} {T : Addr} {t1 t2 t3 : Tok} {n : Nat} {sl : Array (Option Value)} (a : PySem.W.nsIn K mainGlobals x = some (some (.ref T)))
    (l : K.lookup T = some ⟨.type "tuple", none, .seq #[.str "+" t1, .str "-" t2, .str "*" t3] n, sl⟩) : TupAt K x T opsR :=
  ⟨a, _, n, sl, l, by show 3 ≤ sizeLine; decide, .cons ⟨_, rfl⟩ (.cons ⟨_, rfl⟩ (.cons ⟨_, rfl⟩ .nil))⟩
/-- a constant text -/
def StrAt (K : PySem.W.Frag) (x : Str) (s : Str) : Prop := ∃ t, PySem.W.nsIn K mainGlobals x = some (some (.str s t))
theorem strAt {K : PySem.W.Frag} {x s : Str} {t : Tok} (a : PySem.W.nsIn K mainGlobals x = some (some (.str s t))) : StrAt K x s := ⟨t, a⟩
section
variable {P P0 : Program} {w : World} {K : PySem.W.Frag} {mg : Str → Option Value} {base h : Heap} {C CS XD XR TC TR : Addr}
theorem mk_str {x s : Str} (T : StrAt K x s) (X : K.In h) (G : h.Ns mainGlobals mg) : ∃ t, mg x = some (.str s t) := by
  obtain ⟨t, a⟩ := T
  exact ⟨t, PySem.W.mg_of X G a⟩
/-- a whole number of the top -/
def ConAt (K : PySem.W.Frag) (x : Str) (i : Int) : Prop := ∃ t, PySem.W.nsIn K mainGlobals x = some (some (.int i t))
theorem conAt {K : PySem.W.Frag} {x : Str} {i : Int} {t : Tok} (a : PySem.W.nsIn K mainGlobals x = some (some (.int i t))) : ConAt K x i := ⟨t, a⟩
theorem mk_con {x : Str} {i : Int} (T : ConAt K x i) (X : K.In h) (G : h.Ns mainGlobals mg) : ∃ t, mg x = some (.int i t) := by
  obtain ⟨t, a⟩ := T
  exact ⟨t, PySem.W.mg_of X G a⟩
theorem mk_methX {x q : Str} {st : Stmt} {ps : List Str} {sp : Sp} {k : Nat} (T : MethAt K C x q st)
    (bind : ∀ (kV doc pm : Value) (an : Option Addr) (cdv ct : Value) (us : List Value), us.length = ps.length → bindArgs (PySem.W.fnOf x q (defArgs st) (defBody st) (defScope st) .none kV doc pm an cdv ct) ⟨us, []⟩ = pure (ps.zip us))
    (ok : ∀ (f : Addr) (fd : FuncData), Fun K x q st f fd → FnOk P0 w K mg base (L2.CX P0 w) k f fd ps sp) : MDefX P0 w K mg base C x k ps sp := by
  obtain ⟨f, od, an, sl, oc, kV, dc, pm, cd, ct, a, i, l, c, kp⟩ := T
  have F := fun_mk l c kp
  exact ⟨f, _, ok f _ F, ⟨a, i, kp⟩, F.binds bind⟩
theorem mk_reader (T : MethAt K C "__init__" "Reader.__init__" sRInit) (m : PySem.W.makesIn K C = true) (kc : PySem.W.keepIn K (.ref C) = true) (B : Bt mg) (TT : Cr K mg C) : MkR P0 w K mg base C := by
  obtain ⟨f, od, an, sl, oc, kV, dc, pm, cd, ct, a, i, l, c, kp⟩ := T
  have F := fun_mk l c kp
  exact ⟨f, _, ⟨m, a, i, kc⟩, ok_init_r F B TT, F.binds (ps := ["self", "data"]) fun _ _ _ _ _ _ us hl => match us, hl with | [_, _], _ => rfl⟩
/-- what the top has written, and the built-in names that it has not -/
structure Top (K : PySem.W.Frag) (C CS XD XR TC TR : Addr) : Prop where
  cC : PySem.W.nsIn K mainGlobals "State" = some (some (.ref CS))
  cR : PySem.W.nsIn K mainGlobals "Reader" = some (some (.ref C))
  cD : PySem.W.nsIn K mainGlobals "DamagedData" = some (some (.ref XD))
  cE : PySem.W.nsIn K mainGlobals "RuleError" = some (some (.ref XR))
  tC : TupAt K "COMPARES" TC opsC
  tR : TupAt K "RESULTS" TR opsR
  t32 : StrAt K "CHARACTERS_FROM_32" chars32
  t38 : StrAt K "CHARACTERS_FROM_38" chars38
  t60 : ConAt K "MOST_BYTES" 60
  d_next : DefAt K "_law_next" sNext
  d_sm : DefAt K "_law_same" sSM
  d_ch : DefAt K "_law_characters" sCh
  d_val : DefAt K "_law_value" sVal
  d_row : DefAt K "_law_row" sDRw
  d_name : DefAt K "_law_name" sDNm
  d_term : DefAt K "_law_term" sDT
  d_terms : DefAt K "_law_terms" sDTs
  d_lit : DefAt K "_law_literal" sDLi
  d_body : DefAt K "_law_body" sDB
  d_item : DefAt K "_law_item" sDI
  d_bf : DefAt K "_law_before" sBF
  d_or : DefAt K "_law_order" sOR
  d_lk : DefAt K "_law_key" sLK
  d_lo : DefAt K "_law_key_order" sLO
  d_pl : DefAt K "_law_placed" sPl
  d_is : DefAt K "_law_items" sIs
  d_id : DefAt K "_law_is_dict" sID
  d_st : DefAt K "_law_is_state" sSt
  d_cn : DefAt K "_law_number" sCN
  d_cld : DefAt K "_law_listed" sCLd
  d_cs : DefAt K "_law_string_code" sCS
  d_cv : DefAt K "_law_value_code" sCV
  d_cr : DefAt K "_law_row_code" sCR
  d_ct : DefAt K "_law_term_code" sCT
  d_cts : DefAt K "_law_terms_code" sCTs
  d_cli : DefAt K "_law_literal_code" sCLi
  d_cb : DefAt K "_law_body_code" sCB
  d_ci : DefAt K "_law_item_code" sCI
  d_cc : DefAt K "_law_change_code" sCC
  d_ac : DefAt K "_law_any_changes" sAC
  d_rd : DefAt K "_law_read" sRD
  d_en : DefAt K "_law_ends" sEN
  d_as : DefAt K "_law_asks" sAS
  d_im : DefAt K "_law_image" sIM
  d_law : DefAt K "law" sLaw
  d_vk : DefAt K "value_key" sVK
  d_rk : DefAt K "row_key" sRK
  d_sr : DefAt K "same_row" sSR
  d_po : DefAt K "place_of" sPO
  d_sa : DefAt K "stands_at" sSA
  d_wn : DefAt K "write_number" sWN
  d_wl : DefAt K "write_list" sWL
  d_ws : DefAt K "write_text" sWS
  d_wv : DefAt K "write_value" sWV
  d_wr : DefAt K "write_row" sWR
  d_wt : DefAt K "write_term" sWT
  d_wts : DefAt K "write_terms" sWTs
  d_wli : DefAt K "write_literal" sWLi
  d_wb : DefAt K "write_body" sWB
  d_wi : DefAt K "write_item" sWI
  d_wc : DefAt K "write_change" sWC
  d_wcs : DefAt K "write_changes" sWCs
  d_wim : DefAt K "write_image" sWIm
  d_co : DefAt K "character_of" sCO
  mInit : InitAt K CS
  mAll : MethAt K CS "all_items" "State.all_items" sAll
  mPut : MethAt K CS "_put" "State._put" sPut
  mPR : MethAt K CS "_put_row" "State._put_row" sPR
  mRI : MethAt K C "__init__" "Reader.__init__" sRInit
  m_rb : MethAt K C "_read_byte" "Reader._read_byte" sRReadByte
  m_rc : MethAt K C "_read_choice" "Reader._read_choice" sRReadChoice
  m_rm : MethAt K C "_read_many" "Reader._read_many" sRReadMany
  m_rt : MethAt K C "_read_text" "Reader._read_text" sRReadText
  m_rtm : MethAt K C "_read_term" "Reader._read_term" sRReadTerm
  m_rts : MethAt K C "_read_terms" "Reader._read_terms" sRReadTerms
  m_rl : MethAt K C "_read_literal" "Reader._read_literal" sRReadLiteral
  m_rn : MethAt K C "read_number" "Reader.read_number" sRReadNumber
  m_rv : MethAt K C "read_value" "Reader.read_value" sRReadValue
  m_rr : MethAt K C "read_row" "Reader.read_row" sRReadRow
  m_rbd : MethAt K C "read_body" "Reader.read_body" sRReadBody
  m_ri : MethAt K C "read_item" "Reader.read_item" sRReadItem
  m_rch : MethAt K C "read_change" "Reader.read_change" sRReadChange
  m_rcs : MethAt K C "read_changes" "Reader.read_changes" sRReadChanges
  m_rim : MethAt K C "read_image" "Reader.read_image" sRReadImage
  m_end : MethAt K C "end" "Reader.end" sREnd
  spg : PySem.W.plainGet K CS Str.empty = true
  shd : PySem.W.hasDictIn K CS = true
  spv : PySem.W.plainOver K CS = true
  ssat : PySem.W.findIn K (.ref CS) "__setattr__" = some (some (.builtin "object.__setattr__"))
  smk : PySem.W.makesIn K CS = true
  skc : PySem.W.keepIn K (.ref CS) = true
  rpg : PySem.W.plainGet K C Str.empty = true
  rhd : PySem.W.hasDictIn K C = true
  rpv : PySem.W.plainOver K C = true
  rsat : PySem.W.findIn K (.ref C) "__setattr__" = some (some (.builtin "object.__setattr__"))
  rmk : PySem.W.makesIn K C = true
  rkc : PySem.W.keepIn K (.ref C) = true
  nR : PySem.W.findIn K (.ref CS) "relations" = some none
  nF : PySem.W.findIn K (.ref CS) "facts" = some none
  nU : PySem.W.findIn K (.ref CS) "rules" = some none
  nD : PySem.W.findIn K (.ref CS) "denials" = some none
  nd : PySem.W.findIn K (.ref C) "data" = some none
  na : PySem.W.findIn K (.ref C) "at" = some none
  xI : PySem.W.excIn K XD [.type "ValueError", .type "Exception", .type "BaseException", .type "object"] "ValueError.__new__" = true
  kI : PySem.W.keepIn K (.ref XD) = true
  bI : PySem.W.subIn K (.ref XD) (.type "BaseException") = some true
  tI : PySem.W.typeIn K (.ref XD) = some (.type "type")
  hR : PySem.W.isClsIn K XR = true
  bR : PySem.W.subIn K (.ref XR) (.type "BaseException") = some true
  tyR : PySem.W.typeIn K (.ref XR) = some (.type "type")
  sI : PySem.W.subIn K (.ref XD) (.ref XR) = some true
  i_hg : PySem.W.findIn K (.ref XD) "__getattribute__" = some (some (.builtin "BaseException.__getattribute__"))
  i_hk : PySem.W.findIn K (.ref XD) "__getattr__" = some none
  i_hd : PySem.W.hasDictIn K XD = true
  i_ha : PySem.W.findIn K (.ref XD) "__class__" = some (some (.builtin "object.__class__"))
  i_hn : PySem.W.specialIn K (.builtin "object.__class__") "__get__" = some (some (.builtin "getset_descriptor.__get__"))
  i_ht : PySem.W.takesIn K (.builtin "object.__class__") = some true
  i_hm : PySem.W.mroIn K XD (.type "object") = some true
  i1 : PySem.W.kitOne K (.ref XD) (.ref XD) = some true
  i2 : PySem.W.kitOne K (.ref XD) (.type "ValueError") = some true
  z_len : PySem.W.nsIn K mainGlobals "len" = some none
  z_int : PySem.W.nsIn K mainGlobals "int" = some none
  z_isinstance : PySem.W.nsIn K mainGlobals "isinstance" = some none
  z_bool : PySem.W.nsIn K mainGlobals "bool" = some none
  z_str : PySem.W.nsIn K mainGlobals "str" = some none
  z_tuple : PySem.W.nsIn K mainGlobals "tuple" = some none
  z_list : PySem.W.nsIn K mainGlobals "list" = some none
  z_range : PySem.W.nsIn K mainGlobals "range" = some none
  z_min : PySem.W.nsIn K mainGlobals "min" = some none
  z_abs : PySem.W.nsIn K mainGlobals "abs" = some none
  z_ord : PySem.W.nsIn K mainGlobals "ord" = some none
  z_sorted : PySem.W.nsIn K mainGlobals "sorted" = some none
  z_dict : PySem.W.nsIn K mainGlobals "dict" = some none
  z_ValueError : PySem.W.nsIn K mainGlobals "ValueError" = some none
theorem all_mk {l : PySem.W.OpenLaw} {fa : Addr} (T : Top K C CS XD XR TC TR) (X : K.In h) (G : h.Ns mainGlobals mg) (hfa : mg "law" = some (.ref fa)) :
    ∃ fd : FuncData, (∀ (s : Shared) (v : Value), BindsTo s fd ⟨[v], []⟩ [("script", v)]) ∧ ∀ base : Heap, K.In base → base.Ns mainGlobals mg → FnOk l.prog w K mg base CX0 15 fa fd ["script"] (spLaw K) := by
  obtain ⟨f, od, an, sl, oc, kV, dc, pm, cd, ct, a, lk, c, kp⟩ := T.d_law
  have e := hfa.symm.trans (PySem.W.mg_of X G a)
  cases e
  have F := fun_mk lk c kp
  refine ⟨PySem.W.fnOf "law" "law" (defArgs sLaw) (defBody sLaw) (defScope sLaw) .none kV dc pm an cd ct, fun s v => .of_eq rfl, fun base X G => ?_⟩
  have B : Bt mg := ⟨PySem.W.mg_none_of X G T.z_len, PySem.W.mg_none_of X G T.z_int, PySem.W.mg_none_of X G T.z_isinstance, PySem.W.mg_none_of X G T.z_bool, PySem.W.mg_none_of X G T.z_str, PySem.W.mg_none_of X G T.z_tuple, PySem.W.mg_none_of X G T.z_list, PySem.W.mg_none_of X G T.z_range, PySem.W.mg_none_of X G T.z_min⟩
  have B4 : Bt4 mg := ⟨PySem.W.mg_none_of X G T.z_abs, PySem.W.mg_none_of X G T.z_ord⟩
  have TS : Cs K mg CS := ⟨⟨T.spg, T.shd, T.spv, T.ssat⟩, T.nR, T.nF, T.nU, T.nD, PySem.W.mg_of X G T.cC⟩
  have TT : Cr K mg C := ⟨⟨T.rpg, T.rhd, T.rpv, T.rsat⟩, T.nd, T.na, PySem.W.mg_of X G T.cR⟩
  have hso := PySem.W.mg_none_of X G T.z_sorted
  have hdi := PySem.W.mg_none_of X G T.z_dict
  have G4 : Gl4 K mg TC TR := ⟨PySem.W.mg_of X G T.tC.1, PySem.W.mg_of X G T.tR.1, T.tC.sq, T.tR.sq, T.tC.lk, T.tR.lk, mk_str T.t32 X G, mk_str T.t38 X G, mk_con T.t60 X G⟩
  have X4 : Ex4 K mg XD XR := { gD := PySem.W.mg_of X G T.cD, xD := T.xI, kD := T.kI, bD := T.bI, tD := T.tI, gR := PySem.W.mg_of X G T.cE, eD := exm_at T.bR T.hR T.tyR T.sI, iD := ⟨T.i_hg, T.i_hk, T.bI, T.i_hd, T.i_ha, T.i_hn, T.i_ht, T.i_hm⟩, i1 := T.i1, i2 := T.i2, gV := PySem.W.mg_none_of X G T.z_ValueError }
  have DN : dNext l.prog w K mg base := mk_def T.d_next X G (fun _ _ _ _ _ _ us hl => match us, hl with | [_, _], _ => rfl) fun f fd F => ok_next F B
  have DCh : dCh l.prog w K mg base := mk_def T.d_ch X G (fun _ _ _ _ _ _ us hl => match us, hl with | [], _ => rfl) fun f fd F => ok_ch F
  have DV : dVal l.prog w K mg base := mk_def T.d_val X G (fun _ _ _ _ _ _ us hl => match us, hl with | [_], _ => rfl) fun f fd F => ok_val F B DN DCh
  have DR : dRow l.prog w K mg base := mk_def T.d_row X G (fun _ _ _ _ _ _ us hl => match us, hl with | [_, _], _ => rfl) fun f fd F => ok_row F B DV
  have DM : dName l.prog w K mg base := mk_def T.d_name X G (fun _ _ _ _ _ _ us hl => match us, hl with | [_], _ => rfl) fun f fd F => ok_name F DN
  have DT : dTerm l.prog w K mg base := mk_def T.d_term X G (fun _ _ _ _ _ _ us hl => match us, hl with | [_], _ => rfl) fun f fd F => ok_term F DN DV DM
  have DTs : dTerms l.prog w K mg base := mk_def T.d_terms X G (fun _ _ _ _ _ _ us hl => match us, hl with | [_], _ => rfl) fun f fd F => ok_terms F B DN DT
  have DL : dLit l.prog w K mg base := mk_def T.d_lit X G (fun _ _ _ _ _ _ us hl => match us, hl with | [_], _ => rfl) fun f fd F => ok_lit F DN DT DM DTs
  have DB : dBody l.prog w K mg base := mk_def T.d_body X G (fun _ _ _ _ _ _ us hl => match us, hl with | [_], _ => rfl) fun f fd F => ok_body F B DN DL
  have DI : dItem l.prog w K mg base := mk_def T.d_item X G (fun _ _ _ _ _ _ us hl => match us, hl with | [_], _ => rfl) fun f fd F => ok_item F DN DR DM DTs DB
  have BF : dBF l.prog w K mg base := mk_def T.d_bf X G (fun _ _ _ _ _ _ us hl => match us, hl with | [_, _], _ => rfl) fun f fd F => ok_bf F B
  have OR : dOR l.prog w K mg base := mk_def T.d_or X G (fun _ _ _ _ _ _ us hl => match us, hl with | [_, _], _ => rfl) fun f fd F => ok_or F B BF
  have LK : dLK l.prog w K mg base := mk_def T.d_lk X G (fun _ _ _ _ _ _ us hl => match us, hl with | [_], _ => rfl) fun f fd F => ok_lk F
  have LO : dLO l.prog w K mg base := mk_def T.d_lo X G (fun _ _ _ _ _ _ us hl => match us, hl with | [_, _], _ => rfl) fun f fd F => ok_lo F B OR
  have PL : dPl l.prog w K mg base := mk_def T.d_pl X G (fun _ _ _ _ _ _ us hl => match us, hl with | [_, _], _ => rfl) fun f fd F => ok_pl F LK LO
  have IS : dIs l.prog w K mg base := mk_def T.d_is X G (fun _ _ _ _ _ _ us hl => match us, hl with | [_, _], _ => rfl) fun f fd F => ok_is F B DN DI PL
  have AC : dAC l.prog w K mg base := mk_def T.d_ac X G (fun _ _ _ _ _ _ us hl => match us, hl with | [_, _], _ => rfl) fun f fd F => ok_ac F B DN DI LK
  have S0 : Def l.prog w K mg base "_law_same" 1 ["actual", "expected"] (spSM 0) := mk_def T.d_sm X G (fun _ _ _ _ _ _ us hl => match us, hl with | [_, _], _ => rfl) fun f fd F => ok_sm F B 0 (.inl rfl)
  have Sn : ∀ n, Def l.prog w K mg base "_law_same" (n + 1) ["actual", "expected"] (spSM n) := fun n => by
    induction n with
    | zero => exact S0
    | succ n ih => exact mk_def T.d_sm X G (fun _ _ _ _ _ _ us hl => match us, hl with | [_, _], _ => rfl) fun f fd F => ok_sm F B (n + 1) (.inr ⟨n, rfl, ih⟩)
  have SM : dSame l.prog w K mg base := mk_def T.d_sm X G (fun _ _ _ _ _ _ us hl => match us, hl with | [_, _], _ => rfl) fun f fd F => by
    have a : FnOk l.prog w K mg base CX0 9 f fd ["actual", "expected"] (spSM 7) := (ok_sm F B 7 (.inr ⟨6, rfl, Sn 6⟩)).mono (by decide)
    have b : FnOk l.prog w K mg base CX0 9 f fd ["actual", "expected"] (spSL 7) := ok_sl F B 7 (Sn 7)
    exact ⟨fun vs H Q E h => h.elim (a.len vs H Q E) (b.len vs H Q E), fun A outer s H args us vs Q E hr e0 bt r h => h.elim (a.run A outer s H args us vs Q E hr e0 bt r) (b.run A outer s H args us vs Q E hr e0 bt r)⟩
  have SB : dSB l.prog w K mg base := mk_def T.d_sm X G (fun _ _ _ _ _ _ us hl => match us, hl with | [_, _], _ => rfl) fun f fd F => ok_sb F B 7 (Sn 7)
  have VK : Def l.prog w K mg base "value_key" 1 ["value"] spVK := mk_def T.d_vk X G (fun _ _ _ _ _ _ us hl => match us, hl with | [_], _ => rfl) fun f fd F => ok_vk F B
  have RK : dRK l.prog w K mg base := mk_def T.d_rk X G (fun _ _ _ _ _ _ us hl => match us, hl with | [_], _ => rfl) fun f fd F => ok_rk F B VK
  have SR : dSR l.prog w K mg base := mk_def T.d_sr X G (fun _ _ _ _ _ _ us hl => match us, hl with | [_, _], _ => rfl) fun f fd F => ok_sr F RK
  have PO : dPO l.prog w K mg base := mk_def T.d_po X G (fun _ _ _ _ _ _ us hl => match us, hl with | [_, _], _ => rfl) fun f fd F => ok_po F B RK
  have SA : dSA l.prog w K mg base := mk_def T.d_sa X G (fun _ _ _ _ _ _ us hl => match us, hl with | [_, _, _], _ => rfl) fun f fd F => ok_sa F B SR
  have PR : KV.mPR l.prog w K mg base CS := mk_meth T.mPR (fun _ _ _ _ _ _ us hl => match us, hl with | [_, _, _], _ => rfl) fun f fd F => ok_pr F TS PO SA
  have PU : KV.mPut l.prog w K mg base CS := mk_meth T.mPut (fun _ _ _ _ _ _ us hl => match us, hl with | [_, _], _ => rfl) fun f fd F => ok_put F TS PR
  have MK : MkSt l.prog w K mg base CS := mk_init T.mInit T.smk T.skc TS PU
  have AL : KV.mAll l.prog w K mg base CS := mk_meth T.mAll (fun _ _ _ _ _ _ us hl => match us, hl with | [_], _ => rfl) fun f fd F => ok_all F TS hso
  have ID : dID l.prog w K mg base := mk_def T.d_id X G (fun _ _ _ _ _ _ us hl => match us, hl with | [_, _], _ => rfl) fun f fd F => ok_id F B hdi SM
  have ST : dSt l.prog w K mg base CS := mk_def T.d_st X G (fun _ _ _ _ _ _ us hl => match us, hl with | [_, _], _ => rfl) fun f fd F => ok_st F TS ID SM AL
  have WN : dWN l.prog w K mg base := mk_def T.d_wn X G (fun _ _ _ _ _ _ us hl => match us, hl with | [_], _ => rfl) fun f fd F => ok_wn F
  have CN : dCN l.prog w K mg base := mk_def T.d_cn X G (fun _ _ _ _ _ _ us hl => match us, hl with | [_], _ => rfl) fun f fd F => ok_cn F B
  have WL : dWL l.prog w K mg base := mk_def T.d_wl X G (fun _ _ _ _ _ _ us hl => match us, hl with | [_], _ => rfl) fun f fd F => ok_wl F B WN
  have CLd : dCLd l.prog w K mg base := mk_def T.d_cld X G (fun _ _ _ _ _ _ us hl => match us, hl with | [_], _ => rfl) fun f fd F => ok_cld F B CN
  have WS : dWS l.prog w K mg base := mk_def T.d_ws X G (fun _ _ _ _ _ _ us hl => match us, hl with | [_], _ => rfl) fun f fd F => ok_ws F B B4 WN
  have CSc : dCS l.prog w K mg base := mk_def T.d_cs X G (fun _ _ _ _ _ _ us hl => match us, hl with | [_], _ => rfl) fun f fd F => ok_cs F B DCh CLd
  have WV : dWV l.prog w K mg base := mk_def T.d_wv X G (fun _ _ _ _ _ _ us hl => match us, hl with | [_], _ => rfl) fun f fd F => ok_wv F B B4 WN WS
  have CV : dCV l.prog w K mg base := mk_def T.d_cv X G (fun _ _ _ _ _ _ us hl => match us, hl with | [_], _ => rfl) fun f fd F => ok_cv F B B4 CN CSc
  have WR : dWR l.prog w K mg base := mk_def T.d_wr X G (fun _ _ _ _ _ _ us hl => match us, hl with | [_], _ => rfl) fun f fd F => ok_wr F WL WV
  have CR : dCR l.prog w K mg base := mk_def T.d_cr X G (fun _ _ _ _ _ _ us hl => match us, hl with | [_], _ => rfl) fun f fd F => ok_cr F CLd CV
  have WT : dWT l.prog w K mg base := mk_def T.d_wt X G (fun _ _ _ _ _ _ us hl => match us, hl with | [_], _ => rfl) fun f fd F => ok_wt F WS WV
  have CT : dCT l.prog w K mg base := mk_def T.d_ct X G (fun _ _ _ _ _ _ us hl => match us, hl with | [_], _ => rfl) fun f fd F => ok_ct F CSc CV
  have WTs : dWTs l.prog w K mg base := mk_def T.d_wts X G (fun _ _ _ _ _ _ us hl => match us, hl with | [_], _ => rfl) fun f fd F => ok_wts F WL WT
  have CTs : dCTs l.prog w K mg base := mk_def T.d_cts X G (fun _ _ _ _ _ _ us hl => match us, hl with | [_], _ => rfl) fun f fd F => ok_cts F CLd CT
  have WLi : dWLi l.prog w K mg base := mk_def T.d_wli X G (fun _ _ _ _ _ _ us hl => match us, hl with | [_], _ => rfl) fun f fd F => ok_wli F G4 WS WT WTs
  have CLi : dCLi l.prog w K mg base := mk_def T.d_cli X G (fun _ _ _ _ _ _ us hl => match us, hl with | [_], _ => rfl) fun f fd F => ok_cli F B CSc CT CTs
  have WB : dWB l.prog w K mg base := mk_def T.d_wb X G (fun _ _ _ _ _ _ us hl => match us, hl with | [_], _ => rfl) fun f fd F => ok_wb F WL WLi
  have CB : dCB l.prog w K mg base := mk_def T.d_cb X G (fun _ _ _ _ _ _ us hl => match us, hl with | [_], _ => rfl) fun f fd F => ok_cb F CLd CLi
  have WI : dWI l.prog w K mg base := mk_def T.d_wi X G (fun _ _ _ _ _ _ us hl => match us, hl with | [_], _ => rfl) fun f fd F => ok_wi F WS WN WR WTs WB
  have CI : dCI l.prog w K mg base := mk_def T.d_ci X G (fun _ _ _ _ _ _ us hl => match us, hl with | [_], _ => rfl) fun f fd F => ok_ci F B CSc CN CR CTs CB
  have WC : dWC l.prog w K mg base := mk_def T.d_wc X G (fun _ _ _ _ _ _ us hl => match us, hl with | [_], _ => rfl) fun f fd F => ok_wc F WI WS WR
  have CC : dCC l.prog w K mg base := mk_def T.d_cc X G (fun _ _ _ _ _ _ us hl => match us, hl with | [_], _ => rfl) fun f fd F => ok_cc F CI CSc CR
  have WCs : dWCs l.prog w K mg base := mk_def T.d_wcs X G (fun _ _ _ _ _ _ us hl => match us, hl with | [_], _ => rfl) fun f fd F => ok_wcs F WL WC
  have WIm : dWIm l.prog w K mg base CS := mk_def T.d_wim X G (fun _ _ _ _ _ _ us hl => match us, hl with | [_, _], _ => rfl) fun f fd F => ok_wim F TS AL WN WL WI
  have CO : dCO l.prog w K mg base := mk_def T.d_co X G (fun _ _ _ _ _ _ us hl => match us, hl with | [_], _ => rfl) fun f fd F => ok_co F G4
  have RB : mRb l.prog w K mg base C := mk_meth T.m_rb (fun _ _ _ _ _ _ us hl => match us, hl with | [_], _ => rfl) fun f fd F => ok_rb F B TT
  have RC : mRc l.prog w K mg base C := mk_meth T.m_rc (fun _ _ _ _ _ _ us hl => match us, hl with | [_, _], _ => rfl) fun f fd F => ok_rc F TT RB
  have RN : mRn l.prog w K mg base C := mk_meth T.m_rn (fun _ _ _ _ _ _ us hl => match us, hl with | [_], _ => rfl) fun f fd F => ok_rn F B G4 TT RB
  have RM : mRm l.prog w K mg base C := mk_meth T.m_rm (fun _ _ _ _ _ _ us hl => match us, hl with | [_], _ => rfl) fun f fd F => ok_rm F B TT RN
  have RT : mRt l.prog w K mg base C := mk_meth T.m_rt (fun _ _ _ _ _ _ us hl => match us, hl with | [_], _ => rfl) fun f fd F => ok_rt F B TT CO RB RM
  have RV : mRv l.prog w K mg base C := mk_meth T.m_rv (fun _ _ _ _ _ _ us hl => match us, hl with | [_], _ => rfl) fun f fd F => ok_rv F TT RC RN RT
  have RR : mRr l.prog w K mg base C := mk_meth T.m_rr (fun _ _ _ _ _ _ us hl => match us, hl with | [_], _ => rfl) fun f fd F => ok_rr F B TT RM RV
  have RTm : mRtm l.prog w K mg base C := mk_meth T.m_rtm (fun _ _ _ _ _ _ us hl => match us, hl with | [_], _ => rfl) fun f fd F => ok_rtm F TT RC RT RV
  have RTs : mRts l.prog w K mg base C := mk_meth T.m_rts (fun _ _ _ _ _ _ us hl => match us, hl with | [_], _ => rfl) fun f fd F => ok_rts F B TT RM RTm
  have RL : mRl l.prog w K mg base C := mk_meth T.m_rl (fun _ _ _ _ _ _ us hl => match us, hl with | [_], _ => rfl) fun f fd F => ok_rl F G4 TT RC RT RTm RTs
  have RBd : mRbd l.prog w K mg base C := mk_meth T.m_rbd (fun _ _ _ _ _ _ us hl => match us, hl with | [_], _ => rfl) fun f fd F => ok_rbd F B TT RM RL
  have RI : mRi l.prog w K mg base C := mk_meth T.m_ri (fun _ _ _ _ _ _ us hl => match us, hl with | [_], _ => rfl) fun f fd F => ok_ri F TT RC RN RT RR RTs RBd
  have RCh : mRch l.prog w K mg base C := mk_meth T.m_rch (fun _ _ _ _ _ _ us hl => match us, hl with | [_], _ => rfl) fun f fd F => ok_rch F TT RC RT RR RI
  have RCs : mRcs l.prog w K mg base C := mk_meth T.m_rcs (fun _ _ _ _ _ _ us hl => match us, hl with | [_], _ => rfl) fun f fd F => ok_rcs F B TT RM RCh
  have RIm : mRim l.prog w K mg base C CS := mk_meth T.m_rim (fun _ _ _ _ _ _ us hl => match us, hl with | [_], _ => rfl) fun f fd F => ok_rim F B TT TS MK RN RM RI
  have ME : mEnd l.prog w K mg base C XD := mk_methX T.m_end (fun _ _ _ _ _ _ us hl => match us, hl with | [_], _ => rfl) fun f fd F => ok_end F B TT X4
  have MR : MkR l.prog w K mg base C := mk_reader T.mRI T.rmk T.rkc B TT
  have RD : dRD l.prog w K mg base C := mk_def T.d_rd X G (fun _ _ _ _ _ _ us hl => match us, hl with | [_, _], _ => rfl) fun f fd F => ok_rdl F TT RN RV RR RBd RI RCh RCs
  have EN : dEN l.prog w K mg base C := mk_def T.d_en X G (fun _ _ _ _ _ _ us hl => match us, hl with | [_, _], _ => rfl) fun f fd F => ok_en F B TT X4 ME
  have AS : dAS l.prog w K mg base := mk_def T.d_as X G (fun _ _ _ _ _ _ us hl => match us, hl with | [_, _, _, _, _], _ => rfl) fun f fd F => ok_as F B TT MR SB SM RD EN
  have IM : dIM l.prog w K mg base := mk_def T.d_im X G (fun _ _ _ _ _ _ us hl => match us, hl with | [_, _], _ => rfl) fun f fd F => ok_im F B TT TS MK MR DN IS CN CLd CI WIm SB SM ST EN RIm
  exact ok_law F B DN DV DR DB DI AC AS IM WN CN WV CV WR CR WB CB WI CI WC CC WCs CLd
end
end KV

open PySem PySem.W PyProof.Rows
set_option maxHeartbeats 0 in
theorem PySem.Challenge.cw_rulestead_k04_bytes_of_data_holds : PySem.Challenge.rw_rulestead_k04_bytes_of_data.Holds := by
  w_on; o_law; k_head; (case hw => w_witness2)
  k_fill
  refine L2.walk_of (l := PySem.Challenge.rw_rulestead_k04_bytes_of_data) (n := 63) (k := 15) (x := "script") (CX := fun _ => L2.CX0) (sp := fun w => KV.spLaw _) rfl (by decide) rfl ⟨rfl, by decide, by decide⟩ (fun w h Y => PySem.W.kIn_of Y) ?F (fun _ _ a ns hl _ hS => ⟨a, ns, rfl, hS, hl, fun _ => rfl⟩) (fun _ _ _ _ _ h => h)
  case F =>
    intro w mg fa h KX G hmg
    refine' KV.all_mk ?T KX G hmg
    case T =>
      constructor
      all_goals first
        | k_is
        | (refine' KV.defAt ?a ?l ?c ?k; (case a => k_is); (case l => k_is); (case c => k_is); (case k => k_is))
        | (refine' KV.methAt ?a ?i ?l ?c ?k; (case a => k_is); (case i => k_is); (case l => k_is); (case c => k_is); (case k => k_is))
        | (refine' KV.initAt ?a ?i ?l ?c ?k ?t ?e; (case a => k_is); (case i => k_is); (case l => k_is); (case c => k_is); (case k => k_is); (case t => k_is); (case e => k_is))
        | k_exc
        | (refine' KV.conAt ?a; (case a => k_is))
        | (refine' KV.tupAtC ?a ?l; (case a => k_is); (case l => k_is))
        | (refine' KV.tupAtR ?a ?l; (case a => k_is); (case l => k_is))
        | (refine' KV.strAt ?a; (case a => k_is))
        | kit_is
        | rfl
