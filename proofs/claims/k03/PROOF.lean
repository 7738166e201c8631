import PyProof.Rows.All
import Wide.All
import OpenK.AllK
import Wide.FinOn
import HandS.Base
import HandS.Call
import HandS.List
import HandS.Comp
import HandS.Ends
import KE.DataEq
import KE.LtSeq
import HandS.ForMost
import HandS.IsInst
import HandS.Wide
import HandS.TupAny
import HandS.Codes
import PySem.Challenge.RW_rulestead_k03_changes
import HandS.SetKeys
import HandS.More
import HandS.Defaults
import HandS.DictComp
import HandS.Flow
import HandS.Conv
import HandS.Walk
import KE.KeyNested
import KE.KDictKeyed
import HandS.WordsDict
set_option Elab.async false
set_option linter.all false
set_option maxRecDepth 100000
set_option maxHeartbeats 4000000
/-! Tuples compared by < and >, where only the first pair that differs need be comparable. -/
namespace KA
open PySem PySem.SeqAt
open PySem.AutoSeq1 (wpAny_loadPart')
open PySem.MeetsSeq PySem.MeetsSeq2 PySem.MeetsSeq3

/-- u op v gives k, nothing changes -/
def Rc (op : CmpOp) (A : Around) (s : Shared) (u v : Value) (k : Bool) : Prop :=
  ∀ (prog : Program) (w : World) (E : Value → Shared → Prop) (Q : Value → Shared → Prop), Q (.bool k) s → wpAny (model prog w) A (richCompare op u v) Q E s
theorem lt_mixed (p q : Addr) (as bs : Array Value) (m m2 : Nat) (da db : Option Addr) (sa sb : Array (Option Value)) (e r : Nat → Bool) :
    Meets (Builtin.«tuple.__lt__» ⟨[.ref p, .ref q], []⟩)
      (fun A R s => s.heap.get? p = some { cls := .type "tuple", dict := da, data := .seq as m, slots := sa } ∧ s.heap.get? q = some { cls := .type "tuple", dict := db, data := .seq bs m2, slots := sb } ∧
        (∀ j (h1 : j < as.size) (h2 : j < bs.size), EqAt A.in1 s as[j] bs[j] (e j)) ∧
        (∀ j (h1 : j < as.size) (h2 : j < bs.size), (∀ i, i < j → e i = true) → e j = false → Rc .Lt A.in1 s as[j] bs[j] (r j)) ∧
        R (.ok (.ret (.bool (firstLt e r (decide (as.size < bs.size)) (List.range (min as.size bs.size)))))) s) :=
  .of_wp fun prog w A R s hyp => by
    obtain ⟨hp, gg, dr, tks, ox⟩ := s
    obtain ⟨gp, gq, heq, hrc, hR0⟩ := hyp
    have isT := AutoSeq1.sub_tuple_tuple
    have zl : (as.toList.zip bs.toList).length = min as.size bs.size := by simp
    wp_walk using wpAny_loadPart' gp, wpAny_loadPart' gq, wpAny_forIn_list _ (fun rem st s' => st.1 = none ∧ s' = ⟨hp, gg, dr, tks, ox⟩ ∧ ∃ i, (∀ x, x < i → e x = true) ∧ rem = (as.toList.zip bs.toList).drop i ∧
      R (.ok (.ret (.bool (firstLt e r (decide (as.size < bs.size)) ((List.range (min as.size bs.size)).drop i))))) ⟨hp, gg, dr, tks, ox⟩) _
    case turn =>
      rintro ⟨u, v⟩ rem st s' ⟨st1, rfl, i, same, hz, hR⟩
      have il : i < (as.toList.zip bs.toList).length := by
        rcases Nat.lt_or_ge i (as.toList.zip bs.toList).length with c | c
        · exact c
        · rw [List.drop_of_length_le c] at hz
          cases hz
      have im : i < min as.size bs.size := zl ▸ il
      have ia : i < as.size := Nat.lt_of_lt_of_le im (Nat.min_le_left _ _)
      have ib : i < bs.size := Nat.lt_of_lt_of_le im (Nat.min_le_right _ _)
      rw [List.drop_eq_getElem_cons il] at hz
      injection hz with huv hrem
      have eu : u = as[i] := by
        have t := congrArg Prod.fst huv
        simpa using t
      have ev : v = bs[i] := by
        have t := congrArg Prod.snd huv
        simpa using t
      subst eu ev
      have hcut : (List.range (min as.size bs.size)).drop i = i :: (List.range (min as.size bs.size)).drop (i + 1) := by
        simp [List.drop_eq_getElem_cons, im]
      rw [hcut] at hR
      refine wpAny_bind (heq i ia ib prog w _ _ ?_)
      cases ei : e i with
      | true =>
        rw [firstLt_yes ei] at hR
        wp_walk
        refine ⟨rfl, rfl, i + 1, fun x hx => ?_, hrem, hR⟩
        rcases Nat.lt_or_ge x i with c | c
        · exact same x c
        · rw [show x = i by omega]
          exact ei
      | false =>
        rw [firstLt_no ei] at hR
        have step := hrc i ia ib same ei prog w
        wp_walk using step
        exact ⟨_, rfl, by simpa using hR⟩
    case fin =>
      rintro ⟨c1, c2⟩ s' ⟨st1, rfl, i, same, hz, hR⟩
      simp only at st1
      subst st1
      have hge : min as.size bs.size ≤ i := by
        rcases Nat.lt_or_ge i (as.toList.zip bs.toList).length with c | c
        · rw [List.drop_eq_getElem_cons c] at hz
          cases hz
        · exact zl ▸ c
      rw [List.drop_of_length_le (by simpa using hge)] at hR
      wp_walk
      exact ⟨_, rfl, by simpa [Builtin.Tuple.tupleCompareSizes, firstLt] using hR⟩
    case h =>
      exact ⟨rfl, rfl, 0, fun x hx => absurd hx (Nat.not_lt_zero x), rfl, by simpa using hR0⟩
theorem gt_mixed (p q : Addr) (as bs : Array Value) (m m2 : Nat) (da db : Option Addr) (sa sb : Array (Option Value)) (e r : Nat → Bool) :
    Meets (Builtin.«tuple.__gt__» ⟨[.ref p, .ref q], []⟩)
      (fun A R s => s.heap.get? p = some { cls := .type "tuple", dict := da, data := .seq as m, slots := sa } ∧ s.heap.get? q = some { cls := .type "tuple", dict := db, data := .seq bs m2, slots := sb } ∧
        (∀ j (h1 : j < as.size) (h2 : j < bs.size), EqAt A.in1 s as[j] bs[j] (e j)) ∧
        (∀ j (h1 : j < as.size) (h2 : j < bs.size), (∀ i, i < j → e i = true) → e j = false → Rc .Gt A.in1 s as[j] bs[j] (r j)) ∧
        R (.ok (.ret (.bool (firstLt e r (decide (as.size > bs.size)) (List.range (min as.size bs.size)))))) s) :=
  .of_wp fun prog w A R s hyp => by
    obtain ⟨hp, gg, dr, tks, ox⟩ := s
    obtain ⟨gp, gq, heq, hrc, hR0⟩ := hyp
    have isT := AutoSeq1.sub_tuple_tuple
    have zl : (as.toList.zip bs.toList).length = min as.size bs.size := by simp
    wp_walk using wpAny_loadPart' gp, wpAny_loadPart' gq, wpAny_forIn_list _ (fun rem st s' => st.1 = none ∧ s' = ⟨hp, gg, dr, tks, ox⟩ ∧ ∃ i, (∀ x, x < i → e x = true) ∧ rem = (as.toList.zip bs.toList).drop i ∧
      R (.ok (.ret (.bool (firstLt e r (decide (as.size > bs.size)) ((List.range (min as.size bs.size)).drop i))))) ⟨hp, gg, dr, tks, ox⟩) _
    case turn =>
      rintro ⟨u, v⟩ rem st s' ⟨st1, rfl, i, same, hz, hR⟩
      have il : i < (as.toList.zip bs.toList).length := by
        rcases Nat.lt_or_ge i (as.toList.zip bs.toList).length with c | c
        · exact c
        · rw [List.drop_of_length_le c] at hz
          cases hz
      have im : i < min as.size bs.size := zl ▸ il
      have ia : i < as.size := Nat.lt_of_lt_of_le im (Nat.min_le_left _ _)
      have ib : i < bs.size := Nat.lt_of_lt_of_le im (Nat.min_le_right _ _)
      rw [List.drop_eq_getElem_cons il] at hz
      injection hz with huv hrem
      have eu : u = as[i] := by
        have t := congrArg Prod.fst huv
        simpa using t
      have ev : v = bs[i] := by
        have t := congrArg Prod.snd huv
        simpa using t
      subst eu ev
      have hcut : (List.range (min as.size bs.size)).drop i = i :: (List.range (min as.size bs.size)).drop (i + 1) := by
        simp [List.drop_eq_getElem_cons, im]
      rw [hcut] at hR
      refine wpAny_bind (heq i ia ib prog w _ _ ?_)
      cases ei : e i with
      | true =>
        rw [firstLt_yes ei] at hR
        wp_walk
        refine ⟨rfl, rfl, i + 1, fun x hx => ?_, hrem, hR⟩
        rcases Nat.lt_or_ge x i with c | c
        · exact same x c
        · rw [show x = i by omega]
          exact ei
      | false =>
        rw [firstLt_no ei] at hR
        have step := hrc i ia ib same ei prog w
        wp_walk using step
        exact ⟨_, rfl, by simpa using hR⟩
    case fin =>
      rintro ⟨c1, c2⟩ s' ⟨st1, rfl, i, same, hz, hR⟩
      simp only at st1
      subst st1
      have hge : min as.size bs.size ≤ i := by
        rcases Nat.lt_or_ge i (as.toList.zip bs.toList).length with c | c
        · rw [List.drop_eq_getElem_cons c] at hz
          cases hz
        · exact zl ▸ c
      rw [List.drop_of_length_le (by simpa using hge)] at hR
      wp_walk
      exact ⟨_, rfl, by simpa [Builtin.Tuple.tupleCompareSizes, firstLt] using hR⟩
    case h =>
      exact ⟨rfl, rfl, 0, fun x hx => absurd hx (Nat.not_lt_zero x), rfl, by simpa using hR0⟩
section
variable {A : Around} {s : Shared} {p q : Addr} {as bs : Array Value} {e r : Nat → Bool}
theorem rc_lt_tups (hp : s.heap.IsTuple p as) (hq : s.heap.IsTuple q bs) (hu : A.units < cLine) (he : ∀ j (h1 : j < as.size) (h2 : j < bs.size), EqAt A.in1 s as[j] bs[j] (e j))
    (hr : ∀ j (h1 : j < as.size) (h2 : j < bs.size), (∀ i, i < j → e i = true) → e j = false → Rc .Lt A.in1 s as[j] bs[j] (r j)) :
    Rc .Lt A s (.ref p) (.ref q) (firstLt e r (decide (as.size < bs.size)) (List.range (min as.size bs.size))) := fun prog w E Q k => by
  obtain ⟨⟨c1, d1, x1, z1⟩, o1, k1, n1, w1⟩ := id hp
  obtain ⟨⟨c2, d2, x2, z2⟩, o2, k2, n2, w2⟩ := id hq
  simp only at k1 w1 k2 w2
  subst k1 w1 k2 w2
  refine richCompare_meets_room (op := .Lt) ⟨_, o1, rfl⟩ ⟨_, o2, rfl⟩ F.slot_tuple_lt F.entry_tuple_lt (F.args_tuple_lt_2 _ _) (lt_mixed p q as bs n1 n2 d1 d2 z1 z2 e r) ?_ hu
  exact ⟨o1, o2, he, hr, ⟨(fun x => nomatch x), k⟩⟩
theorem rc_gt_tups (hp : s.heap.IsTuple p as) (hq : s.heap.IsTuple q bs) (hu : A.units < cLine) (he : ∀ j (h1 : j < as.size) (h2 : j < bs.size), EqAt A.in1 s as[j] bs[j] (e j))
    (hr : ∀ j (h1 : j < as.size) (h2 : j < bs.size), (∀ i, i < j → e i = true) → e j = false → Rc .Gt A.in1 s as[j] bs[j] (r j)) :
    Rc .Gt A s (.ref p) (.ref q) (firstLt e r (decide (as.size > bs.size)) (List.range (min as.size bs.size))) := fun prog w E Q k => by
  obtain ⟨⟨c1, d1, x1, z1⟩, o1, k1, n1, w1⟩ := id hp
  obtain ⟨⟨c2, d2, x2, z2⟩, o2, k2, n2, w2⟩ := id hq
  simp only at k1 w1 k2 w2
  subst k1 w1 k2 w2
  refine richCompare_meets_room (op := .Gt) ⟨_, o1, rfl⟩ ⟨_, o2, rfl⟩ F.slot_tuple_gt F.entry_tuple_gt (F.args_tuple_gt_2 _ _) (gt_mixed p q as bs n1 n2 d1 d2 z1 z2 e r) ?_ hu
  exact ⟨o1, o2, he, hr, ⟨(fun x => nomatch x), k⟩⟩
end
end KA

/-! < and > of data whose items may be of unlike kinds behind the first difference. -/
namespace KA
open PySem PySem.SeqAt
mutual
/-- x < y as Python says; none: not comparable -/
def dlt : PyData → PyData → Option Bool
  | .int a, .int b => some (decide (a < b))
  | .str a, .str b => some (decide (a.cps.toList < b.cps.toList))
  | .tuple xs, .tuple ys => dltAll xs ys
  | _, _ => none
def dltAll : List PyData → List PyData → Option Bool
  | [], [] => some false
  | [], _ :: _ => some true
  | _ :: _, [] => some false
  | x :: xs, y :: ys => if PyData.eqv x y = true then dltAll xs ys else dlt x y
end
mutual
def dgt : PyData → PyData → Option Bool
  | .int a, .int b => some (decide (a > b))
  | .str a, .str b => some (decide (b.cps.toList < a.cps.toList))
  | .tuple xs, .tuple ys => dgtAll xs ys
  | _, _ => none
def dgtAll : List PyData → List PyData → Option Bool
  | [], [] => some false
  | [], _ :: _ => some false
  | _ :: _, [] => some true
  | x :: xs, y :: ys => if PyData.eqv x y = true then dgtAll xs ys else dgt x y
end
/-- what the first unequal pair gives, by place -/
def rAt (f : PyData → PyData → Option Bool) (xs ys : List PyData) (j : Nat) : Bool :=
  match xs[j]?, ys[j]? with
  | some x, some y => (f x y).getD false
  | _, _ => false
theorem scan_succ (e r : Nat → Bool) (z : Bool) : ∀ l : List Nat, firstLt e r z (l.map (· + 1)) = firstLt (fun j => e (j + 1)) (fun j => r (j + 1)) z l
  | [] => rfl
  | j :: t => by
    rw [List.map_cons]
    show (if e (j + 1) = true then firstLt e r z (t.map (· + 1)) else r (j + 1)) = _
    rw [scan_succ e r z t]
    rfl
theorem scan_lt : ∀ (xs ys : List PyData) (k : Bool), dltAll xs ys = some k → firstLt (pairEq xs ys) (rAt dlt xs ys) (decide (xs.length < ys.length)) (List.range (min xs.length ys.length)) = k
  | [], [], k, h => by
    rw [dltAll] at h
    exact (Option.some.inj h)
  | [], y :: ys, k, h => by
    rw [dltAll] at h
    rw [← Option.some.inj h]
    simp [firstLt]
  | x :: xs, [], k, h => by
    rw [dltAll] at h
    rw [← Option.some.inj h]
    simp [firstLt]
  | x :: xs, y :: ys, k, h => by
    rw [dltAll] at h
    have em : min (x :: xs).length (y :: ys).length = min xs.length ys.length + 1 := by
      rw [List.length_cons, List.length_cons]
      omega
    rw [em, List.range_succ_eq_map]
    by_cases hxy : PyData.eqv x y = true
    · rw [if_pos hxy] at h
      rw [firstLt_yes (show pairEq (x :: xs) (y :: ys) 0 = true from hxy), scan_succ, ← scan_lt xs ys k h]
      simp only [List.length_cons, Nat.add_lt_add_iff_right]
      rfl
    · rw [if_neg hxy] at h
      have hf : PyData.eqv x y = false := by
        cases c : PyData.eqv x y
        · rfl
        · exact absurd c hxy
      rw [firstLt_no (show pairEq (x :: xs) (y :: ys) 0 = false from hf)]
      show (dlt x y).getD false = k
      rw [h]
      rfl
theorem scan_gt : ∀ (xs ys : List PyData) (k : Bool), dgtAll xs ys = some k → firstLt (pairEq xs ys) (rAt dgt xs ys) (decide (xs.length > ys.length)) (List.range (min xs.length ys.length)) = k
  | [], [], k, h => by
    rw [dgtAll] at h
    exact (Option.some.inj h)
  | [], y :: ys, k, h => by
    rw [dgtAll] at h
    rw [← Option.some.inj h]
    simp [firstLt]
  | x :: xs, [], k, h => by
    rw [dgtAll] at h
    rw [← Option.some.inj h]
    simp [firstLt]
  | x :: xs, y :: ys, k, h => by
    rw [dgtAll] at h
    have em : min (x :: xs).length (y :: ys).length = min xs.length ys.length + 1 := by
      rw [List.length_cons, List.length_cons]
      omega
    rw [em, List.range_succ_eq_map]
    by_cases hxy : PyData.eqv x y = true
    · rw [if_pos hxy] at h
      rw [firstLt_yes (show pairEq (x :: xs) (y :: ys) 0 = true from hxy), scan_succ, ← scan_gt xs ys k h]
      simp only [List.length_cons, gt_iff_lt, Nat.add_lt_add_iff_right]
      rfl
    · rw [if_neg hxy] at h
      have hf : PyData.eqv x y = false := by
        cases c : PyData.eqv x y
        · rfl
        · exact absurd c hxy
      rw [firstLt_no (show pairEq (x :: xs) (y :: ys) 0 = false from hf)]
      show (dgt x y).getD false = k
      rw [h]
      rfl
mutual
theorem rc_lt : ∀ (d e : PyData) (k : Bool) (A : Around) (s : Shared) (a b : Value) (as bs : List Addr), Reads s.heap a d as → Reads s.heap b e bs → d.plain = true → e.plain = true → dlt d e = some k →
    A.units + min d.depth e.depth < cLine → Rc .Lt A s a b k
  | .int x, e, k, A, s, a, b, as, bs, ra, rb, pd, pe, h, hu => by
    cases e with
    | int y =>
      cases ra
      cases rb
      intro prog w E Q hq
      rw [dlt] at h
      cases h
      exact P.lt_int hq
    | _ => exact absurd h (by simp [dlt])
  | .str x, e, k, A, s, a, b, as, bs, ra, rb, pd, pe, h, hu => by
    cases e with
    | str y =>
      cases ra
      cases rb
      intro prog w E Q hq
      rw [dlt] at h
      cases h
      exact P.lt_str hq
    | _ => exact absurd h (by simp [dlt])
  | .tuple xs, e, k, A, s, a, b, as, bs, ra, rb, pd, pe, h, hu => by
    cases e with
    | tuple ys =>
      rw [dlt] at h
      cases ra with
      | @tuple l o vs n _ as1 h1 h2 h3 h4 =>
        cases rb with
        | @tuple l2 o2 vs2 n2 _ bs1 k1 k2 k3 k4 =>
          have z1 : vs.size = xs.length := by simpa using ReadsAll.length _ _ _ h4
          have z2 : vs2.size = ys.length := by simpa using ReadsAll.length _ _ _ k4
          have px : PyData.plainAll xs = true := pd
          have py : PyData.plainAll ys = true := pe
          have q := rc_lt_tups (A := A) (s := s) (e := pairEq xs ys) (r := rAt dlt xs ys) ⟨_, h1, h2, _, h3⟩ ⟨_, k1, k2, _, k3⟩ (room_here hu) (fun j j1 j2 => by
            have t := eqAt_plainAll xs ys A.in1 s vs.toList vs2.toList _ _ h4 k4 px py (room_in hu) j (by simpa using j1) (by simpa using j2)
            simpa using t) (fun j j1 j2 hb hj => by
            have t := rc_ltAll xs ys k A.in1 s vs.toList vs2.toList _ _ h4 k4 px py h (room_in hu) j (by simpa using j1) (by simpa using j2) hb hj
            simpa using t)
          rw [z1, z2, scan_lt xs ys k h] at q
          exact q
    | _ => exact absurd h (by simp [dlt])
  | .none, e, k, _, _, _, _, _, _, _, _, _, _, h, _ => absurd h (by cases e <;> simp [dlt])
  | .bool _, e, k, _, _, _, _, _, _, _, _, _, _, h, _ => absurd h (by cases e <;> simp [dlt])
  | .list _, e, k, _, _, _, _, _, _, _, _, _, _, h, _ => absurd h (by cases e <;> simp [dlt])
  | .dict _, e, k, _, _, _, _, _, _, _, _, _, _, h, _ => absurd h (by cases e <;> simp [dlt])
theorem rc_ltAll : ∀ (xs ys : List PyData) (k : Bool) (A : Around) (s : Shared) (vs ws : List Value) (as bs : List Addr), ReadsAll s.heap vs xs as → ReadsAll s.heap ws ys bs → PyData.plainAll xs = true → PyData.plainAll ys = true →
    dltAll xs ys = some k → A.units + min (PyData.depthAll xs) (PyData.depthAll ys) < cLine → ∀ j (h1 : j < vs.length) (h2 : j < ws.length), (∀ i, i < j → pairEq xs ys i = true) → pairEq xs ys j = false →
    Rc .Lt A s vs[j] ws[j] (rAt dlt xs ys j)
  | [], _, _, _, _, _, _, _, _, ra, _, _, _, _, _, j, h1, _, _, _ => by
    cases ra
    exact absurd h1 (Nat.not_lt_zero _)
  | _ :: _, [], _, _, _, _, _, _, _, _, rb, _, _, _, _, j, _, h2, _, _ => by
    cases rb
    exact absurd h2 (Nat.not_lt_zero _)
  | x :: xs, y :: ys, k, A, s, _, _, _, _, ra, rb, pa, pb, h, hu, j, h1, h2, hb, hj => by
    have pa2 : x.plain = true ∧ PyData.plainAll xs = true := by simpa [PyData.plainAll] using pa
    have pb2 : y.plain = true ∧ PyData.plainAll ys = true := by simpa [PyData.plainAll] using pb
    rw [dltAll] at h
    cases ra with
    | cons r rs =>
      cases rb with
      | cons t ts =>
        cases j with
        | zero =>
          have hf : PyData.eqv x y = false := hj
          rw [if_neg (by rw [hf]; exact Bool.false_ne_true)] at h
          have q := rc_lt x y k A s _ _ _ _ r t pa2.1 pb2.1 h (room_head hu)
          have ek : rAt dlt (x :: xs) (y :: ys) 0 = k := by
            show (dlt x y).getD false = k
            rw [h]
            rfl
          rw [ek]
          exact q
        | succ j =>
          have ht : PyData.eqv x y = true := hb 0 (Nat.zero_lt_succ j)
          rw [if_pos ht] at h
          exact rc_ltAll xs ys k A s _ _ _ _ rs ts pa2.2 pb2.2 h (room_tail hu) j (Nat.lt_of_succ_lt_succ h1) (Nat.lt_of_succ_lt_succ h2) (fun i hi => hb (i + 1) (Nat.succ_lt_succ hi)) hj
end
mutual
theorem rc_gt : ∀ (d e : PyData) (k : Bool) (A : Around) (s : Shared) (a b : Value) (as bs : List Addr), Reads s.heap a d as → Reads s.heap b e bs → d.plain = true → e.plain = true → dgt d e = some k →
    A.units + min d.depth e.depth < cLine → Rc .Gt A s a b k
  | .int x, e, k, A, s, a, b, as, bs, ra, rb, pd, pe, h, hu => by
    cases e with
    | int y =>
      cases ra
      cases rb
      intro prog w E Q hq
      rw [dgt] at h
      cases h
      exact P.gt_int hq
    | _ => exact absurd h (by simp [dgt])
  | .str x, e, k, A, s, a, b, as, bs, ra, rb, pd, pe, h, hu => by
    cases e with
    | str y =>
      cases ra
      cases rb
      intro prog w E Q hq
      rw [dgt] at h
      cases h
      exact P.gt_str hq
    | _ => exact absurd h (by simp [dgt])
  | .tuple xs, e, k, A, s, a, b, as, bs, ra, rb, pd, pe, h, hu => by
    cases e with
    | tuple ys =>
      rw [dgt] at h
      cases ra with
      | @tuple l o vs n _ as1 h1 h2 h3 h4 =>
        cases rb with
        | @tuple l2 o2 vs2 n2 _ bs1 k1 k2 k3 k4 =>
          have z1 : vs.size = xs.length := by simpa using ReadsAll.length _ _ _ h4
          have z2 : vs2.size = ys.length := by simpa using ReadsAll.length _ _ _ k4
          have px : PyData.plainAll xs = true := pd
          have py : PyData.plainAll ys = true := pe
          have q := rc_gt_tups (A := A) (s := s) (e := pairEq xs ys) (r := rAt dgt xs ys) ⟨_, h1, h2, _, h3⟩ ⟨_, k1, k2, _, k3⟩ (room_here hu) (fun j j1 j2 => by
            have t := eqAt_plainAll xs ys A.in1 s vs.toList vs2.toList _ _ h4 k4 px py (room_in hu) j (by simpa using j1) (by simpa using j2)
            simpa using t) (fun j j1 j2 hb hj => by
            have t := rc_gtAll xs ys k A.in1 s vs.toList vs2.toList _ _ h4 k4 px py h (room_in hu) j (by simpa using j1) (by simpa using j2) hb hj
            simpa using t)
          rw [z1, z2, scan_gt xs ys k h] at q
          exact q
    | _ => exact absurd h (by simp [dgt])
  | .none, e, k, _, _, _, _, _, _, _, _, _, _, h, _ => absurd h (by cases e <;> simp [dgt])
  | .bool _, e, k, _, _, _, _, _, _, _, _, _, _, h, _ => absurd h (by cases e <;> simp [dgt])
  | .list _, e, k, _, _, _, _, _, _, _, _, _, _, h, _ => absurd h (by cases e <;> simp [dgt])
  | .dict _, e, k, _, _, _, _, _, _, _, _, _, _, h, _ => absurd h (by cases e <;> simp [dgt])
theorem rc_gtAll : ∀ (xs ys : List PyData) (k : Bool) (A : Around) (s : Shared) (vs ws : List Value) (as bs : List Addr), ReadsAll s.heap vs xs as → ReadsAll s.heap ws ys bs → PyData.plainAll xs = true → PyData.plainAll ys = true →
    dgtAll xs ys = some k → A.units + min (PyData.depthAll xs) (PyData.depthAll ys) < cLine → ∀ j (h1 : j < vs.length) (h2 : j < ws.length), (∀ i, i < j → pairEq xs ys i = true) → pairEq xs ys j = false →
    Rc .Gt A s vs[j] ws[j] (rAt dgt xs ys j)
  | [], _, _, _, _, _, _, _, _, ra, _, _, _, _, _, j, h1, _, _, _ => by
    cases ra
    exact absurd h1 (Nat.not_lt_zero _)
  | _ :: _, [], _, _, _, _, _, _, _, _, rb, _, _, _, _, j, _, h2, _, _ => by
    cases rb
    exact absurd h2 (Nat.not_lt_zero _)
  | x :: xs, y :: ys, k, A, s, _, _, _, _, ra, rb, pa, pb, h, hu, j, h1, h2, hb, hj => by
    have pa2 : x.plain = true ∧ PyData.plainAll xs = true := by simpa [PyData.plainAll] using pa
    have pb2 : y.plain = true ∧ PyData.plainAll ys = true := by simpa [PyData.plainAll] using pb
    rw [dgtAll] at h
    cases ra with
    | cons r rs =>
      cases rb with
      | cons t ts =>
        cases j with
        | zero =>
          have hf : PyData.eqv x y = false := hj
          rw [if_neg (by rw [hf]; exact Bool.false_ne_true)] at h
          have q := rc_gt x y k A s _ _ _ _ r t pa2.1 pb2.1 h (room_head hu)
          have ek : rAt dgt (x :: xs) (y :: ys) 0 = k := by
            show (dgt x y).getD false = k
            rw [h]
            rfl
          rw [ek]
          exact q
        | succ j =>
          have ht : PyData.eqv x y = true := hb 0 (Nat.zero_lt_succ j)
          rw [if_pos ht] at h
          exact rc_gtAll xs ys k A s _ _ _ _ rs ts pa2.2 pb2.2 h (room_tail hu) j (Nat.lt_of_succ_lt_succ h1) (Nat.lt_of_succ_lt_succ h2) (fun i hi => hb (i + 1) (Nat.succ_lt_succ hi)) hj
end
end KA

/-! Rules over the layer: data of tuples read by values, their comparisons, items of lists. -/
namespace KA
open PySem PySem.Spec PyProof.Rows L2
mutual
/-- a value that reads as data over the tuples that stand at H -/
inductive Tp (H : Hp) : V → PyData → Prop
  | non : Tp H .non .none
  | bl (b : Bool) : Tp H (.bl b) (.bool b)
  | int (i : Int) : Tp H (.int i) (.int i)
  | str (x : Str) : Tp H (.str x) (.str x)
  | tup {a : Addr} {xs : List V} {ds : List PyData} : H a = some (.tup xs) → Tps H xs ds → Tp H (.ref a) (.tuple ds)
inductive Tps (H : Hp) : List V → List PyData → Prop
  | nil : Tps H [] []
  | cons {v : V} {vs : List V} {d : PyData} {ds : List PyData} : Tp H v d → Tps H vs ds → Tps H (v :: vs) (d :: ds)
end
/-- the tuples stay -/
def Tk (H H' : Hp) : Prop := ∀ a xs, H a = some (.tup xs) → H' a = some (.tup xs)
theorem Tk.refl (H : Hp) : Tk H H := fun _ _ h => h
theorem Tk.trans {H H1 H2 : Hp} (a : Tk H H1) (b : Tk H1 H2) : Tk H H2 := fun x o h => b x o (a x o h)
theorem Tk.of {H H' : Hp} (s : Same H H') : Tk H H' := fun a _ h => s a _ h
theorem Tk.new {H : Hp} {p : Addr} {o : HO} (h : H p = none) : Tk H (upd H p o) := fun a xs e => by
  rw [upd_ne (ne_of_none e h)]
  exact e
theorem Tk.lst {H : Hp} {p : Addr} {ys : List V} {o : HO} (h : H p = some (.lst ys)) : Tk H (upd H p o) := fun a xs e => by
  rw [upd_ne (ne_of e h (fun z => by cases z))]
  exact e
mutual
theorem Tp.mono {H H' : Hp} (k : Tk H H') : ∀ {d : PyData} {v : V}, Tp H v d → Tp H' v d
  | .none, _, h => by cases h; exact .non
  | .bool _, _, h => by cases h; exact .bl _
  | .int _, _, h => by cases h; exact .int _
  | .str _, _, h => by cases h; exact .str _
  | .tuple _, _, h => by
    cases h with
    | tup e r => exact .tup (k _ _ e) (Tps.mono k r)
  | .list _, _, h => nomatch h
  | .dict _, _, h => nomatch h
theorem Tps.mono {H H' : Hp} (k : Tk H H') : ∀ {ds : List PyData} {vs : List V}, Tps H vs ds → Tps H' vs ds
  | [], _, h => by cases h; exact .nil
  | _ :: _, _, h => by
    cases h with
    | cons a r => exact .cons (Tp.mono k a) (Tps.mono k r)
end
mutual
theorem Tp.dp {K : PySem.W.Frag} {H : Hp} : ∀ {d : PyData} {v : V}, Tp H v d → Dp K H v d
  | .none, _, h => by cases h; exact .non
  | .bool _, _, h => by cases h; exact .bl _
  | .int _, _, h => by cases h; exact .int _
  | .str _, _, h => by cases h; exact .str _
  | .tuple _, _, h => by
    cases h with
    | tup e r => exact .tup (SqT.of e) (Tps.dp r)
  | .list _, _, h => nomatch h
  | .dict _, _, h => nomatch h
theorem Tps.dp {K : PySem.W.Frag} {H : Hp} : ∀ {ds : List PyData} {vs : List V}, Tps H vs ds → DpAll K H vs ds
  | [], _, h => by cases h; exact .nil
  | _ :: _, _, h => by
    cases h with
    | cons a r => exact .cons (Tp.dp a) (Tps.dp r)
end
mutual
theorem Tp.plain {H : Hp} : ∀ {d : PyData} {v : V}, Tp H v d → d.plain = true
  | .none, _, _ => rfl
  | .bool _, _, _ => rfl
  | .int _, _, _ => rfl
  | .str _, _, _ => rfl
  | .tuple _, _, h => by
    cases h with
    | tup e r => exact Tps.plain r
  | .list _, _, h => nomatch h
  | .dict _, _, h => nomatch h
theorem Tps.plain {H : Hp} : ∀ {ds : List PyData} {vs : List V}, Tps H vs ds → PyData.plainAll ds = true
  | [], _, _ => rfl
  | _ :: _, _, h => by
    cases h with
    | cons a r =>
      rw [PyData.plainAll, Tp.plain a, Tps.plain r]
      rfl
end
theorem Tps.length {H : Hp} : ∀ {ds : List PyData} {vs : List V}, Tps H vs ds → vs.length = ds.length
  | [], _, h => by cases h; rfl
  | _ :: _, _, h => by
    cases h with
    | cons a r => rw [List.length_cons, List.length_cons, Tps.length r]
theorem Tps.get {H : Hp} : ∀ {ds : List PyData} {vs : List V} {i : Nat} {v : V}, Tps H vs ds → vs[i]? = some v → ∃ d, ds[i]? = some d ∧ Tp H v d
  | [], _, _, _, h, e => by
    cases h
    simp at e
  | d :: _, _, 0, _, h, e => by
    cases h with
    | cons a r =>
      cases e
      exact ⟨d, rfl, a⟩
  | _ :: _, _, i + 1, _, h, e => by
    cases h with
    | cons a r => exact Tps.get (i := i) r e
theorem Tps.at_ {H : Hp} : ∀ {ds : List PyData} {vs : List V} {i : Nat} {d : PyData}, Tps H vs ds → ds[i]? = some d → ∃ v, vs[i]? = some v ∧ Tp H v d
  | [], _, _, _, h, e => by
    simp at e
  | d :: _, _, 0, _, h, e => by
    cases h with
    | cons a r =>
      cases e
      exact ⟨_, rfl, a⟩
  | _ :: _, _, i + 1, _, h, e => by
    cases h with
    | cons a r => exact Tps.at_ (i := i) r e
theorem Tps.append {H : Hp} : ∀ {ds es : List PyData} {vs ws : List V}, Tps H vs ds → Tps H ws es → Tps H (vs ++ ws) (ds ++ es)
  | [], _, _, _, h, h2 => by cases h; exact h2
  | _ :: _, _, _, _, h, h2 => by
    cases h with
    | cons a r => exact .cons a (Tps.append r h2)

section
variable {X : Cx}
/-- the room that a comparison of data wants -/
def small (d : PyData) : Prop := d.depth ≤ 64
theorem room_d {X : Cx} {d e : PyData} (hu : X.A.units + 64 < cLine) (sd : small d) : X.A.units + min d.depth e.depth < cLine :=
  Nat.lt_of_le_of_lt (Nat.add_le_add_left (Nat.le_trans (Nat.min_le_left _ _) sd) _) hu
def rEqP : R2 := fun x y H Q => ∃ d e, Tp H x d ∧ Tp H y e ∧ small d ∧ Q (.bl (PyData.eqv d e)) H
def rNeP : R2 := fun x y H Q => ∃ d e, Tp H x d ∧ Tp H y e ∧ small d ∧ Q (.bl (!PyData.eqv d e)) H
def rLtP : R2 := fun x y H Q => ∃ d e k, Tp H x d ∧ Tp H y e ∧ small d ∧ dlt d e = some k ∧ Q (.bl k) H
def rGtP : R2 := fun x y H Q => ∃ d e k, Tp H x d ∧ Tp H y e ∧ small d ∧ dgt d e = some k ∧ Q (.bl k) H
theorem op_eqP (hu : X.A.units + 64 < cLine) : OpR X (compareOp .Eq) rEqP := by
  intro pins s σ H x y v u Q I rx ry h
  obtain ⟨d, e, hd, he, sd, q⟩ := h
  obtain ⟨as, r1⟩ := Dp.reads I d x v hd.dp rx
  obtain ⟨bs, r2⟩ := Dp.reads I e y u he.dp ry
  exact SeqAt.eq_plain r1 r2 hd.plain he.plain (room_d hu sd) ⟨.bl _, H, I, rfl, q⟩
theorem op_neP (hu : X.A.units + 64 < cLine) : OpR X (compareOp .NotEq) rNeP := by
  intro pins s σ H x y v u Q I rx ry h
  obtain ⟨d, e, hd, he, sd, q⟩ := h
  obtain ⟨as, r1⟩ := Dp.reads I d x v hd.dp rx
  obtain ⟨bs, r2⟩ := Dp.reads I e y u he.dp ry
  exact SeqAt.ne_plain r1 r2 hd.plain he.plain (room_d hu sd) ⟨.bl _, H, I, rfl, q⟩
theorem op_ltP (hu : X.A.units + 64 < cLine) : OpR X (compareOp .Lt) rLtP := by
  intro pins s σ H x y v u Q I rx ry h
  obtain ⟨d, e, k, hd, he, sd, hk, q⟩ := h
  obtain ⟨as, r1⟩ := Dp.reads I d x v hd.dp rx
  obtain ⟨bs, r2⟩ := Dp.reads I e y u he.dp ry
  exact rc_lt d e k _ _ _ _ _ _ r1 r2 hd.plain he.plain hk (room_d hu sd) _ _ _ _ ⟨.bl _, H, I, rfl, q⟩
theorem op_gtP (hu : X.A.units + 64 < cLine) : OpR X (compareOp .Gt) rGtP := by
  intro pins s σ H x y v u Q I rx ry h
  obtain ⟨d, e, k, hd, he, sd, hk, q⟩ := h
  obtain ⟨as, r1⟩ := Dp.reads I d x v hd.dp rx
  obtain ⟨bs, r2⟩ := Dp.reads I e y u he.dp ry
  exact rc_gt d e k _ _ _ _ _ _ r1 r2 hd.plain he.plain hk (room_d hu sd) _ _ _ _ ⟨.bl _, H, I, rfl, q⟩
/-- xs[i] of a list, the place not below 0, as an operator's left side asks it -/
def rGetN : V → V → Hp → VK → Prop := fun x y H Q => ∃ p xs, ∃ i : Nat, ∃ v, x = .ref p ∧ y = .int i ∧ H p = some (.lst xs) ∧ xs[i]? = some v ∧ Q v H
theorem get_list : PGet X rGetN := by
  intro pins s σ H o i ov iv Q I ro ri h
  obtain ⟨p, xs, n, v, rfl, rfl, hp, hv, q⟩ := h
  cases ro
  obtain ⟨t, rfl⟩ := ri
  obtain ⟨its, r, pl, hz⟩ := I.list (SqL.of hp)
  obtain ⟨w, ew, rw'⟩ := r.get hv
  have hl := r.length
  have hn := line63
  have hi : n < xs.length := by
    rcases Nat.lt_or_ge n xs.length with c | c
    · exact c
    · rw [List.getElem?_eq_none c] at hv
      cases hv
  exact wpAny_getItem_list pl.isList (by omega) (by omega) (by simpa using ew) ⟨v, H, I, rw', q⟩
end
/-- what a value is, for isinstance -/
theorem Tp.tyx {K : PySem.W.Frag} {H : Hp} {v : V} {d : PyData} (h : Tp H v d) : ∃ n, TyX K H v (.type n) ∧
    n = (match d with | .none => "NoneType" | .bool _ => "bool" | .int _ => "int" | .str _ => "str" | .tuple _ => "tuple" | .list _ => "list" | .dict _ => "dict") := by
  cases h with
  | non => exact ⟨_, .base .non, rfl⟩
  | bl b => exact ⟨_, .base (.bl b), rfl⟩
  | int i => exact ⟨_, .base (.int i), rfl⟩
  | str x => exact ⟨_, .base (.str x), rfl⟩
  | tup e r => exact ⟨_, .base (.tup e), rfl⟩
end KA

namespace KD
open PySem PySem.Spec PyProof.Rows L2 KA
/-! ### the text -/
def topS (i : Nat) : Stmt := PySem.Challenge.pw_rulestead_k03_changes.main.body.getD i (.Pass ⟨0, 0, 0, 0⟩)
/-- the built-in names that are still the built-in ones -/
structure Bt (mg : Str → Option Value) : Prop where
  len : mg "len" = none
  int : mg "int" = none
  isi : mg "isinstance" = none
  bool : mg "bool" = none
  str : mg "str" = none
  tup : mg "tuple" = none
  lst : mg "list" = none
  rng : mg "range" = none
  min : mg "min" = none
/-! ### the drawing state -/
/-- all that is tracked but the state's own list stays -/
def Kp (st : Addr) (H H' : Hp) : Prop := ∀ a o, a ≠ st → H a = some o → H' a = some o
theorem Kp.refl (st : Addr) (H : Hp) : Kp st H H := fun _ _ _ h => h
theorem Kp.trans {st : Addr} {H H1 H2 : Hp} (a : Kp st H H1) (b : Kp st H1 H2) : Kp st H H2 := fun x o n h => b x o n (a x o n h)
theorem Kp.of {st : Addr} {H H' : Hp} (s : Same H H') : Kp st H H' := fun a o _ h => s a o h
theorem Kp.st {st : Addr} {H : Hp} {o : HO} : Kp st H (upd H st o) := fun a u n h => by
  rw [upd_ne n]
  exact h
theorem Kp.new {st p : Addr} {H : Hp} {o : HO} (h : H p = none) : Kp st H (upd H p o) := fun a u _ e => by
  rw [upd_ne (ne_of_none e h)]
  exact e
/-- the drawing state at st: the script's copy at L, the place, the rest of a great cell, the seed -/
def Good (st L : Addr) (H : Hp) : Prop := ∃ (ns : List Int) (i : Nat) (a b : Int), H st = some (.lst [.ref L, .int i, .int a, .int b]) ∧ H L = some (.lst (ns.map V.int)) ∧ 0 ≤ a ∧ 0 ≤ b
/-- from H on only drawing and new objects -/
structure Dr (st L : Addr) (H H' : Hp) : Prop where
  kp : Kp st H H'
  good : Good st L H'
theorem Dr.refl {st L : Addr} {H : Hp} (g : Good st L H) : Dr st L H H := ⟨Kp.refl st H, g⟩
theorem Dr.trans {st L : Addr} {H H1 H2 : Hp} (a : Dr st L H H1) (b : Dr st L H1 H2) : Dr st L H H2 := ⟨a.kp.trans b.kp, b.good⟩
theorem Good.tk {st L : Addr} {H H' : Hp} (g : Good st L H) (k : Kp st H H') : Tk H H' := fun a xs h => by
  obtain ⟨ns, i, c, b, e, _⟩ := g
  exact k a _ (ne_of h e (fun z => by cases z)) h
theorem Dr.tk {st L : Addr} {H H' : Hp} (d : Dr st L H H') (g : Good st L H) : Tk H H' := g.tk d.kp
/-- an object that H does not know is written -/
theorem Dr.put {st L D : Addr} {H H' : Hp} {o : HO} (d : Dr st L H H') (g : Good st L H) (n : H D = none) : Dr st L H (upd H' D o) := by
  refine ⟨fun a u h1 h2 => ?_, ?_⟩
  · rw [upd_ne (ne_of_none h2 n)]
    exact d.kp a u h1 h2
  · obtain ⟨ns0, i0, a0, b0, e0, l0, _⟩ := g
    obtain ⟨ns, i, a, b, e, l, r⟩ := d.good
    refine ⟨ns, i, a, b, ?_, ?_, r⟩
    · rw [upd_ne (ne_of_none e0 n)]
      exact e
    · rw [upd_ne (ne_of_none l0 n)]
      exact l
theorem Dr.new {st L p : Addr} {H : Hp} {o : HO} (g : Good st L H) (h : H p = none) : Dr st L H (upd H p o) := (Dr.refl g).put g h
theorem Dr.add {st L p : Addr} {H H' : Hp} {o : HO} (d : Dr st L H H') (h : H' p = none) : Dr st L H (upd H' p o) := d.trans (Dr.new d.good h)
theorem Dr.same {st L : Addr} {H H' : Hp} (g : Good st L H) (s : Same H H') : Dr st L H H' := by
  refine ⟨Kp.of s, ?_⟩
  obtain ⟨ns, i, a, b, e, l, r⟩ := g
  exact ⟨ns, i, a, b, s _ _ e, s _ _ l, r⟩
/-- what was there is there -/
theorem Dr.at_ {st L p : Addr} {H H' : Hp} {o : HO} (d : Dr st L H H') (n : p ≠ st) (h : H p = some o) : H' p = some o := d.kp p o n h
theorem Dr.tup {st L p : Addr} {H H' : Hp} {xs : List V} (d : Dr st L H H') (g : Good st L H) (h : H p = some (.tup xs)) : H' p = some (.tup xs) := d.tk g p xs h
/-- an address that is free behind is free ahead -/
theorem Dr.free {st L p : Addr} {H H' : Hp} (d : Dr st L H H') (h : H' p = none) : H p = none := by
  cases c : H p with
  | none => rfl
  | some o =>
    by_cases e : p = st
    · subst e
      obtain ⟨ns, i, a, b, e2, _⟩ := d.good
      rw [e2] at h
      cases h
    · rw [d.kp p o e c] at h
      cases h
theorem ref_ne_ints {L : Addr} {ns : List Int} {r : List V} : HO.lst (.ref L :: r) ≠ HO.lst (ns.map V.int) := by
  cases ns with
  | nil => intro e; cases e
  | cons x xs => intro e; cases e
section
variable {P : Program} {w : World} {K : PySem.W.Frag} {mg : Str → Option Value} {base : Heap}
theorem pM : (0 : Int) < 2147483647 := by decide
/-! ### _law_next -/
abbrev sNext : Stmt := topS 11
theorem scNext : FnScope ["state", "limit", "cell", "value"] ["state", "limit"] (defScope sNext) := ⟨rfl, rfl, rfl, by decide +kernel, rfl, by decide +kernel, by decide +kernel⟩
def spNext : Sp := fun vs H Q _ => ∃ (st L : Addr) (lim : Int), vs = [.ref st, .int lim] ∧ Good st L H ∧ 0 < lim ∧ lim < 2 ^ 200 ∧ ∀ (v : Int) H', Dr st L H H' → 0 ≤ v → v < lim → Q (.int v) H'
theorem ok_next {f : Addr} {fd : FuncData} {k : Nat} (F : Fun K "_law_next" "_law_next" sNext f fd) (B : Bt mg) : FnOk P w K mg base CX0 (k + 1) f fd ["state", "limit"] spNext := by
  refine F.ok scNext (fun vs H Q E h => ?_) (fun cdv A outer s H vs Q E hr h => ?_)
  · obtain ⟨st, L, lim, rfl, _⟩ := h
    rfl
  · obtain ⟨st, L, lim, rfl, g, l0, l1, q⟩ := h
    refine ⟨_, C8.pss_cut (ps_if (PW.pt (pw_and (pt_cmpR op_eq (pe_ix ix_list (pv 0) pe_int (fun _ _ => rfl)) pe_int (nomark _))
          (pw_and1 (pt_cmpR op_lt (pe_ix ix_list (pv 0) pe_int (fun _ _ => rfl)) (pe_callB call_len_seq (by rfl) B.len PySem.boot_len (pa_cons (pe_ix ix_list (pv 0) pe_int (fun _ _ => rfl)) pa_nil)) (nomark _)))))
        (pss_cons (ps_set (i := 2) scNext.nd rfl (.inl rfl) (pe_ix ix_list (pe_ix ix_list (pv 0) pe_int (fun _ _ => rfl)) (pe_ix ix_list (pv 0) pe_int (fun _ _ => rfl)) (fun _ _ => rfl)))
        (pss_cons (ps_augS (pv 0) pe_int get_list pe_int ip_add set_list)
        (pss_one (ps_if (pt_cmpR op_ge (pv 2) (pe_op op_pow pe_int pe_int) (nomark _))
          (pss_one (ps_asg (pv 2) (pg_sub (pv 0) pe_int set_list)))
          (pss_one (ps_asg (pe_op op_mod (pe_callTy call_int1 (by rfl) B.int (by decide +kernel) (pa_cons (pe_op op_add (pe_op op_add (pe_op op_mul (pe_ix ix_list (pv 0) pe_int (fun _ _ => rfl)) pe_int)
              (pe_op op_mod (pe_callTy call_int1 (by rfl) B.int (by decide +kernel) (pa_cons (pv 2) pa_nil)) pe_int)) pe_int) pa_nil)) pe_int) (pg_sub (pv 0) pe_int set_list)))))))
        pss_nil)
      (C8.pss_cut (ps_if (pt_cmpR op_gt (pe_ix ix_list (pv 0) pe_int (fun _ _ => rfl)) pe_int (nomark _))
        (pss_cons (ps_set (i := 3) scNext.nd rfl (.inl rfl) (pe_op op_mod (pe_callTy call_int1 (by rfl) B.int (by decide +kernel) (pa_cons (pe_ix ix_list (pv 0) pe_int (fun _ _ => rfl)) pa_nil)) (pv 1)))
        (pss_cons (ps_asg (pe_op op_fdivW (pe_ix ix_list (pv 0) pe_int (fun _ _ => rfl)) (pv 1)) (pg_sub (pv 0) pe_int set_list))
        (pss_one (ps_ret (pv 3)))))
        pss_nil)
      (pss_cons (ps_asg (pe_op op_mod (pe_callTy call_int1 (by rfl) B.int (by decide +kernel) (pa_cons (pe_op op_add (pe_op op_mul (pe_ix ix_list (pv 0) pe_int (fun _ _ => rfl)) pe_int) pe_int) pa_nil)) pe_int) (pg_sub (pv 0) pe_int set_list))
      (pss_one (ps_ret (pe_op op_mod (pe_callTy call_int1 (by rfl) B.int (by decide +kernel) (pa_cons (pe_op op_fdiv (pe_ix ix_list (pv 0) pe_int (fun _ _ => rfl)) pe_int) pa_nil)) (pv 1)))))), ?_⟩
    obtain ⟨ns, i, a, b, e, eL, a0, b0⟩ := g
    have nL : L ≠ st := fun z => by
      subst z
      rw [e] at eL
      exact ref_ne_ints (Option.some.inj eL)
    have put : ∀ {H1 : Hp} (i' : Nat) (a' b' : Int), Kp st H H1 → 0 ≤ a' → 0 ≤ b' → Dr st L H (upd H1 st (.lst [.ref L, .int i', .int a', .int b'])) := fun i' a' b' k ha hb =>
      ⟨k.trans Kp.st, ns, i', a', b', upd_same, by
        rw [upd_ne nL]
        exact k L _ nL eL, ha, hb⟩
    refine ⟨fun σ' H' => ∃ x2 x3 i' a' b', σ' = [some (.ref st), some (.int lim), x2, x3] ∧ Kp st H H' ∧ H' st = some (.lst [.ref L, .int ((i' : Nat) : Int), .int a', .int b']) ∧ 0 ≤ a' ∧ 0 ≤ b', ?_, ?_⟩
    · -- the first if
      refine ⟨.ref st, rfl, st, _, 2, .int a, rfl, rfl, SqL.of e, rfl, rfl, _, rfl, ite2 (fun z => ?_) (fun z => ?_)⟩
      · refine ⟨.ref st, rfl, st, _, 1, .int (i : Nat), rfl, rfl, SqL.of e, rfl, .ref st, rfl, st, _, 0, .ref L, rfl, rfl, SqL.of e, rfl, L, _, rfl, .inl (SqL.of eL), _, _, rfl, rfl, _, rfl, ite2 (fun hi => ?_) (fun hi => ?_)⟩
        · have hlt : i < ns.length := by
            have t := of_decide_eq_true hi
            rw [List.length_map] at t
            omega
          have gc : (ns.map V.int)[i]? = some (.int ns[i]) := by
            rw [List.getElem?_map, List.getElem?_eq_getElem hlt]
            rfl
          refine ⟨.ref st, rfl, st, _, 0, .ref L, rfl, rfl, SqL.of e, rfl, .ref st, rfl, st, _, 1, .int (i : Nat), rfl, rfl, SqL.of e, rfl, L, _, (i : Nat), .int ns[i], rfl, rfl, SqL.of eL, atI_nat gc, ?_⟩
          refine ⟨.ref st, rfl, st, _, 1, .int (i : Nat), rfl, rfl, e, rfl, _, _, rfl, rfl, st, _, 1, 1, rfl, rfl, e, rfl, ?_⟩
          have e1 : upd H st (.lst (([.ref L, .int (i : Nat), .int a, .int b] : List V).set 1 (.int ((i : Nat) + 1)))) st = some (.lst [.ref L, .int ((i + 1 : Nat) : Int), .int a, .int b]) := upd_same
          have k1 : Kp st H (upd H st (.lst (([.ref L, .int (i : Nat), .int a, .int b] : List V).set 1 (.int ((i : Nat) + 1))))) := Kp.st
          refine ⟨.int ns[i], rfl, 10, 18, rfl, rfl, ⟨by decide, by decide, by decide⟩, _, _, rfl, rfl, _, rfl, ite2 (fun hb => ?_) (fun hb => ?_)⟩
          · have hb2 : (10 : Int) ^ 18 ≤ ns[i] := of_decide_eq_true hb
            refine ⟨.int ns[i], rfl, .ref st, rfl, st, _, 2, 2, rfl, rfl, e1, rfl, ?_⟩
            exact ⟨some (.int ns[i]), none, i + 1, ns[i], b, rfl, k1.trans Kp.st, upd_same, by omega, b0⟩
          · refine ⟨.ref st, rfl, st, _, 3, .int b, rfl, rfl, SqL.of e1, rfl, b, 48271, rfl, rfl, .inr ⟨by decide, by decide⟩, .int ns[i], rfl, .inl ⟨_, rfl, _, _, rfl, rfl, pM, _, _, rfl, rfl, _, _, rfl, rfl, .inl ⟨_, rfl, _, _, rfl, rfl, pM, ?_⟩⟩⟩
            refine ⟨.ref st, rfl, st, _, 3, 3, rfl, rfl, e1, rfl, ?_⟩
            exact ⟨some (.int ns[i]), none, i + 1, a, _, rfl, k1.trans Kp.st, upd_same, a0, Int.emod_nonneg _ (by decide)⟩
        · exact ⟨none, none, i, a, b, rfl, Kp.refl st H, e, a0, b0⟩
      · exact iteF ⟨none, none, i, a, b, rfl, Kp.refl st H, e, a0, b0⟩
    · intro σ' H' hm
      obtain ⟨x2, x3, i', a', b', rfl, k', e', a0', b0'⟩ := hm
      refine ⟨fun σ2 H2 => ∃ x2 x3, σ2 = [some (.ref st), some (.int lim), x2, x3] ∧ H2 = H', ?_, ?_⟩
      · refine ⟨.ref st, rfl, st, _, 2, .int a', rfl, rfl, SqL.of e', rfl, _, _, rfl, rfl, _, rfl, ite2 (fun z => ?_) (fun z => ?_)⟩
        · have z2 : (0 : Int) < a' := of_decide_eq_true z
          refine ⟨.ref st, rfl, st, _, 2, .int a', rfl, rfl, SqL.of e', rfl, .inl ⟨_, rfl, .int lim, rfl, _, _, rfl, rfl, l0, ?_⟩⟩
          refine ⟨.ref st, rfl, st, _, 2, .int a', rfl, rfl, SqL.of e', rfl, .int lim, rfl, _, _, rfl, rfl, wide_div (b := 200) l0 (by omega) (by decide) (by decide), .ref st, rfl, st, _, 2, 2, rfl, rfl, e', rfl, ?_⟩
          refine ⟨.int (a' % lim), rfl, ?_⟩
          exact q _ _ (put i' (a' / lim) b' k' (Int.ediv_nonneg a0' (Int.le_of_lt l0)) b0') (Int.emod_nonneg _ (by omega)) (Int.emod_lt_of_pos _ l0)
        · exact ⟨x2, x3, rfl, rfl⟩
      · intro σ2 H2 hm2
        obtain ⟨y2, y3, rfl, rfl⟩ := hm2
        refine ⟨.ref st, rfl, st, _, 3, .int b', rfl, rfl, SqL.of e', rfl, _, _, rfl, rfl, .inr ⟨by decide, by decide⟩, _, _, rfl, rfl, .inl ⟨_, rfl, _, _, rfl, rfl, pM, ?_⟩⟩
        refine ⟨.ref st, rfl, st, _, 3, 3, rfl, rfl, e', rfl, ?_⟩
        refine ⟨.ref st, rfl, st, _, 3, .int ((b' * 69621 + 12345) % 2147483647), rfl, rfl, SqL.of upd_same, rfl, _, _, rfl, rfl, ⟨by decide, by decide⟩, .inl ⟨_, rfl, .int lim, rfl, _, _, rfl, rfl, l0, ?_⟩⟩
        exact q _ _ (put i' a' _ k' a0' (Int.emod_nonneg _ (by decide))) (Int.emod_nonneg _ (by omega)) (Int.emod_lt_of_pos _ l0)
end
end KD

namespace KD
open PySem PySem.Spec PyProof.Rows L2 KA
/-- a def of the text as its callers know it -/
structure Def (P : Program) (w : World) (K : PySem.W.Frag) (mg : Str → Option Value) (base : Heap) (x : Str) (k : Nat) (ps : List Str) (sp : Sp) : Prop where
  ex : ∃ (f : Addr) (fd : FuncData), FnOk P w K mg base CX0 k f fd ps sp ∧ mg x = some (.ref f) ∧ PySem.W.keepIn K (.ref f) = true ∧ Binds K fd ps []
section
variable {X : Cx} {k : Nat} {x : Str} {ps : List Str} {sp : Sp} {e : Expr} {es : List Expr} {t : TA} {p pos : Pos}
theorem pe_def (D : Def X.prog X.w X.K X.mg X.base x k ps sp) (hr : Room k X.A) (hg : Gl X x) (ha : PA X (e :: es) t) (hdb : (x == ("__debug__" : Str)) = false := by decide)
    (he : starEach (e :: es) X.env = (false, eval e X.env) :: starEach es X.env := by rfl) (hpl : (backTo pos (starEach es X.env)).any (·.1) = false := by rfl) : PE X (.Call (.Name x p) (e :: es) [] pos) (tCall sp [] E0 t) := by
  obtain ⟨f, fd, F, hm, hk, hb⟩ := D.ex
  exact pe_call F hr hg hm hk hb .nil pass0 ha hdb he hpl
theorem pe_def0 (D : Def X.prog X.w X.K X.mg X.base x k ps sp) (hr : Room k X.A) (hg : Gl X x) (hdb : (x == ("__debug__" : Str)) = false := by decide) : PE X (.Call (.Name x p) [] [] pos) (tCall sp [] E0 tNil) := by
  obtain ⟨f, fd, F, hm, hk, hb⟩ := D.ex
  exact pe_call0 F hr hg hm hk hb .nil pass0 hdb
end
section
variable {P : Program} {w : World} {K : PySem.W.Frag} {mg : Str → Option Value} {base : Heap}
abbrev dNext (P : Program) (w : World) (K : PySem.W.Frag) (mg : Str → Option Value) (base : Heap) : Prop := Def P w K mg base "_law_next" 1 ["state", "limit"] spNext
/-! ### _law_characters -/
abbrev sChars : Stmt := topS 13
theorem scChars : FnScope [] [] (defScope sChars) := ⟨rfl, rfl, rfl, by decide +kernel, rfl, by decide +kernel, by decide +kernel⟩
def spChars : Sp := fun vs H Q _ => vs = [] ∧ ∀ z : Str, z.length = 94 → Q (.str z) H
theorem ok_chars {f : Addr} {fd : FuncData} (F : Fun K "_law_characters" "_law_characters" sChars f fd) : FnOk P w K mg base CX0 1 f fd [] spChars := by
  refine F.ok scChars (fun vs H Q E h => ?_) (fun cdv A outer s H vs Q E hr h => ?_)
  · obtain ⟨rfl, _⟩ := h
    rfl
  · obtain ⟨rfl, q⟩ := h
    refine ⟨_, pss_one (ps_ret pe_str), ?_⟩
    exact q _ (by decide +kernel)
/-! ### _law_value -/
/-- an int or a text -/
def Atom (v : V) (d : PyData) : Prop := (∃ i, v = .int i ∧ d = .int i) ∨ ∃ z, v = .str z ∧ d = .str z
def isAtom : PyData → Prop
  | .int _ => True
  | .str _ => True
  | _ => False
abbrev sVal : Stmt := topS 14
theorem scVal : FnScope ["state", "pick", "start", "step", "j"] ["state"] (defScope sVal) := ⟨rfl, rfl, rfl, by decide +kernel, rfl, by decide +kernel, by decide +kernel⟩
def spVal : Sp := fun vs H Q _ => ∃ (st L : Addr), vs = [.ref st] ∧ Good st L H ∧ ∀ (v : V) (d : PyData) H', Dr st L H H' → isAtom d → (∀ H2, Tp H2 v d) → Q v H'
theorem fin_int {st L : Addr} {H H' : Hp} {Q : VK} {i : Int} (q : ∀ (v : V) (d : PyData) H', Dr st L H H' → isAtom d → (∀ H2, Tp H2 v d) → Q v H') (d : Dr st L H H') : Q (.int i) H' := q _ (.int i) _ d trivial (fun _ => .int i)
theorem fin_str {st L : Addr} {H H' : Hp} {Q : VK} {z : Str} (q : ∀ (v : V) (d : PyData) H', Dr st L H H' → isAtom d → (∀ H2, Tp H2 v d) → Q v H') (d : Dr st L H H') : Q (.str z) H' := q _ (.str z) _ d trivial (fun _ => .str z)
theorem nat_of {i : Int} (h : 0 ≤ i) : ∃ n : Nat, i = n := ⟨i.toNat, by omega⟩
theorem lit4 {v : Int} {a b c d : V} (h0 : 0 ≤ v) (h4 : v < 4) : ∃ y, atI [a, b, c, d] v = some y ∧ (y = a ∨ y = b ∨ y = c ∨ y = d) := by
  have c4 : v = 0 ∨ v = 1 ∨ v = 2 ∨ v = 3 := by omega
  rcases c4 with rfl | rfl | rfl | rfl
  · exact ⟨a, rfl, .inl rfl⟩
  · exact ⟨b, rfl, .inr (.inl rfl)⟩
  · exact ⟨c, rfl, .inr (.inr (.inl rfl))⟩
  · exact ⟨d, rfl, .inr (.inr (.inr rfl))⟩
theorem ok_val {f : Addr} {fd : FuncData} (F : Fun K "_law_value" "_law_value" sVal f fd) (B : Bt mg) (DN : dNext P w K mg base) (DC : Def P w K mg base "_law_characters" 1 [] spChars) : FnOk P w K mg base CX0 2 f fd ["state"] spVal := by
  refine F.ok scVal (fun vs H Q E h => ?_) (fun cdv A outer s H vs Q E hr h => ?_)
  · obtain ⟨st, L, rfl, _⟩ := h
    rfl
  · obtain ⟨st, L, rfl, g, q⟩ := h
    refine ⟨_, pss_cons (ps_set (i := 1) scVal.nd rfl (.inl rfl) (pe_def DN hr (by rfl) (pa_cons (pv 0) (pa_cons pe_int pa_nil))))
      (pss_cons (ps_if (pt_cmpR op_lt (pv 1) pe_int (nomark _)) (pss_one (ps_ret (pe_ix ix_list (pe_lst (pa_cons pe_int (pa_cons pe_int (pa_cons pe_int (pa_cons (pe_un un_neg pe_int) pa_nil))))) (pv 1) (fun _ _ => rfl)))) pss_nil)
      (pss_cons (ps_if (pt_cmpR op_eq (pv 1) pe_int (nomark _)) (pss_one (ps_ret (pe_op op_mul (pe_op op_sub pe_int (pe_op op_mul pe_int (pe_def DN hr (by rfl) (pa_cons (pv 0) (pa_cons pe_int pa_nil)))))
          (pe_op op_sub (pe_op op_sub (pe_op op_pow pe_int pe_int) pe_int) (pe_def DN hr (by rfl) (pa_cons (pv 0) (pa_cons pe_int pa_nil))))))) pss_nil)
      (pss_cons (ps_if (pt_cmpR op_eq (pv 1) pe_int (nomark _)) (pss_one (ps_ret (pe_op op_mul (pe_op op_sub pe_int (pe_op op_mul pe_int (pe_def DN hr (by rfl) (pa_cons (pv 0) (pa_cons pe_int pa_nil)))))
          (pe_ix ix_list (pe_lst (pa_cons pe_int (pa_cons pe_int (pa_cons pe_int (pa_cons pe_int (pa_cons (pe_def DN hr (by rfl) (pa_cons (pv 0) (pa_cons (pe_op op_pow pe_int pe_int) pa_nil))) pa_nil)))))) (pe_def DN hr (by rfl) (pa_cons (pv 0) (pa_cons pe_int pa_nil))) (fun _ _ => rfl))))) pss_nil)
      (pss_cons (ps_if (pt_cmpR op_lt (pv 1) pe_int (nomark _)) (pss_one (ps_ret (pe_ix ix_list (pe_lst (pa_cons pe_str (pa_cons pe_str (pa_cons pe_str (pa_cons pe_str pa_nil))))) (pe_op op_sub (pv 1) pe_int) (fun _ _ => rfl)))) pss_nil)
      (pss_cons (ps_set (i := 2) scVal.nd rfl (.inr rfl) (pe_def DN hr (by rfl) (pa_cons (pv 0) (pa_cons pe_int pa_nil))))
      (pss_cons (ps_set (i := 3) scVal.nd rfl (.inr rfl) (pe_def DN hr (by rfl) (pa_cons (pv 0) (pa_cons pe_int pa_nil))))
      (pss_one (ps_ret (pe_join pe_str (pe_lc (own := [("j", 4)]) (g := gName 4) (tt := tYes) rfl scVal.nd (pi_range1 (by rfl) B.rng (pa_cons (pe_def DN hr (by rfl) (pa_cons (pv 0) (pa_cons pe_int pa_nil))) pa_nil))
        (blkOk_by (own := [("j", 4)]) (N := ["state", "pick", "start", "step", "j"]) (sc := defScope sVal) (by decide +kernel)) (fun _ _ _ _ _ => pg_name (i := 4) scVal.nd rfl (Or.inl rfl)) (fun _ _ _ _ _ => pts_nil)
        (fun _ _ _ _ _ => pe_ix ix_str (pe_def0 DC hr (by rfl)) (pe_op op_mod (pe_op op_add (pv 2) (pe_op op_mul (pv 3) (pv 4))) pe_int) (fun _ _ => rfl)))))))))))), ?_⟩
    -- pick
    refine ⟨.ref st, rfl, st, L, 12, rfl, g, by decide, by decide, fun pick H1 d1 p0 p1 => ?_⟩
    refine ⟨.int pick, rfl, pick, 4, rfl, rfl, _, rfl, ite2 (fun c => ?_) (fun c => ?_)⟩
    · have c4 : pick < 4 := of_decide_eq_true c
      obtain ⟨y, ey, cy⟩ := lit4 (a := .int 0) (b := .int 1) (c := .int 2) (d := .int (-1)) p0 c4
      refine ⟨1, rfl, (by show 4 ≤ sizeLine; decide), fun p np => ⟨.int pick, rfl, p, _, pick, y, rfl, rfl, SqL.of upd_same, ey, ?_⟩⟩
      have d2 := d1.add (o := .lst [.int 0, .int 1, .int 2, .int (-1)]) np
      rcases cy with rfl | rfl | rfl | rfl
      · exact fin_int q d2
      · exact fin_int q d2
      · exact fin_int q d2
      · exact fin_int q d2
    have n4 : ¬ pick < 4 := fun z => c (decide_eq_true z)
    refine ⟨.int pick, rfl, rfl, _, rfl, ite2 (fun c => ?_) (fun n4e => ?_)⟩
    · refine ⟨.ref st, rfl, st, L, 2, rfl, d1.good, by decide, by decide, fun v2 H2 d2 v0 v1 => ?_⟩
      refine ⟨2, v2, rfl, rfl, .inl ⟨by decide, by decide⟩, 1, 2 * v2, rfl, rfl, 10, 30, rfl, rfl, ⟨by decide, by decide, by decide⟩, _, 1, rfl, rfl, ?_⟩
      refine ⟨.ref st, rfl, st, L, 3, rfl, d2.good, by decide, by decide, fun v3 H3 d3 w0 w1 => ?_⟩
      exact ⟨_, v3, rfl, rfl, 1 - 2 * v2, _, rfl, rfl, .inl ⟨by omega, by omega⟩, fin_int q ((d1.trans d2).trans d3)⟩
    refine ⟨.int pick, rfl, rfl, _, rfl, ite2 (fun c => ?_) (fun n5e => ?_)⟩
    · refine ⟨.ref st, rfl, st, L, 2, rfl, d1.good, by decide, by decide, fun v2 H2 d2 v0 v1 => ?_⟩
      refine ⟨2, v2, rfl, rfl, .inl ⟨by decide, by decide⟩, 1, 2 * v2, rfl, rfl, ?_⟩
      refine ⟨.ref st, rfl, 10, 30, rfl, rfl, ⟨by decide, by decide, by decide⟩, st, L, _, rfl, d2.good, by decide, by decide, fun v3 H3 d3 w0 w1 => ?_⟩
      refine ⟨(by show 5 ≤ sizeLine; decide), fun p np => ?_⟩
      have d4 := ((d1.trans d2).trans d3).add (o := .lst [.int 127, .int 128, .int 16383, .int 16384, .int v3]) np
      refine ⟨.ref st, rfl, st, L, 5, rfl, d4.good, by decide, by decide, fun v5 H5 d5 x0 x1 => ?_⟩
      have ep : H5 p = some (.lst [.int 127, .int 128, .int 16383, .int 16384, .int v3]) := d5.at_ (fun z => by
        subst z
        exact absurd (((d1.trans d2).trans d3).free np) (by
          obtain ⟨_, _, _, _, e, _⟩ := g
          rw [e]
          exact fun z => nomatch z)) upd_same
      obtain ⟨y, ey, i5, e5⟩ : ∃ y, atI [V.int 127, .int 128, .int 16383, .int 16384, .int v3] v5 = some y ∧ ∃ j, y = .int j := by
        have c5 : v5 = 0 ∨ v5 = 1 ∨ v5 = 2 ∨ v5 = 3 ∨ v5 = 4 := by omega
        rcases c5 with rfl | rfl | rfl | rfl | rfl <;> exact ⟨_, rfl, _, rfl⟩
      subst e5
      exact ⟨p, _, v5, .int i5, rfl, rfl, SqL.of ep, ey, 1 - 2 * v2, i5, rfl, rfl, .inl ⟨by omega, by omega⟩, fin_int q (d4.trans d5)⟩
    refine ⟨.int pick, rfl, pick, 10, rfl, rfl, _, rfl, ite2 (fun c => ?_) (fun c => ?_)⟩
    · have c10 : pick < 10 := of_decide_eq_true c
      have m4 : pick ≠ 4 := fun z => n4e (decide_eq_true (congrArg V.int z))
      have m5 : pick ≠ 5 := fun z => n5e (decide_eq_true (congrArg V.int z))
      refine ⟨(by show 4 ≤ sizeLine; decide), fun p np => ?_⟩
      refine ⟨.int pick, rfl, pick, 6, rfl, rfl, ?_⟩
      have d2 := d1.add (o := .lst [.str "", .str "a", .str "ab", .str "1"]) np
      obtain ⟨y, ey, cy⟩ := lit4 (v := pick - 6) (a := .str "") (b := .str "a") (c := .str "ab") (d := .str "1") (by omega) (by omega)
      refine ⟨p, _, pick - 6, y, rfl, rfl, SqL.of upd_same, ey, ?_⟩
      rcases cy with rfl | rfl | rfl | rfl
      · exact fin_str q d2
      · exact fin_str q d2
      · exact fin_str q d2
      · exact fin_str q d2
    refine ⟨.ref st, rfl, st, L, 94, rfl, d1.good, by decide, by decide, fun va H2 d2 a0 a1 => ?_⟩
    refine ⟨.ref st, rfl, st, L, 94, rfl, d2.good, by decide, by decide, fun vb H3 d3 b0 b1 => ?_⟩
    refine ⟨⟨_, rfl⟩, ?_⟩
    refine ⟨.ref st, rfl, st, L, 31, rfl, d3.good, by decide, by decide, fun n H4 d4 n0 n1 => ?_⟩
    refine ⟨n, rfl, by omega, by omega, fun D nD => ?_⟩
    refine lc_range (lo := 0) (n := n.toNat) (fun i H' => Dr st L H4 H' ∧ ∃ ys : List Str, H' D = some (.lst (ys.map V.str)) ∧ ys.length = i ∧ ∀ y ∈ ys, y.length = 1) ⟨Dr.new d4.good nD, [], upd_same, rfl, fun y hy => by cases hy⟩ (fun i H' hi hP => ?_) (fun H' hP => ?_)
    · obtain ⟨dd, ys, eD, ly, hy⟩ := hP
      refine ⟨rfl, ?_⟩
      refine iteT (B := True) ?_
      refine ⟨rfl, fun z hz => ?_⟩
      refine ⟨.int va, rfl, .int vb, rfl, .int (0 + i), rfl, vb, 0 + i, rfl, rfl, .inl ⟨by omega, by omega⟩, va, _, rfl, rfl, _, 94, rfl, rfl, (by show (0 : Int) < 94; decide), ?_⟩
      have m0 : 0 ≤ (va + vb * (0 + (i : Int))) % 94 := Int.emod_nonneg _ (by decide)
      have m1 : (va + vb * (0 + (i : Int))) % 94 < 94 := Int.emod_lt_of_pos _ (by decide)
      obtain ⟨m, em⟩ := nat_of m0
      have hm : m < z.cps.toList.length := by
        have t : z.cps.toList.length = 94 := hz
        omega
      refine ⟨z, (va + vb * (0 + (i : Int))) % 94, z.cps.toList[m], rfl, rfl, (by rw [hz]; decide), (by rw [em]; exact atI_nat (List.getElem?_eq_getElem hm)), ys.map V.str, eD, ?_, dd.put d4.good nD, ys ++ [⟨#[z.cps.toList[m]]⟩], ?_, ?_, ?_⟩
      · rw [List.length_map, ly]
        exact small1000 (by omega)
      · rw [upd_same, List.map_append]
        rfl
      · rw [List.length_append, ly]
        rfl
      · intro y hy2
        rcases List.mem_append.mp hy2 with h1 | h1
        · exact hy y h1
        · rw [List.mem_singleton.mp h1]
          rfl
    · obtain ⟨dd, ys, eD, ly, hy⟩ := hP
      have hs : (ys.map (·.length)).sum = ys.length := by
        clear eD ly
        induction ys with
        | nil => rfl
        | cons y r ih =>
          rw [List.map_cons, List.sum_cons, hy y List.mem_cons_self, ih (fun x hx => hy x (List.mem_cons_of_mem _ hx)), List.length_cons]
          omega
      refine ⟨_, D, ys, rfl, rfl, .inl (SqL.of eD), ?_, fin_str q (((d1.trans d2).trans (d3.trans d4)).trans dd)⟩
      rw [hs, ly]
      show n.toNat + ys.length * 0 ≤ 16777216
      omega
end
end KD

namespace KD
open PySem PySem.Spec PyProof.Rows L2 KA
theorem Good.not_none {st L : Addr} {H : Hp} (g : Good st L H) : H st ≠ none := by
  obtain ⟨_, _, _, _, e, _⟩ := g
  rw [e]
  exact fun z => nomatch z
theorem Dr.keep {st L p : Addr} {H H' : Hp} {o : HO} (g : Good st L H) (n : H p = none) (d : Dr st L (upd H p o) H') : H' p = some o :=
  d.at_ (fun z => g.not_none (by rw [← z]; exact n)) upd_same
theorem lit_str {zs : List Str} {v : Int} (h0 : 0 ≤ v) (h1 : v < zs.length) : ∃ z, atI (zs.map V.str) v = some (.str z) := by
  obtain ⟨m, em⟩ := nat_of h0
  have hm : m < zs.length := by omega
  refine ⟨zs[m], ?_⟩
  rw [em]
  refine atI_nat ?_
  rw [List.getElem?_map, List.getElem?_eq_getElem hm]
  rfl
section
variable {P : Program} {w : World} {K : PySem.W.Frag} {mg : Str → Option Value} {base : Heap}
abbrev dVal (P : Program) (w : World) (K : PySem.W.Frag) (mg : Str → Option Value) (base : Heap) : Prop := Def P w K mg base "_law_value" 2 ["state"] spVal
/-! ### _law_row -/
abbrev sRow : Stmt := topS 15
theorem scRow : FnScope ["state", "width", "k"] ["state", "width"] (defScope sRow) := ⟨rfl, rfl, rfl, by decide +kernel, rfl, by decide +kernel, by decide +kernel⟩
def spRow : Sp := fun vs H Q _ => ∃ (st L : Addr) (n : Int), vs = [.ref st, .int n] ∧ Good st L H ∧ 0 ≤ n ∧ n ≤ 1000 ∧
  ∀ (p : Addr) (ds : List PyData) H', Dr st L H H' → Tp H' (.ref p) (.tuple ds) → (∀ d ∈ ds, isAtom d) → ds.length = n.toNat → Q (.ref p) H'
theorem Tps.snoc_all {ys : List V} {ds : List PyData} {v : V} {d : PyData} (h : ∀ H2, Tps H2 ys ds) (h2 : ∀ H2, Tp H2 v d) : ∀ H2, Tps H2 (ys ++ [v]) (ds ++ [d]) := fun H2 => (h H2).append (.cons (h2 H2) .nil)
theorem ok_row {f : Addr} {fd : FuncData} (F : Fun K "_law_row" "_law_row" sRow f fd) (B : Bt mg) (DV : dVal P w K mg base) : FnOk P w K mg base CX0 3 f fd ["state", "width"] spRow := by
  refine F.ok scRow (fun vs H Q E h => ?_) (fun cdv A outer s H vs Q E hr h => ?_)
  · obtain ⟨st, L, n, rfl, _⟩ := h
    rfl
  · obtain ⟨st, L, n, rfl, g, n0, n1, q⟩ := h
    refine ⟨_, pss_one (ps_ret (pe_callTy call_tuple_of (by rfl) B.tup (by decide +kernel) (pa_cons (pe_lc (own := [("k", 2)]) (g := gName 2) (tt := tYes) rfl scRow.nd (pi_range1 (by rfl) B.rng (pa_cons (pv 1) pa_nil))
      (blkOk_by (own := [("k", 2)]) (N := ["state", "width", "k"]) (sc := defScope sRow) (by decide +kernel)) (fun _ _ _ _ _ => pg_name (i := 2) scRow.nd rfl (Or.inl rfl)) (fun _ _ _ _ _ => pts_nil)
      (fun _ _ _ _ _ => pe_def DV hr (by rfl) (pa_cons (pv 0) pa_nil))) pa_nil))), ?_⟩
    refine ⟨.int n, rfl, n, rfl, by omega, by omega, fun D nD => ?_⟩
    refine lc_range (lo := 0) (n := n.toNat) (fun i H' => Dr st L H H' ∧ ∃ ys ds, H' D = some (.lst ys) ∧ (∀ H2, Tps H2 ys ds) ∧ ds.length = i ∧ ∀ d ∈ ds, isAtom d) ⟨Dr.new g nD, [], [], upd_same, fun _ => .nil, rfl, fun y hy => by cases hy⟩ (fun i H' hi hP => ?_) (fun H' hP => ?_)
    · obtain ⟨dd, ys, ds, eD, ht, ly, ha⟩ := hP
      refine ⟨rfl, ?_⟩
      refine iteT (B := True) ?_
      refine ⟨.ref st, rfl, st, L, rfl, dd.good, fun v d H2 d2 at2 tp2 => ?_⟩
      have lD : ys.length = i := by rw [(ht H2).length, ly]
      have nst : D ≠ st := fun z => g.not_none (by rw [← z]; exact nD)
      refine ⟨ys, d2.at_ nst eD, small1000 (by omega), (dd.trans d2).put g nD, ys ++ [v], ds ++ [d], upd_same, Tps.snoc_all ht tp2, ?_, ?_⟩
      · rw [List.length_append, ly]
        rfl
      · intro y hy2
        rcases List.mem_append.mp hy2 with h1 | h1
        · exact ha y h1
        · rw [List.mem_singleton.mp h1]
          exact at2
    · obtain ⟨dd, ys, ds, eD, ht, ly, ha⟩ := hP
      refine ⟨D, ys, rfl, .inl ⟨SqL.of eD, fun p np => ?_⟩⟩
      exact q p ds _ (dd.add np) (.tup upd_same (ht _)) ha ly
/-! ### _law_name -/
abbrev sName : Stmt := topS 16
theorem scName : FnScope ["state"] ["state"] (defScope sName) := ⟨rfl, rfl, rfl, by decide +kernel, rfl, by decide +kernel, by decide +kernel⟩
def spName : Sp := fun vs H Q _ => ∃ (st L : Addr), vs = [.ref st] ∧ Good st L H ∧ ∀ (z : Str) H', Dr st L H H' → Q (.str z) H'
abbrev dName (P : Program) (w : World) (K : PySem.W.Frag) (mg : Str → Option Value) (base : Heap) : Prop := Def P w K mg base "_law_name" 2 ["state"] spName
theorem ok_name {f : Addr} {fd : FuncData} (F : Fun K "_law_name" "_law_name" sName f fd) (DN : dNext P w K mg base) : FnOk P w K mg base CX0 2 f fd ["state"] spName := by
  refine F.ok scName (fun vs H Q E h => ?_) (fun cdv A outer s H vs Q E hr h => ?_)
  · obtain ⟨st, L, rfl, _⟩ := h
    rfl
  · obtain ⟨st, L, rfl, g, q⟩ := h
    refine ⟨_, pss_one (ps_ret (pe_ix ix_list (pe_lst (pa_cons pe_str (pa_cons pe_str (pa_cons pe_str (pa_cons pe_str (pa_cons pe_str (pa_cons pe_str (pa_cons pe_str (pa_cons pe_str pa_nil))))))))) (pe_def DN hr (by rfl) (pa_cons (pv 0) (pa_cons pe_int pa_nil))) (fun _ _ => rfl))), ?_⟩
    refine ⟨(by show 8 ≤ sizeLine; decide), fun p np => ?_⟩
    have d1 := Dr.new (o := .lst ((["r", "r1", "r_", "longest_name", "longest_namf", "a", "ab", "r1x"] : List Str).map V.str)) g np
    refine ⟨.ref st, rfl, st, L, 8, rfl, d1.good, by decide, by decide, fun v H2 d2 v0 v1 => ?_⟩
    obtain ⟨z, ez⟩ := lit_str (zs := ["r", "r1", "r_", "longest_name", "longest_namf", "a", "ab", "r1x"]) v0 v1
    exact ⟨p, _, v, .str z, rfl, rfl, SqL.of (Dr.keep g np d2), ez, q z _ (d1.trans d2)⟩
end
/-! ### nice data: ints, texts and tuples of them -/
mutual
def nice : PyData → Prop
  | .int _ => True
  | .str _ => True
  | .tuple ds => ds.length ≤ 1000 ∧ niceAll ds
  | _ => False
def niceAll : List PyData → Prop
  | [] => True
  | d :: r => nice d ∧ niceAll r
end
theorem nice_int (i : Int) : nice (.int i) := by
  rw [nice]
  trivial
theorem nice_str (z : Str) : nice (.str z) := by
  rw [nice]
  trivial
theorem nice_atom {d : PyData} (h : isAtom d) : nice d := by
  cases d with
  | int i => exact nice_int i
  | str z => exact nice_str z
  | _ => exact h.elim
theorem nice_tup {ds : List PyData} (h : niceAll ds) (l : ds.length ≤ 1000) : nice (.tuple ds) := by
  rw [nice]
  exact ⟨l, h⟩
theorem niceAll_nil : niceAll [] := by
  rw [niceAll]
  trivial
theorem niceAll_cons {d : PyData} {ds : List PyData} (h : nice d) (h2 : niceAll ds) : niceAll (d :: ds) := by
  rw [niceAll]
  exact ⟨h, h2⟩
theorem niceAll_snoc : ∀ {ds : List PyData} {d : PyData}, niceAll ds → nice d → niceAll (ds ++ [d])
  | [], d, _, h => niceAll_cons h niceAll_nil
  | x :: r, d, h, h2 => by
    rw [niceAll] at h
    exact niceAll_cons h.1 (niceAll_snoc h.2 h2)
theorem niceAll_of : ∀ {ds : List PyData}, (∀ d ∈ ds, nice d) → niceAll ds
  | [], _ => niceAll_nil
  | x :: r, h => niceAll_cons (h x List.mem_cons_self) (niceAll_of fun d hd => h d (List.mem_cons_of_mem _ hd))
theorem niceAll_mem : ∀ {ds : List PyData} {d : PyData}, niceAll ds → d ∈ ds → nice d
  | x :: r, d, h, m => by
    rw [niceAll] at h
    rcases List.mem_cons.mp m with e | e
    · rw [e]
      exact h.1
    · exact niceAll_mem h.2 e
theorem depthAll_snoc : ∀ {ds : List PyData} {d : PyData} {k : Nat}, PyData.depthAll ds ≤ k → d.depth ≤ k → PyData.depthAll (ds ++ [d]) ≤ k
  | [], d, k, _, h => by
    show max d.depth 0 ≤ k
    omega
  | x :: r, d, k, h, h2 => by
    rw [PyData.depthAll] at h
    show max x.depth (PyData.depthAll (r ++ [d])) ≤ k
    have t := depthAll_snoc (ds := r) (d := d) (k := k) (by omega) h2
    omega
def spDat (k : Nat) : Sp := fun vs H Q _ => ∃ (st L : Addr), vs = [.ref st] ∧ Good st L H ∧ ∀ (v : V) (d : PyData) H', Dr st L H H' → Tp H' v d → nice d → d.depth ≤ k → Q v H'
theorem atom_depth0 {d : PyData} (h : isAtom d) : d.depth = 0 := by
  cases d with
  | int _ => rfl
  | str _ => rfl
  | _ => exact h.elim
theorem dep1 {d : PyData} {k : Nat} (h : d.depth ≤ k) : (PyData.tuple [d]).depth ≤ k + 1 := by
  show max d.depth 0 + 1 ≤ k + 1
  omega
theorem dep2 {d e : PyData} {k : Nat} (h : d.depth ≤ k) (h2 : e.depth ≤ k) : (PyData.tuple [d, e]).depth ≤ k + 1 := by
  show max d.depth (max e.depth 0) + 1 ≤ k + 1
  omega
theorem dep3 {d e f : PyData} {k : Nat} (h : d.depth ≤ k) (h2 : e.depth ≤ k) (h3 : f.depth ≤ k) : (PyData.tuple [d, e, f]).depth ≤ k + 1 := by
  show max d.depth (max e.depth (max f.depth 0)) + 1 ≤ k + 1
  omega
theorem dep4 {d e f g : PyData} {k : Nat} (h : d.depth ≤ k) (h2 : e.depth ≤ k) (h3 : f.depth ≤ k) (h4 : g.depth ≤ k) : (PyData.tuple [d, e, f, g]).depth ≤ k + 1 := by
  show max d.depth (max e.depth (max f.depth (max g.depth 0))) + 1 ≤ k + 1
  omega
theorem dep5 {d e f g i : PyData} {k : Nat} (h : d.depth ≤ k) (h2 : e.depth ≤ k) (h3 : f.depth ≤ k) (h4 : g.depth ≤ k) (h5 : i.depth ≤ k) : (PyData.tuple [d, e, f, g, i]).depth ≤ k + 1 := by
  show max d.depth (max e.depth (max f.depth (max g.depth (max i.depth 0)))) + 1 ≤ k + 1
  omega
theorem n3 {a b c : PyData} (ha : nice a) (hb : nice b) (hc : nice c) : nice (.tuple [a, b, c]) := nice_tup (niceAll_cons ha (niceAll_cons hb (niceAll_cons hc niceAll_nil))) (by show 3 ≤ 1000; decide)
theorem n2 {a b : PyData} (ha : nice a) (hb : nice b) : nice (.tuple [a, b]) := nice_tup (niceAll_cons ha (niceAll_cons hb niceAll_nil)) (by show 2 ≤ 1000; decide)
theorem n4 {a b c d : PyData} (ha : nice a) (hb : nice b) (hc : nice c) (hd : nice d) : nice (.tuple [a, b, c, d]) := nice_tup (niceAll_cons ha (niceAll_cons hb (niceAll_cons hc (niceAll_cons hd niceAll_nil)))) (by show 4 ≤ 1000; decide)
theorem n5 {a b c d e : PyData} (ha : nice a) (hb : nice b) (hc : nice c) (hd : nice d) (he : nice e) : nice (.tuple [a, b, c, d, e]) := nice_tup (niceAll_cons ha (niceAll_cons hb (niceAll_cons hc (niceAll_cons hd (niceAll_cons he niceAll_nil))))) (by show 5 ≤ 1000; decide)
section
variable {P : Program} {w : World} {K : PySem.W.Frag} {mg : Str → Option Value} {base : Heap}
abbrev sTerm : Stmt := topS 17
theorem scTerm : FnScope ["state", "pick"] ["state"] (defScope sTerm) := ⟨rfl, rfl, rfl, by decide +kernel, rfl, by decide +kernel, by decide +kernel⟩
abbrev dTerm (P : Program) (w : World) (K : PySem.W.Frag) (mg : Str → Option Value) (base : Heap) : Prop := Def P w K mg base "_law_term" 3 ["state"] (spDat 1)
theorem ok_term {f : Addr} {fd : FuncData} (F : Fun K "_law_term" "_law_term" sTerm f fd) (DN : dNext P w K mg base) (DV : dVal P w K mg base) (DM : dName P w K mg base) : FnOk P w K mg base CX0 3 f fd ["state"] (spDat 1) := by
  refine F.ok scTerm (fun vs H Q E h => ?_) (fun cdv A outer s H vs Q E hr h => ?_)
  · obtain ⟨st, L, rfl, _⟩ := h
    rfl
  · obtain ⟨st, L, rfl, g, q⟩ := h
    refine ⟨_, pss_cons (ps_set (i := 1) scTerm.nd rfl (.inl rfl) (pe_def DN (hr.mono (by decide)) (by rfl) (pa_cons (pv 0) (pa_cons pe_int pa_nil))))
      (pss_cons (ps_if (pt_cmpR op_eq (pv 1) pe_int (nomark _)) (pss_one (ps_ret (pe_tup (pa_cons pe_str pa_nil)))) pss_nil)
      (pss_cons (ps_if (pt_cmpR op_eq (pv 1) pe_int (nomark _)) (pss_one (ps_ret (pe_tup (pa_cons pe_str (pa_cons (pe_def DV hr (by rfl) (pa_cons (pv 0) pa_nil)) pa_nil))))) pss_nil)
      (pss_one (ps_ret (pe_tup (pa_cons pe_str (pa_cons (pe_def DM hr (by rfl) (pa_cons (pv 0) pa_nil)) pa_nil))))))), ?_⟩
    refine ⟨.ref st, rfl, st, L, 4, rfl, g, by decide, by decide, fun pick H1 d1 p0 p1 => ?_⟩
    refine ⟨.int pick, rfl, rfl, _, rfl, ite2 (fun c => ?_) (fun c => ?_)⟩
    · exact ⟨(by show 1 ≤ sizeLine; decide), fun p np => q _ _ _ (d1.add np) (.tup upd_same (.cons (.str _) .nil)) (nice_tup (niceAll_cons (nice_str _) niceAll_nil) (by show 1 ≤ 1000; decide)) (dep1 (Nat.zero_le _))⟩
    refine ⟨.int pick, rfl, rfl, _, rfl, ite2 (fun c => ?_) (fun c => ?_)⟩
    · refine ⟨.ref st, rfl, st, L, rfl, d1.good, fun v d H2 d2 ad td => ?_⟩
      exact ⟨(by show 2 ≤ sizeLine; decide), fun p np => q _ _ _ ((d1.trans d2).add np) (.tup upd_same (.cons (.str _) (.cons (td _) .nil))) (n2 (nice_str _) (nice_atom ad)) (dep2 (Nat.zero_le _) (Nat.le_of_eq (atom_depth0 ad)))⟩
    · refine ⟨.ref st, rfl, st, L, rfl, d1.good, fun z H2 d2 => ?_⟩
      exact ⟨(by show 2 ≤ sizeLine; decide), fun p np => q _ _ _ ((d1.trans d2).add np) (.tup upd_same (.cons (.str _) (.cons (.str z) .nil))) (n2 (nice_str _) (nice_str _)) (dep2 (Nat.zero_le _) (Nat.zero_le _))⟩
abbrev sTerms : Stmt := topS 18
theorem scTerms : FnScope ["state", "k"] ["state"] (defScope sTerms) := ⟨rfl, rfl, rfl, by decide +kernel, rfl, by decide +kernel, by decide +kernel⟩
abbrev dTerms (P : Program) (w : World) (K : PySem.W.Frag) (mg : Str → Option Value) (base : Heap) : Prop := Def P w K mg base "_law_terms" 4 ["state"] (spDat 2)
theorem ok_terms {f : Addr} {fd : FuncData} (F : Fun K "_law_terms" "_law_terms" sTerms f fd) (B : Bt mg) (DN : dNext P w K mg base) (DT : dTerm P w K mg base) : FnOk P w K mg base CX0 4 f fd ["state"] (spDat 2) := by
  refine F.ok scTerms (fun vs H Q E h => ?_) (fun cdv A outer s H vs Q E hr h => ?_)
  · obtain ⟨st, L, rfl, _⟩ := h
    rfl
  · obtain ⟨st, L, rfl, g, q⟩ := h
    refine ⟨_, pss_one (ps_ret (pe_callTy call_tuple_of (by rfl) B.tup (by decide +kernel) (pa_cons (pe_lc (own := [("k", 1)]) (g := gName 1) (tt := tYes) rfl scTerms.nd (pi_range1 (by rfl) B.rng (pa_cons (pe_def DN (hr.mono (by decide)) (by rfl) (pa_cons (pv 0) (pa_cons pe_int pa_nil))) pa_nil))
      (blkOk_by (own := [("k", 1)]) (N := ["state", "k"]) (sc := defScope sTerms) (by decide +kernel)) (fun _ _ _ _ _ => pg_name (i := 1) scTerms.nd rfl (Or.inl rfl)) (fun _ _ _ _ _ => pts_nil)
      (fun _ _ _ _ _ => pe_def DT hr (by rfl) (pa_cons (pv 0) pa_nil))) pa_nil))), ?_⟩
    refine ⟨.ref st, rfl, st, L, 5, rfl, g, by decide, by decide, fun n H1 d1 n0 n1 => ?_⟩
    refine ⟨n, rfl, by omega, by omega, fun D nD => ?_⟩
    refine lc_range (lo := 0) (n := n.toNat) (fun i H' => Dr st L H1 H' ∧ ∃ ys ds, H' D = some (.lst ys) ∧ Tps H' ys ds ∧ ds.length = i ∧ niceAll ds ∧ PyData.depthAll ds ≤ 1) ⟨Dr.new d1.good nD, [], [], upd_same, .nil, rfl, niceAll_nil, Nat.zero_le _⟩ (fun i H' hi hP => ?_) (fun H' hP => ?_)
    · obtain ⟨dd, ys, ds, eD, ht, ly, na, de⟩ := hP
      refine ⟨rfl, ?_⟩
      refine iteT (B := True) ?_
      refine ⟨.ref st, rfl, st, L, rfl, dd.good, fun v d H2 d2 td nd dp => ?_⟩
      have nst : D ≠ st := fun z => d1.good.not_none (by rw [← z]; exact nD)
      have eD2 := d2.at_ nst eD
      have kk : Tk H2 (upd H2 D (.lst (ys ++ [v]))) := Tk.lst eD2
      refine ⟨ys, eD2, small1000 (by rw [ht.length]; omega), (dd.trans d2).put d1.good nD, ys ++ [v], ds ++ [d], upd_same, ((ht.mono (d2.tk dd.good)).mono kk).append (.cons (td.mono kk) .nil), ?_, niceAll_snoc na nd, depthAll_snoc de dp⟩
      rw [List.length_append, ly]
      rfl
    · obtain ⟨dd, ys, ds, eD, ht, ly, na, de⟩ := hP
      exact ⟨D, ys, rfl, .inl ⟨SqL.of eD, fun p np => q _ (.tuple ds) _ ((d1.trans dd).add np) (.tup upd_same (ht.mono (Tk.new np))) (nice_tup na (by omega)) (Nat.succ_le_succ de)⟩⟩
abbrev sLit : Stmt := topS 19
theorem scLit : FnScope ["state", "form", "operator"] ["state"] (defScope sLit) := ⟨rfl, rfl, rfl, by decide +kernel, rfl, by decide +kernel, by decide +kernel⟩
abbrev dLit (P : Program) (w : World) (K : PySem.W.Frag) (mg : Str → Option Value) (base : Heap) : Prop := Def P w K mg base "_law_literal" 5 ["state"] (spDat 3)
theorem ok_lit {f : Addr} {fd : FuncData} (F : Fun K "_law_literal" "_law_literal" sLit f fd) (DN : dNext P w K mg base) (DT : dTerm P w K mg base) (DM : dName P w K mg base) (DS : dTerms P w K mg base) : FnOk P w K mg base CX0 5 f fd ["state"] (spDat 3) := by
  refine F.ok scLit (fun vs H Q E h => ?_) (fun cdv A outer s H vs Q E hr h => ?_)
  · obtain ⟨st, L, rfl, _⟩ := h
    rfl
  · obtain ⟨st, L, rfl, g, q⟩ := h
    refine ⟨_, pss_cons (ps_set (i := 1) scLit.nd rfl (.inl rfl) (pe_ix ix_list (pe_lst (pa_cons pe_str (pa_cons pe_str (pa_cons pe_str (pa_cons pe_str (pa_cons pe_str (pa_cons pe_str pa_nil))))))) (pe_def DN (hr.mono (by decide)) (by rfl) (pa_cons (pv 0) (pa_cons pe_int pa_nil))) (fun _ _ => rfl)))
      (pss_cons (ps_if (pt_cmpR op_eq (pv 1) pe_str (nomark _)) (pss_cons (ps_set (i := 2) scLit.nd rfl (.inl rfl) (pe_ix ix_list (pe_lst (pa_cons pe_str (pa_cons pe_str (pa_cons pe_str (pa_cons pe_str (pa_cons pe_str (pa_cons pe_str pa_nil))))))) (pe_def DN (hr.mono (by decide)) (by rfl) (pa_cons (pv 0) (pa_cons pe_int pa_nil))) (fun _ _ => rfl)))
          (pss_one (ps_ret (pe_tup (pa_cons (pv 1) (pa_cons (pv 2) (pa_cons (pe_def DT (hr.mono (by decide)) (by rfl) (pa_cons (pv 0) pa_nil)) (pa_cons (pe_def DT (hr.mono (by decide)) (by rfl) (pa_cons (pv 0) pa_nil)) pa_nil)))))))) pss_nil)
      (pss_cons (ps_if (pt_cmpR op_eq (pv 1) pe_str (nomark _)) (pss_one (ps_ret (pe_tup (pa_cons (pv 1) (pa_cons (pe_def DM (hr.mono (by decide)) (by rfl) (pa_cons (pv 0) pa_nil))
          (pa_cons (pe_ix ix_list (pe_lst (pa_cons pe_str (pa_cons pe_str (pa_cons pe_str pa_nil)))) (pe_def DN (hr.mono (by decide)) (by rfl) (pa_cons (pv 0) (pa_cons pe_int pa_nil))) (fun _ _ => rfl))
          (pa_cons (pe_def DT (hr.mono (by decide)) (by rfl) (pa_cons (pv 0) pa_nil)) (pa_cons (pe_def DT (hr.mono (by decide)) (by rfl) (pa_cons (pv 0) pa_nil)) pa_nil)))))))) pss_nil)
      (pss_cons (ps_if (pt_cmpR op_eq (pv 1) pe_str (nomark _)) (pss_one (ps_ret (pe_tup (pa_cons (pv 1) (pa_cons (pe_def DM (hr.mono (by decide)) (by rfl) (pa_cons (pv 0) pa_nil)) (pa_cons (pe_def DM (hr.mono (by decide)) (by rfl) (pa_cons (pv 0) pa_nil)) (pa_cons (pe_def DS hr (by rfl) (pa_cons (pv 0) pa_nil)) pa_nil))))))) pss_nil)
      (pss_one (ps_ret (pe_tup (pa_cons (pv 1) (pa_cons (pe_def DM (hr.mono (by decide)) (by rfl) (pa_cons (pv 0) pa_nil)) (pa_cons (pe_def DS hr (by rfl) (pa_cons (pv 0) pa_nil)) pa_nil))))))))), ?_⟩
    refine ⟨(by show 6 ≤ sizeLine; decide), fun p np => ?_⟩
    have d0 := Dr.new (o := .lst ((["fact", "fact", "not", "compare", "is", "count"] : List Str).map V.str)) g np
    refine ⟨.ref st, rfl, st, L, 6, rfl, d0.good, by decide, by decide, fun v H1 dv v0 v1 => ?_⟩
    obtain ⟨fm, ef⟩ := lit_str (zs := ["fact", "fact", "not", "compare", "is", "count"]) v0 v1
    have d1 := d0.trans dv
    refine ⟨p, _, v, .str fm, rfl, rfl, SqL.of (Dr.keep g np dv), ef, ?_⟩
    refine ⟨.str fm, rfl, rfl, _, rfl, ite2 (fun c => ?_) (fun c => ?_)⟩
    · refine ⟨(by show 6 ≤ sizeLine; decide), fun p2 np2 => ?_⟩
      have d2 := Dr.new (o := .lst ((["=", "<>", "<", "<=", ">", ">="] : List Str).map V.str)) d1.good np2
      refine ⟨.ref st, rfl, st, L, 6, rfl, d2.good, by decide, by decide, fun u H2 du u0 u1 => ?_⟩
      obtain ⟨op, eo⟩ := lit_str (zs := ["=", "<>", "<", "<=", ">", ">="]) u0 u1
      refine ⟨p2, _, u, .str op, rfl, rfl, SqL.of (Dr.keep d1.good np2 du), eo, ?_⟩
      refine ⟨.str fm, rfl, .str op, rfl, .ref st, rfl, st, L, rfl, du.good, fun a da H3 d3 ta na pa => ⟨.ref st, rfl, st, L, rfl, d3.good, fun b db H4 d4 tb nb pb => ⟨(by show 4 ≤ sizeLine; decide), fun t nt => ?_⟩⟩⟩
      exact q _ _ _ ((((d1.trans d2).trans du).trans (d3.trans d4)).add nt) (.tup upd_same (.cons (.str _) (.cons (.str _) (.cons ((ta.mono (d4.tk d3.good)).mono (Tk.new nt)) (.cons (tb.mono (Tk.new nt)) .nil))))) (n4 (nice_str _) (nice_str _) na nb) (dep4 (k := 2) (Nat.zero_le _) (Nat.zero_le _) (Nat.le_succ_of_le pa) (Nat.le_succ_of_le pb))
    refine ⟨.str fm, rfl, rfl, _, rfl, ite2 (fun c => ?_) (fun c => ?_)⟩
    · refine ⟨.str fm, rfl, .ref st, rfl, st, L, rfl, d1.good, fun nm H2 d2 => ⟨(by show 3 ≤ sizeLine; decide), fun p2 np2 => ?_⟩⟩
      have d3 := Dr.new (o := .lst ((["+", "-", "*"] : List Str).map V.str)) d2.good np2
      refine ⟨.ref st, rfl, st, L, 3, rfl, d3.good, by decide, by decide, fun u H3 du u0 u1 => ?_⟩
      obtain ⟨op, eo⟩ := lit_str (zs := ["+", "-", "*"]) u0 u1
      refine ⟨p2, _, u, .str op, rfl, rfl, SqL.of (Dr.keep d2.good np2 du), eo, ?_⟩
      refine ⟨.ref st, rfl, st, L, rfl, du.good, fun a da H4 d4 ta na pa => ⟨.ref st, rfl, st, L, rfl, d4.good, fun b db H5 d5 tb nb pb => ⟨(by show 5 ≤ sizeLine; decide), fun t nt => ?_⟩⟩⟩
      exact q _ _ _ ((((d1.trans d2).trans (d3.trans du)).trans (d4.trans d5)).add nt) (.tup upd_same (.cons (.str _) (.cons (.str _) (.cons (.str _) (.cons ((ta.mono (d5.tk d4.good)).mono (Tk.new nt)) (.cons (tb.mono (Tk.new nt)) .nil)))))) (n5 (nice_str _) (nice_str _) (nice_str _) na nb) (dep5 (k := 2) (Nat.zero_le _) (Nat.zero_le _) (Nat.zero_le _) (Nat.le_succ_of_le pa) (Nat.le_succ_of_le pb))
    refine ⟨.str fm, rfl, rfl, _, rfl, ite2 (fun c => ?_) (fun c => ?_)⟩
    · refine ⟨.str fm, rfl, .ref st, rfl, st, L, rfl, d1.good, fun nm H2 d2 => ⟨.ref st, rfl, st, L, rfl, d2.good, fun nm2 H3 d3 => ⟨.ref st, rfl, st, L, rfl, d3.good, fun b db H4 d4 tb nb pb => ⟨(by show 4 ≤ sizeLine; decide), fun t nt => ?_⟩⟩⟩⟩
      exact q _ _ _ (((d1.trans d2).trans (d3.trans d4)).add nt) (.tup upd_same (.cons (.str _) (.cons (.str _) (.cons (.str _) (.cons (tb.mono (Tk.new nt)) .nil))))) (n4 (nice_str _) (nice_str _) (nice_str _) nb) (dep4 (k := 2) (Nat.zero_le _) (Nat.zero_le _) (Nat.zero_le _) pb)
    · refine ⟨.str fm, rfl, .ref st, rfl, st, L, rfl, d1.good, fun nm H2 d2 => ⟨.ref st, rfl, st, L, rfl, d2.good, fun b db H3 d3 tb nb pb => ⟨(by show 3 ≤ sizeLine; decide), fun t nt => ?_⟩⟩⟩
      exact q _ _ _ ((d1.trans (d2.trans d3)).add nt) (.tup upd_same (.cons (.str _) (.cons (.str _) (.cons (tb.mono (Tk.new nt)) .nil)))) (n3 (nice_str _) (nice_str _) nb) (dep3 (k := 2) (Nat.zero_le _) (Nat.zero_le _) pb)
abbrev sBody : Stmt := topS 20
theorem scBody : FnScope ["state", "k"] ["state"] (defScope sBody) := ⟨rfl, rfl, rfl, by decide +kernel, rfl, by decide +kernel, by decide +kernel⟩
abbrev dBody (P : Program) (w : World) (K : PySem.W.Frag) (mg : Str → Option Value) (base : Heap) : Prop := Def P w K mg base "_law_body" 6 ["state"] (spDat 4)
theorem ok_body {f : Addr} {fd : FuncData} (F : Fun K "_law_body" "_law_body" sBody f fd) (B : Bt mg) (DN : dNext P w K mg base) (DT : dLit P w K mg base) : FnOk P w K mg base CX0 6 f fd ["state"] (spDat 4) := by
  refine F.ok scBody (fun vs H Q E h => ?_) (fun cdv A outer s H vs Q E hr h => ?_)
  · obtain ⟨st, L, rfl, _⟩ := h
    rfl
  · obtain ⟨st, L, rfl, g, q⟩ := h
    refine ⟨_, pss_one (ps_ret (pe_callTy call_tuple_of (by rfl) B.tup (by decide +kernel) (pa_cons (pe_lc (own := [("k", 1)]) (g := gName 1) (tt := tYes) rfl scBody.nd (pi_range1 (by rfl) B.rng (pa_cons (pe_def DN (hr.mono (by decide)) (by rfl) (pa_cons (pv 0) (pa_cons pe_int pa_nil))) pa_nil))
      (blkOk_by (own := [("k", 1)]) (N := ["state", "k"]) (sc := defScope sBody) (by decide +kernel)) (fun _ _ _ _ _ => pg_name (i := 1) scBody.nd rfl (Or.inl rfl)) (fun _ _ _ _ _ => pts_nil)
      (fun _ _ _ _ _ => pe_def DT hr (by rfl) (pa_cons (pv 0) pa_nil))) pa_nil))), ?_⟩
    refine ⟨.ref st, rfl, st, L, 5, rfl, g, by decide, by decide, fun n H1 d1 n0 n1 => ?_⟩
    refine ⟨n, rfl, by omega, by omega, fun D nD => ?_⟩
    refine lc_range (lo := 0) (n := n.toNat) (fun i H' => Dr st L H1 H' ∧ ∃ ys ds, H' D = some (.lst ys) ∧ Tps H' ys ds ∧ ds.length = i ∧ niceAll ds ∧ PyData.depthAll ds ≤ 3) ⟨Dr.new d1.good nD, [], [], upd_same, .nil, rfl, niceAll_nil, Nat.zero_le _⟩ (fun i H' hi hP => ?_) (fun H' hP => ?_)
    · obtain ⟨dd, ys, ds, eD, ht, ly, na, de⟩ := hP
      refine ⟨rfl, ?_⟩
      refine iteT (B := True) ?_
      refine ⟨.ref st, rfl, st, L, rfl, dd.good, fun v d H2 d2 td nd dp => ?_⟩
      have nst : D ≠ st := fun z => d1.good.not_none (by rw [← z]; exact nD)
      have eD2 := d2.at_ nst eD
      have kk : Tk H2 (upd H2 D (.lst (ys ++ [v]))) := Tk.lst eD2
      refine ⟨ys, eD2, small1000 (by rw [ht.length]; omega), (dd.trans d2).put d1.good nD, ys ++ [v], ds ++ [d], upd_same, ((ht.mono (d2.tk dd.good)).mono kk).append (.cons (td.mono kk) .nil), ?_, niceAll_snoc na nd, depthAll_snoc de dp⟩
      rw [List.length_append, ly]
      rfl
    · obtain ⟨dd, ys, ds, eD, ht, ly, na, de⟩ := hP
      exact ⟨D, ys, rfl, .inl ⟨SqL.of eD, fun p np => q _ (.tuple ds) _ ((d1.trans dd).add np) (.tup upd_same (ht.mono (Tk.new np))) (nice_tup na (by omega)) (Nat.succ_le_succ de)⟩⟩
end
end KD

namespace KD
open PySem PySem.Spec PyProof.Rows L2 KA
/-! ### data: keys, orders -/
def vk : PyData → PyData
  | .str z => .tuple [.int 1, .str z]
  | d => .tuple [.int 0, d]
def kd (s : Int) (nm : Str) (ds : List PyData) : PyData := .tuple [.int s, .str nm, .tuple ds]
def bf : PyData → PyData → Bool
  | .int a, .int b => decide (a < b)
  | .str a, .str b => decide (a.cps.toList < b.cps.toList)
  | .int _, .str _ => true
  | _, _ => false
def rord : List PyData → List PyData → Int
  | [], [] => 0
  | [], _ :: _ => -1
  | _ :: _, [] => 1
  | x :: xs, y :: ys => if bf x y = true then -1 else if bf y x = true then 1 else rord xs ys
def plt (s : Int) (nm : Str) (s2 : Int) (nm2 : Str) : Bool := if s = s2 then decide (nm.cps.toList < nm2.cps.toList) else decide (s < s2)
def kord (s : Int) (nm : Str) (ds : List PyData) (s2 : Int) (nm2 : Str) (es : List PyData) : Int := if s = s2 ∧ nm = nm2 then rord ds es else 1 - 2 * (if plt s nm s2 nm2 = true then 1 else 0)
abbrev Atoms (ds : List PyData) : Prop := ∀ d ∈ ds, isAtom d
theorem atom_depth {d : PyData} (h : isAtom d) : d.depth = 0 := by
  cases d with
  | int _ => rfl
  | str _ => rfl
  | _ => exact h.elim
theorem vk_depth {d : PyData} (h : isAtom d) : (vk d).depth = 1 := by
  cases d with
  | int _ => rfl
  | str _ => rfl
  | _ => exact h.elim
theorem atoms_depth : ∀ {ds : List PyData}, Atoms ds → PyData.depthAll ds = 0
  | [], _ => rfl
  | d :: r, h => by
    rw [PyData.depthAll, atom_depth (h d List.mem_cons_self), atoms_depth (fun x hx => h x (List.mem_cons_of_mem _ hx))]
    rfl
theorem vks_depth : ∀ {ds : List PyData}, Atoms ds → PyData.depthAll (ds.map vk) ≤ 1
  | [], _ => Nat.zero_le _
  | d :: r, h => by
    rw [List.map_cons, PyData.depthAll, vk_depth (h d List.mem_cons_self)]
    have t := vks_depth (ds := r) (fun x hx => h x (List.mem_cons_of_mem _ hx))
    exact Nat.max_le.mpr ⟨Nat.le_refl 1, t⟩
/-- an item -/
inductive It1 where
  | rel (nm : Str) (n : Int)
  | fact (nm : Str) (ds : List PyData)
  | rule (nm rl : Str) (ts body : PyData)
  | den (nm : Str) (body : PyData)
def itD : It1 → PyData
  | .rel nm n => .tuple [.str "relation", .str nm, .int n]
  | .fact nm ds => .tuple [.str "fact", .str nm, .tuple ds]
  | .rule nm rl ts body => .tuple [.str "rule", .str nm, .str rl, ts, body]
  | .den nm body => .tuple [.str "denial", .str nm, body]
def okI : It1 → Prop
  | .rel _ _ => True
  | .fact _ ds => Atoms ds ∧ ds.length ≤ 1000
  | .rule _ _ ts body => nice ts ∧ nice body ∧ ts.depth ≤ 4 ∧ body.depth ≤ 4
  | .den _ body => nice body ∧ body.depth ≤ 4
def keyI : It1 → Int × Str × List PyData
  | .rel nm _ => (0, nm, [])
  | .fact nm ds => (1, nm, ds)
  | .rule nm _ _ _ => (2, nm, [])
  | .den nm _ => (3, nm, [])
abbrev kdI (i : It1) : PyData := kd (keyI i).1 (keyI i).2.1 (keyI i).2.2
theorem okI_key {i : It1} (h : okI i) : Atoms (keyI i).2.2 ∧ (keyI i).2.2.length ≤ 1000 := by
  cases i with
  | rel nm n => exact ⟨(fun x hx => by cases hx), Nat.zero_le _⟩
  | fact nm ds => exact h
  | rule nm rl ts body => exact ⟨(fun x hx => by cases hx), Nat.zero_le _⟩
  | den nm body => exact ⟨(fun x hx => by cases hx), Nat.zero_le _⟩
theorem nice_row {ds : List PyData} (h : Atoms ds) (l : ds.length ≤ 1000) : nice (.tuple ds) := nice_tup (niceAll_of fun d hd => nice_atom (h d hd)) l
theorem okI_nice {i : It1} (h : okI i) : nice (itD i) ∧ (itD i).depth ≤ 5 := by
  cases i with
  | rel nm n => exact ⟨n3 (nice_str _) (nice_str _) (nice_int _), dep3 (k := 4) (Nat.zero_le _) (Nat.zero_le _) (Nat.zero_le _)⟩
  | fact nm ds =>
    refine ⟨n3 (nice_str _) (nice_str _) (nice_row h.1 h.2), dep3 (k := 4) (Nat.zero_le _) (Nat.zero_le _) ?_⟩
    have t := atoms_depth h.1
    show PyData.depthAll ds + 1 ≤ 4
    omega
  | rule nm rl ts body => exact ⟨n5 (nice_str _) (nice_str _) (nice_str _) h.1 h.2.1, dep5 (k := 4) (Nat.zero_le _) (Nat.zero_le _) (Nat.zero_le _) h.2.2.1 h.2.2.2⟩
  | den nm body => exact ⟨n3 (nice_str _) (nice_str _) h.1, dep3 (k := 4) (Nat.zero_le _) (Nat.zero_le _) h.2⟩
theorem small_row {ds : List PyData} (h : Atoms ds) : small (.tuple (ds.map vk)) := by
  show PyData.depthAll (ds.map vk) + 1 ≤ 64
  have t := vks_depth h
  omega
theorem same_new {H : Hp} {p : Addr} {o : HO} (h : H p = none) : Same H (upd H p o) := fun a u e => by
  rw [upd_ne (ne_of_none e h)]
  exact e
theorem same_add {H H' : Hp} {p : Addr} {o : HO} (s : Same H H') (h : H' p = none) : Same H (upd H' p o) := s.trans (same_new h)
theorem same_put {H H' : Hp} {p : Addr} {o : HO} (s : Same H H') (h : H p = none) : Same H (upd H' p o) := fun a u e => by
  rw [upd_ne (ne_of_none e h)]
  exact s a u e
section
variable {P : Program} {w : World} {K : PySem.W.Frag} {mg : Str → Option Value} {base : Heap}
abbrev dRow (P : Program) (w : World) (K : PySem.W.Frag) (mg : Str → Option Value) (base : Heap) : Prop := Def P w K mg base "_law_row" 3 ["state", "width"] spRow
/-! ### _law_item -/
abbrev sItem : Stmt := topS 21
theorem scItem : FnScope ["state", "pick", "name"] ["state"] (defScope sItem) := ⟨rfl, rfl, rfl, by decide +kernel, rfl, by decide +kernel, by decide +kernel⟩
def spItem : Sp := fun vs H Q _ => ∃ (st L : Addr), vs = [.ref st] ∧ Good st L H ∧ ∀ (v : V) (i : It1) H', Dr st L H H' → Tp H' v (itD i) → okI i → Q v H'
theorem ok_item {f : Addr} {fd : FuncData} (F : Fun K "_law_item" "_law_item" sItem f fd) (DN : dNext P w K mg base) (DR : dRow P w K mg base) (DM : dName P w K mg base) (DS : dTerms P w K mg base) (DB : dBody P w K mg base) : FnOk P w K mg base CX0 7 f fd ["state"] spItem := by
  refine F.ok scItem (fun vs H Q E h => ?_) (fun cdv A outer s H vs Q E hr h => ?_)
  · obtain ⟨st, L, rfl, _⟩ := h
    rfl
  · obtain ⟨st, L, rfl, g, q⟩ := h
    refine ⟨_, pss_cons (ps_set (i := 1) scItem.nd rfl (.inl rfl) (pe_def DN (hr.mono (by decide)) (by rfl) (pa_cons (pv 0) (pa_cons pe_int pa_nil))))
      (pss_cons (ps_set (i := 2) scItem.nd rfl (.inl rfl) (pe_def DM (hr.mono (by decide)) (by rfl) (pa_cons (pv 0) pa_nil)))
      (pss_cons (ps_if (pt_cmpR op_lt (pv 1) pe_int (nomark _)) (pss_one (ps_ret (pe_tup (pa_cons pe_str (pa_cons (pv 2) (pa_cons (pe_op op_add pe_int (pe_def DN (hr.mono (by decide)) (by rfl) (pa_cons (pv 0) (pa_cons pe_int pa_nil)))) pa_nil)))))) pss_nil)
      (pss_cons (ps_if (pt_cmpR op_lt (pv 1) pe_int (nomark _)) (pss_one (ps_ret (pe_tup (pa_cons pe_str (pa_cons (pv 2) (pa_cons (pe_def DR (hr.mono (by decide)) (by rfl) (pa_cons (pv 0) (pa_cons (pe_op op_add pe_int (pe_def DN (hr.mono (by decide)) (by rfl) (pa_cons (pv 0) (pa_cons pe_int pa_nil)))) pa_nil))) pa_nil)))))) pss_nil)
      (pss_cons (ps_if (pt_cmpR op_lt (pv 1) pe_int (nomark _)) (pss_one (ps_ret (pe_tup (pa_cons pe_str (pa_cons (pv 2) (pa_cons (pe_def DM (hr.mono (by decide)) (by rfl) (pa_cons (pv 0) pa_nil)) (pa_cons (pe_def DS (hr.mono (by decide)) (by rfl) (pa_cons (pv 0) pa_nil)) (pa_cons (pe_def DB hr (by rfl) (pa_cons (pv 0) pa_nil)) pa_nil)))))))) pss_nil)
      (pss_one (ps_ret (pe_tup (pa_cons pe_str (pa_cons (pv 2) (pa_cons (pe_def DB hr (by rfl) (pa_cons (pv 0) pa_nil)) pa_nil)))))))))), ?_⟩
    refine ⟨.ref st, rfl, st, L, 8, rfl, g, by decide, by decide, fun pick H1 d1 p0 p1 => ?_⟩
    refine ⟨.ref st, rfl, st, L, rfl, d1.good, fun nm H2 d2 => ?_⟩
    have d12 := d1.trans d2
    refine ⟨.int pick, rfl, pick, 2, rfl, rfl, _, rfl, ite2 (fun c => ?_) (fun c => ?_)⟩
    · refine ⟨.str nm, rfl, .ref st, rfl, st, L, 4, rfl, d2.good, by decide, by decide, fun n H3 d3 n0 n1 => ⟨1, n, rfl, rfl, (by show 3 ≤ sizeLine; decide), fun p np => ?_⟩⟩
      exact q _ (.rel nm (1 + n)) _ ((d12.trans d3).add np) (.tup upd_same (.cons (.str _) (.cons (.str nm) (.cons (.int _) .nil)))) trivial
    refine ⟨.int pick, rfl, pick, 5, rfl, rfl, _, rfl, ite2 (fun c => ?_) (fun c => ?_)⟩
    · refine ⟨.str nm, rfl, .ref st, rfl, .ref st, rfl, st, L, 4, rfl, d2.good, by decide, by decide, fun n H3 d3 n0 n1 => ⟨1, n, rfl, rfl, st, L, 1 + n, rfl, d3.good, by omega, by omega, fun r ds H4 d4 tr ar lr => ⟨(by show 3 ≤ sizeLine; decide), fun p np => ?_⟩⟩⟩
      exact q _ (.fact nm ds) _ ((d12.trans (d3.trans d4)).add np) (.tup upd_same (.cons (.str _) (.cons (.str nm) (.cons (tr.mono (Tk.new np)) .nil)))) ⟨ar, by omega⟩
    refine ⟨.int pick, rfl, pick, 7, rfl, rfl, _, rfl, ite2 (fun c => ?_) (fun c => ?_)⟩
    · refine ⟨.str nm, rfl, .ref st, rfl, st, L, rfl, d2.good, fun nm2 H3 d3 => ⟨.ref st, rfl, st, L, rfl, d3.good, fun b db H4 d4 tb nb pb => ⟨.ref st, rfl, st, L, rfl, d4.good, fun b2 db2 H5 d5 tb2 nb2 pb2 => ⟨(by show 5 ≤ sizeLine; decide), fun p np => ?_⟩⟩⟩⟩
      exact q _ (.rule nm nm2 db db2) _ ((d12.trans (d3.trans (d4.trans d5))).add np) (.tup upd_same (.cons (.str _) (.cons (.str nm) (.cons (.str nm2) (.cons ((tb.mono (d5.tk d4.good)).mono (Tk.new np)) (.cons (tb2.mono (Tk.new np)) .nil)))))) ⟨nb, nb2, by omega, pb2⟩
    · refine ⟨.str nm, rfl, .ref st, rfl, st, L, rfl, d2.good, fun b db H3 d3 tb nb pb => ⟨(by show 3 ≤ sizeLine; decide), fun p np => ?_⟩⟩
      exact q _ (.den nm db) _ ((d12.trans d3).add np) (.tup upd_same (.cons (.str _) (.cons (.str nm) (.cons (tb.mono (Tk.new np)) .nil)))) ⟨nb, pb⟩
/-! ### value_key, row_key, same_row -/
abbrev sVK : Stmt := topS 1
theorem scVK : FnScope ["value"] ["value"] (defScope sVK) := ⟨rfl, rfl, rfl, by decide +kernel, rfl, by decide +kernel, by decide +kernel⟩
def spVK : Sp := fun vs H Q _ => ∃ (v : V) (d : PyData), vs = [v] ∧ Tp H v d ∧ isAtom d ∧ ∀ (p : Addr) H', Same H H' → Tp H' (.ref p) (vk d) → Q (.ref p) H'
theorem ok_vk {f : Addr} {fd : FuncData} (F : Fun K "value_key" "value_key" sVK f fd) (B : Bt mg) : FnOk P w K mg base CX0 1 f fd ["value"] spVK := by
  refine F.ok scVK (fun vs H Q E h => ?_) (fun cdv A outer s H vs Q E hr h => ?_)
  · obtain ⟨v, d, rfl, _⟩ := h
    rfl
  · obtain ⟨v, d, rfl, tv, ad, q⟩ := h
    refine ⟨_, pss_cons (ps_if (pt_val (pe_callB call_isi (by rfl) B.isi (by decide +kernel) (pa_cons (pv 0) (pa_cons (pe_bltn (v := .ty "str") (u := .type "str") (by rfl) B.str (by decide +kernel) rfl) pa_nil)))) (pss_one (ps_ret (pe_tup (pa_cons pe_int (pa_cons (pv 0) pa_nil))))) pss_nil)
      (pss_one (ps_ret (pe_tup (pa_cons pe_int (pa_cons (pv 0) pa_nil))))), ?_⟩
    cases tv with
    | int i =>
      refine ⟨.int i, rfl, .int i, .ty "str", _, _, false, rfl, .ty "str", .base (.int i), kit_ty (by decide +kernel), _, rfl, iteF ?_⟩
      exact ⟨.int i, rfl, (by show 2 ≤ sizeLine; decide), fun p np => q p _ (same_new np) (.tup upd_same (.cons (.int 0) (.cons (.int i) .nil)))⟩
    | str z =>
      refine ⟨.str z, rfl, .str z, .ty "str", _, _, true, rfl, .ty "str", .base (.str z), kit_ty (by decide +kernel), _, rfl, iteT ?_⟩
      exact ⟨.str z, rfl, (by show 2 ≤ sizeLine; decide), fun p np => q p _ (same_new np) (.tup upd_same (.cons (.int 1) (.cons (.str z) .nil)))⟩
    | non => exact ad.elim
    | bl b => exact ad.elim
    | tup e r => exact ad.elim
abbrev sRK : Stmt := topS 2
theorem scRK : FnScope ["row", "value"] ["row"] (defScope sRK) := ⟨rfl, rfl, rfl, by decide +kernel, rfl, by decide +kernel, by decide +kernel⟩
def spRK : Sp := fun vs H Q _ => ∃ (v : V) (ds : List PyData), vs = [v] ∧ Tp H v (.tuple ds) ∧ Atoms ds ∧ ds.length ≤ 1000 ∧ ∀ (p : Addr) H', Same H H' → Tp H' (.ref p) (.tuple (ds.map vk)) → Q (.ref p) H'
theorem ok_rk {f : Addr} {fd : FuncData} (F : Fun K "row_key" "row_key" sRK f fd) (B : Bt mg) (DV : Def P w K mg base "value_key" 1 ["value"] spVK) : FnOk P w K mg base CX0 2 f fd ["row"] spRK := by
  refine F.ok scRK (fun vs H Q E h => ?_) (fun cdv A outer s H vs Q E hr h => ?_)
  · obtain ⟨v, d, rfl, _⟩ := h
    rfl
  · obtain ⟨v, ds, rfl, tv, ad, ld, q⟩ := h
    refine ⟨_, pss_one (ps_ret (pe_callTy call_tuple_of (by rfl) B.tup (by decide +kernel) (pa_cons (pe_lc (own := [("value", 1)]) (g := gName 1) (tt := tYes) rfl scRK.nd (pi_tup (pv 0))
      (blkOk_by (own := [("value", 1)]) (N := ["row", "value"]) (sc := defScope sRK) (by decide +kernel)) (fun _ _ _ _ _ => pg_name (i := 1) scRK.nd rfl (Or.inl rfl)) (fun _ _ _ _ _ => pts_nil)
      (fun _ _ _ _ _ => pe_def DV hr (by rfl) (pa_cons (pv 1) pa_nil))) pa_nil))), ?_⟩
    cases tv with
    | @tup a xs _ e r =>
      have lx := r.length
      refine ⟨.ref a, rfl, a, rfl, ⟨xs, SqT.of e⟩, fun D nD => ?_⟩
      refine lc_tup (K := K) (a := a) (xs := xs) (fun i H' => Same H H' ∧ ∃ ys, H' D = some (.lst ys) ∧ Tps H' ys ((ds.take i).map vk)) ⟨same_new nD, [], upd_same, .nil⟩ (fun i H' _ hP => SqT.of (hP.1 _ _ e)) (fun i x H' hx hP => ?_) (fun H' hP => ?_)
      · obtain ⟨sm, ys, eD, ht⟩ := hP
        obtain ⟨d, ed, td⟩ := r.get hx
        have hi : i < xs.length := by
          rcases Nat.lt_or_ge i xs.length with c | c
          · exact c
          · rw [List.getElem?_eq_none c] at hx
            cases hx
        refine ⟨rfl, ?_⟩
        refine iteT (B := True) ?_
        refine ⟨x, rfl, x, d, rfl, td.mono (Tk.of sm), ad d (List.mem_of_getElem? ed), fun p H2 s2 tp => ?_⟩
        have ly : ys.length ≤ 1000 := by
          rw [ht.length, List.length_map, List.length_take]
          omega
        have eD2 := s2 _ _ eD
        have kk : Tk H2 (upd H2 D (.lst (ys ++ [.ref p]))) := Tk.lst eD2
        refine ⟨ys, eD2, small1000 ly, same_put (sm.trans s2) nD, ys ++ [.ref p], upd_same, ?_⟩
        rw [List.take_add_one, ed, List.map_append]
        exact ((ht.mono (Tk.of s2)).mono kk).append (.cons (tp.mono kk) .nil)
      · obtain ⟨sm, ys, eD, ht⟩ := hP
        rw [List.take_of_length_le (by omega)] at ht
        exact ⟨D, ys, rfl, .inl ⟨SqL.of eD, fun p np => q p _ (same_add sm np) (.tup upd_same (ht.mono (Tk.new np)))⟩⟩
abbrev dRK (P : Program) (w : World) (K : PySem.W.Frag) (mg : Str → Option Value) (base : Heap) : Prop := Def P w K mg base "row_key" 2 ["row"] spRK
abbrev sSR : Stmt := topS 3
theorem scSR : FnScope ["first", "second"] ["first", "second"] (defScope sSR) := ⟨rfl, rfl, rfl, by decide +kernel, rfl, by decide +kernel, by decide +kernel⟩
def spSR : Sp := fun vs H Q _ => ∃ (v u : V) (ds es : List PyData), vs = [v, u] ∧ Tp H v (.tuple ds) ∧ Tp H u (.tuple es) ∧ Atoms ds ∧ Atoms es ∧ ds.length ≤ 1000 ∧ es.length ≤ 1000 ∧
  ∀ H', Same H H' → Q (.bl (PyData.eqv (.tuple (ds.map vk)) (.tuple (es.map vk)))) H'
theorem ok_sr {f : Addr} {fd : FuncData} (F : Fun K "same_row" "same_row" sSR f fd) (DR : dRK P w K mg base) : FnOk P w K mg base CX0 3 f fd ["first", "second"] spSR := by
  refine F.ok scSR (fun vs H Q E h => ?_) (fun cdv A outer s H vs Q E hr h => ?_)
  · obtain ⟨v, u, ds, es, rfl, _⟩ := h
    rfl
  · obtain ⟨v, u, ds, es, rfl, tv, tu, ad, ae, ld, le, q⟩ := h
    refine ⟨_, pss_one (ps_ret (pe_cmpR (op_eqP hr.units) (pe_def DR hr (by rfl) (pa_cons (pv 0) pa_nil)) (pe_def DR hr (by rfl) (pa_cons (pv 1) pa_nil)) (nomark _))), ?_⟩
    refine ⟨v, rfl, v, ds, rfl, tv, ad, ld, fun p H1 s1 t1 => ⟨u, rfl, u, es, rfl, tu.mono (Tk.of s1), ae, le, fun p2 H2 s2 t2 => ?_⟩⟩
    exact ⟨_, _, t1.mono (Tk.of s2), t2, small_row ad, q _ (s1.trans s2)⟩
/-! ### key_of, key_order -/
abbrev sKO : Stmt := topS 4
theorem scKO : FnScope ["item"] ["item"] (defScope sKO) := ⟨rfl, rfl, rfl, by decide +kernel, rfl, by decide +kernel, by decide +kernel⟩
def spKO : Sp := fun vs H Q _ => ∃ (v : V) (i : It1), vs = [v] ∧ Tp H v (itD i) ∧ okI i ∧ ∀ (r : Addr) H', Same H H' → Tp H' (.ref r) (kdI i) → Q (.ref r) H'
theorem yes_if {A B : Prop} {x : V} (h : A) : if decide (x = x) = true then A else B := by
  rw [decide_eq_true rfl]
  exact iteT h
theorem no_if {A B : Prop} {x y : V} (n : x ≠ y) (h : B) : if decide (x = y) = true then A else B := by
  rw [decide_eq_false n]
  exact iteF h
theorem inv3 {H : Hp} {v : V} {a b : Str} {d : PyData} (t : Tp H v (.tuple [.str a, .str b, d])) : ∃ p, v = .ref p ∧ ∃ x, H p = some (.tup [.str a, .str b, x]) ∧ Tp H x d := by
  cases t with
  | tup e r =>
    cases r with
    | cons h1 r => cases r with
      | cons h2 r => cases r with
        | cons h3 r =>
          cases r
          cases h1
          cases h2
          exact ⟨_, rfl, _, e, h3⟩
theorem inv5 {H : Hp} {v : V} {a b c : Str} {d f : PyData} (t : Tp H v (.tuple [.str a, .str b, .str c, d, f])) : ∃ p, v = .ref p ∧ ∃ x y z, H p = some (.tup [.str a, .str b, x, y, z]) := by
  cases t with
  | tup e r =>
    cases r with
    | cons h1 r => cases r with
      | cons h2 r => cases r with
        | cons h3 r => cases r with
          | cons h4 r => cases r with
            | cons h5 r =>
              cases r
              cases h1
              cases h2
              exact ⟨_, rfl, _, _, _, e⟩
theorem ok_ko {f : Addr} {fd : FuncData} (F : Fun K "key_of" "key_of" sKO f fd) : FnOk P w K mg base CX0 1 f fd ["item"] spKO := by
  refine F.ok scKO (fun vs H Q E h => ?_) (fun cdv A outer s H vs Q E hr h => ?_)
  · obtain ⟨v, i, rfl, _⟩ := h
    rfl
  · obtain ⟨v, i, rfl, tv, oi, q⟩ := h
    refine ⟨_, pss_cons (ps_if (pt_cmpR op_eq (pe_ix ix_tup (pv 0) pe_int (fun _ _ => rfl)) pe_str (nomark _)) (pss_one (ps_ret (pe_tup (pa_cons pe_int (pa_cons (pe_ix ix_tup (pv 0) pe_int (fun _ _ => rfl)) (pa_cons (pe_tup pa_nil) pa_nil)))))) pss_nil)
      (pss_cons (ps_if (pt_cmpR op_eq (pe_ix ix_tup (pv 0) pe_int (fun _ _ => rfl)) pe_str (nomark _)) (pss_one (ps_ret (pe_tup (pa_cons pe_int (pa_cons (pe_ix ix_tup (pv 0) pe_int (fun _ _ => rfl)) (pa_cons (pe_ix ix_tup (pv 0) pe_int (fun _ _ => rfl)) pa_nil)))))) pss_nil)
      (pss_cons (ps_if (pt_cmpR op_eq (pe_ix ix_tup (pv 0) pe_int (fun _ _ => rfl)) pe_str (nomark _)) (pss_one (ps_ret (pe_tup (pa_cons pe_int (pa_cons (pe_ix ix_tup (pv 0) pe_int (fun _ _ => rfl)) (pa_cons (pe_tup pa_nil) pa_nil)))))) pss_nil)
      (pss_one (ps_ret (pe_tup (pa_cons pe_int (pa_cons (pe_ix ix_tup (pv 0) pe_int (fun _ _ => rfl)) (pa_cons (pe_tup pa_nil) pa_nil)))))))), ?_⟩
    have s3 : 3 ≤ sizeLine := by decide
    cases i with
    | rel nm n =>
      obtain ⟨p, rfl, x3, e, t3⟩ := inv3 tv
      refine ⟨.ref p, rfl, p, _, 0, .str "relation", rfl, rfl, SqT.of e, rfl, rfl, _, rfl, yes_if ?_⟩
      refine ⟨.ref p, rfl, p, _, 1, .str nm, rfl, rfl, SqT.of e, rfl, Nat.zero_le _, fun t nt => ⟨s3, fun r nr => ?_⟩⟩
      exact q r _ (same_add (same_new nt) nr) (.tup upd_same (.cons (.int 0) (.cons (.str nm) (.cons (.tup (by rw [upd_ne (ne_of_none upd_same nr)]; exact upd_same) .nil) .nil))))
    | fact nm ds =>
      obtain ⟨p, rfl, x3, e, tq⟩ := inv3 tv
      refine ⟨.ref p, rfl, p, _, 0, .str "fact", rfl, rfl, SqT.of e, rfl, rfl, _, rfl, no_if (by decide +kernel) ?_⟩
      refine ⟨.ref p, rfl, p, _, 0, .str "fact", rfl, rfl, SqT.of e, rfl, rfl, _, rfl, yes_if ?_⟩
      refine ⟨.ref p, rfl, p, _, 1, .str nm, rfl, rfl, SqT.of e, rfl, .ref p, rfl, p, _, 2, x3, rfl, rfl, SqT.of e, rfl, s3, fun r nr => ?_⟩
      exact q r _ (same_new nr) (.tup upd_same (.cons (.int 1) (.cons (.str nm) (.cons (tq.mono (Tk.new nr)) .nil))))
    | rule nm rl ts bd =>
      obtain ⟨p, rfl, a, b, c, e⟩ := inv5 tv
      refine ⟨.ref p, rfl, p, _, 0, .str "rule", rfl, rfl, SqT.of e, rfl, rfl, _, rfl, no_if (by decide +kernel) ?_⟩
      refine ⟨.ref p, rfl, p, _, 0, .str "rule", rfl, rfl, SqT.of e, rfl, rfl, _, rfl, no_if (by decide +kernel) ?_⟩
      refine ⟨.ref p, rfl, p, _, 0, .str "rule", rfl, rfl, SqT.of e, rfl, rfl, _, rfl, yes_if ?_⟩
      refine ⟨.ref p, rfl, p, _, 1, .str nm, rfl, rfl, SqT.of e, rfl, Nat.zero_le _, fun t nt => ⟨s3, fun r nr => ?_⟩⟩
      exact q r _ (same_add (same_new nt) nr) (.tup upd_same (.cons (.int 2) (.cons (.str nm) (.cons (.tup (by rw [upd_ne (ne_of_none upd_same nr)]; exact upd_same) .nil) .nil))))
    | den nm bd =>
      obtain ⟨p, rfl, b, e, tb⟩ := inv3 tv
      refine ⟨.ref p, rfl, p, _, 0, .str "denial", rfl, rfl, SqT.of e, rfl, rfl, _, rfl, no_if (by decide +kernel) ?_⟩
      refine ⟨.ref p, rfl, p, _, 0, .str "denial", rfl, rfl, SqT.of e, rfl, rfl, _, rfl, no_if (by decide +kernel) ?_⟩
      refine ⟨.ref p, rfl, p, _, 0, .str "denial", rfl, rfl, SqT.of e, rfl, rfl, _, rfl, no_if (by decide +kernel) ?_⟩
      refine ⟨.ref p, rfl, p, _, 1, .str nm, rfl, rfl, SqT.of e, rfl, Nat.zero_le _, fun t nt => ⟨s3, fun r nr => ?_⟩⟩
      exact q r _ (same_add (same_new nt) nr) (.tup upd_same (.cons (.int 3) (.cons (.str nm) (.cons (.tup (by rw [upd_ne (ne_of_none upd_same nr)]; exact upd_same) .nil) .nil))))
end
end KD

namespace KD
open PySem PySem.Spec PyProof.Rows L2 KA
section
variable {P : Program} {w : World} {K : PySem.W.Frag} {mg : Str → Option Value} {base : Heap}
/-! ### _law_before, _law_order -/
abbrev sBF : Stmt := topS 22
theorem scBF : FnScope ["first", "second"] ["first", "second"] (defScope sBF) := ⟨rfl, rfl, rfl, by decide +kernel, rfl, by decide +kernel, by decide +kernel⟩
def spBF : Sp := fun vs H Q _ => ∃ (v u : V) (d e : PyData), vs = [v, u] ∧ Tp H v d ∧ Tp H u e ∧ isAtom d ∧ isAtom e ∧ Q (.bl (bf d e)) H
theorem ok_bf {f : Addr} {fd : FuncData} (F : Fun K "_law_before" "_law_before" sBF f fd) (B : Bt mg) : FnOk P w K mg base CX0 1 f fd ["first", "second"] spBF := by
  refine F.ok scBF (fun vs H Q E h => ?_) (fun cdv A outer s H vs Q E hr h => ?_)
  · obtain ⟨v, u, d, e, rfl, _⟩ := h
    rfl
  · obtain ⟨v, u, d, e, rfl, tv, tu, ad, ae, q⟩ := h
    refine ⟨_, pss_cons (ps_if (pt_cmpR op_ne (pe_callB call_isi (by rfl) B.isi (by decide +kernel) (pa_cons (pv 0) (pa_cons (pe_bltn (v := .ty "str") (u := .type "str") (by rfl) B.str (by decide +kernel) rfl) pa_nil)))
          (pe_callB call_isi (by rfl) B.isi (by decide +kernel) (pa_cons (pv 1) (pa_cons (pe_bltn (v := .ty "str") (u := .type "str") (by rfl) B.str (by decide +kernel) rfl) pa_nil))) (nomark _))
        (pss_one (ps_ret (pe_callB call_isi (by rfl) B.isi (by decide +kernel) (pa_cons (pv 1) (pa_cons (pe_bltn (v := .ty "str") (u := .type "str") (by rfl) B.str (by decide +kernel) rfl) pa_nil))))) pss_nil)
      (pss_one (ps_ret (pe_cmpR (op_ltP hr.units) (pv 0) (pv 1) (nomark _)))), ?_⟩
    cases tv with
    | int i =>
      cases tu with
      | int j =>
        refine ⟨.int i, rfl, .int i, .ty "str", _, _, false, rfl, .ty "str", .base (.int i), kit_ty (by decide +kernel), .int j, rfl, .int j, .ty "str", _, _, false, rfl, .ty "str", .base (.int j), kit_ty (by decide +kernel), rfl, _, rfl, iteF ?_⟩
        exact ⟨_, rfl, _, rfl, .int i, .int j, _, .int i, .int j, Nat.zero_le _, rfl, q⟩
      | str z =>
        refine ⟨.int i, rfl, .int i, .ty "str", _, _, false, rfl, .ty "str", .base (.int i), kit_ty (by decide +kernel), .str z, rfl, .str z, .ty "str", _, _, true, rfl, .ty "str", .base (.str z), kit_ty (by decide +kernel), rfl, _, rfl, iteT ?_⟩
        exact ⟨.str z, rfl, .str z, .ty "str", _, _, true, rfl, .ty "str", .base (.str z), kit_ty (by decide +kernel), q⟩
      | non => exact ae.elim
      | bl b => exact ae.elim
      | tup e r => exact ae.elim
    | str y =>
      cases tu with
      | int j =>
        refine ⟨.str y, rfl, .str y, .ty "str", _, _, true, rfl, .ty "str", .base (.str y), kit_ty (by decide +kernel), .int j, rfl, .int j, .ty "str", _, _, false, rfl, .ty "str", .base (.int j), kit_ty (by decide +kernel), rfl, _, rfl, iteT ?_⟩
        exact ⟨.int j, rfl, .int j, .ty "str", _, _, false, rfl, .ty "str", .base (.int j), kit_ty (by decide +kernel), q⟩
      | str z =>
        refine ⟨.str y, rfl, .str y, .ty "str", _, _, true, rfl, .ty "str", .base (.str y), kit_ty (by decide +kernel), .str z, rfl, .str z, .ty "str", _, _, true, rfl, .ty "str", .base (.str z), kit_ty (by decide +kernel), rfl, _, rfl, iteF ?_⟩
        exact ⟨_, rfl, _, rfl, .str y, .str z, _, .str y, .str z, Nat.zero_le _, rfl, q⟩
      | non => exact ae.elim
      | bl b => exact ae.elim
      | tup e r => exact ae.elim
    | non => exact ad.elim
    | bl b => exact ad.elim
    | tup e r => exact ad.elim
abbrev dBF (P : Program) (w : World) (K : PySem.W.Frag) (mg : Str → Option Value) (base : Heap) : Prop := Def P w K mg base "_law_before" 1 ["first", "second"] spBF
abbrev sOR : Stmt := topS 23
theorem scOR : FnScope ["first", "second", "k"] ["first", "second"] (defScope sOR) := ⟨rfl, rfl, rfl, by decide +kernel, rfl, by decide +kernel, by decide +kernel⟩
def spOR : Sp := fun vs H Q _ => ∃ (v u : V) (ds es : List PyData), vs = [v, u] ∧ Tp H v (.tuple ds) ∧ Tp H u (.tuple es) ∧ Atoms ds ∧ Atoms es ∧ ds.length ≤ 1000 ∧ es.length ≤ 1000 ∧ Q (.int (rord ds es)) H
theorem rord_end : ∀ {ds es : List PyData}, min ds.length es.length = 0 → rord ds es = (if es.length < ds.length then (1 : Int) else 0) - (if ds.length < es.length then (1 : Int) else 0)
  | [], [], _ => rfl
  | [], e :: r, _ => by
    rw [rord, if_neg (by simp), if_pos (by simp)]
    rfl
  | d :: r, [], _ => by
    rw [rord, if_pos (by simp), if_neg (by simp)]
    rfl
  | d :: r, e :: t, h => by
    simp only [List.length_cons] at h
    omega
theorem drop_get {α : Type} {l : List α} {i : Nat} {x : α} (h : l[i]? = some x) : l.drop i = x :: l.drop (i + 1) := by
  obtain ⟨h1, h2⟩ := List.getElem?_eq_some_iff.mp h
  rw [List.drop_eq_getElem_cons h1, h2]
theorem ok_or {f : Addr} {fd : FuncData} (F : Fun K "_law_order" "_law_order" sOR f fd) (B : Bt mg) (DB : dBF P w K mg base) : FnOk P w K mg base CX0 2 f fd ["first", "second"] spOR := by
  refine F.ok scOR (fun vs H Q E h => ?_) (fun cdv A outer s H vs Q E hr h => ?_)
  · obtain ⟨v, u, d, e, rfl, _⟩ := h
    rfl
  · obtain ⟨v, u, ds, es, rfl, tv, tu, ad, ae, ld, le, q⟩ := h
    refine ⟨_, pss_cons (ps_for PassesOwn.never rfl (pi_range1 (by rfl) B.rng (pa_cons (pe_callB (call_min2 rfl) (by rfl) B.min (by decide +kernel) (pa_cons (pe_callB call_len_seq (by rfl) B.len PySem.boot_len (pa_cons (pv 0) pa_nil)) (pa_cons (pe_callB call_len_seq (by rfl) B.len PySem.boot_len (pa_cons (pv 1) pa_nil)) pa_nil))) pa_nil))
          (pg_name (i := 2) scOR.nd rfl (.inl rfl))
          (pss_cons (ps_if (pt_val (pe_def DB hr (by rfl) (pa_cons (pe_ix ix_tup (pv 0) (pv 2) (fun _ _ => rfl)) (pa_cons (pe_ix ix_tup (pv 1) (pv 2) (fun _ _ => rfl)) pa_nil)))) (pss_one (ps_ret (pe_un un_neg pe_int))) pss_nil)
          (pss_one (ps_if (pt_val (pe_def DB hr (by rfl) (pa_cons (pe_ix ix_tup (pv 1) (pv 2) (fun _ _ => rfl)) (pa_cons (pe_ix ix_tup (pv 0) (pv 2) (fun _ _ => rfl)) pa_nil)))) (pss_one (ps_ret pe_int)) pss_nil))))
      (pss_one (ps_ret (pe_op op_sub (pe_callTy call_int1 (by rfl) B.int (by decide +kernel) (pa_cons (pe_cmpR op_gt (pe_callB call_len_seq (by rfl) B.len PySem.boot_len (pa_cons (pv 0) pa_nil)) (pe_callB call_len_seq (by rfl) B.len PySem.boot_len (pa_cons (pv 1) pa_nil)) (nomark _)) pa_nil))
        (pe_callTy call_int1 (by rfl) B.int (by decide +kernel) (pa_cons (pe_cmpR op_lt (pe_callB call_len_seq (by rfl) B.len PySem.boot_len (pa_cons (pv 0) pa_nil)) (pe_callB call_len_seq (by rfl) B.len PySem.boot_len (pa_cons (pv 1) pa_nil)) (nomark _)) pa_nil))))), ?_⟩
    cases tv with
    | @tup a xs _ ea ra =>
      cases tu with
      | @tup b ys _ eb rb =>
        have lx := ra.length
        have ly := rb.length
        refine ⟨.ref a, rfl, a, xs, rfl, .inr (SqT.of ea), .ref b, rfl, b, ys, rfl, .inr (SqT.of eb), (xs.length : Int), (ys.length : Int), rfl, ?_⟩
        have em : (if (ys.length : Int) < (xs.length : Int) then (ys.length : Int) else (xs.length : Int)) = ((min ds.length es.length : Nat) : Int) := by
          rw [lx, ly]
          by_cases c : es.length < ds.length
          · rw [if_pos (by omega), Nat.min_eq_right (by omega)]
          · rw [if_neg (by omega), Nat.min_eq_left (by omega)]
        refine ⟨_, rfl, by rw [em]; omega, by rw [em]; omega, ?_⟩
        rw [em]
        refine for_range (lo := 0) (n := (((min ds.length es.length : Nat) : Int)).toNat) (fun i σ H' => H' = H ∧ rord ds es = rord (ds.drop i) (es.drop i) ∧ ∃ x2, σ = [some (.ref a), some (.ref b), x2]) ⟨rfl, rfl, none, rfl⟩ (fun i σ H' hi hP => ?_) (fun σ H' hP => ?_)
        · obtain ⟨rfl, ro, x2, rfl⟩ := hP
          rw [Int.toNat_natCast] at hi
          have i1 : i < ds.length := by omega
          have i2 : i < es.length := by omega
          have g1 := List.getElem?_eq_getElem i1
          have g2 := List.getElem?_eq_getElem i2
          obtain ⟨x, ex, tx⟩ := ra.at_ g1
          obtain ⟨y, ey, ty⟩ := rb.at_ g2
          have ax := ad _ (List.mem_of_getElem? g1)
          have ay := ae _ (List.mem_of_getElem? g2)
          have e0 : (0 : Int) + (i : Int) = ((i : Nat) : Int) := Int.zero_add _
          rw [drop_get g1, drop_get g2, rord] at ro
          refine ⟨.ref a, rfl, .int (0 + i), rfl, a, xs, 0 + i, x, rfl, rfl, SqT.of ea, at_of e0 ex, .ref b, rfl, .int (0 + i), rfl, b, ys, 0 + i, y, rfl, rfl, SqT.of eb, at_of e0 ey, x, y, _, _, rfl, tx, ty, ax, ay, _, rfl, ite2 (fun c => ?_) (fun c => ?_)⟩
          · rw [if_pos c] at ro
            rw [ro] at q
            exact ⟨1, rfl, q⟩
          · rw [if_neg c] at ro
            refine ⟨.ref b, rfl, .int (0 + i), rfl, b, ys, 0 + i, y, rfl, rfl, SqT.of eb, at_of e0 ey, .ref a, rfl, .int (0 + i), rfl, a, xs, 0 + i, x, rfl, rfl, SqT.of ea, at_of e0 ex, y, x, _, _, rfl, ty, tx, ay, ax, _, rfl, ite2 (fun c2 => ?_) (fun c2 => ?_)⟩
            · rw [if_pos c2] at ro
              rw [ro] at q
              exact q
            · rw [if_neg c2] at ro
              exact ⟨rfl, ro, _, rfl⟩
        · obtain ⟨rfl, ro, x2, rfl⟩ := hP
          rw [Int.toNat_natCast] at ro
          have re := rord_end (ds := ds.drop (min ds.length es.length)) (es := es.drop (min ds.length es.length)) (by
            rw [List.length_drop, List.length_drop]
            omega)
          rw [← ro] at re
          have q2 : (if es.length < ds.length then (1 : Int) else 0) - (if ds.length < es.length then (1 : Int) else 0) = rord ds es := by
            rw [re, List.length_drop, List.length_drop]
            clear re ro em
            (repeat' split) <;> omega
          refine ⟨.ref a, rfl, a, xs, rfl, .inr (SqT.of ea), .ref b, rfl, b, ys, rfl, .inr (SqT.of eb), _, _, rfl, rfl, .inr ⟨_, rfl, ?_⟩⟩
          refine ⟨.ref a, rfl, a, xs, rfl, .inr (SqT.of ea), .ref b, rfl, b, ys, rfl, .inr (SqT.of eb), _, _, rfl, rfl, .inr ⟨_, rfl, ?_⟩⟩
          refine ⟨_, _, rfl, rfl, ?_⟩
          have e1 : (if decide ((ys.length : Int) < (xs.length : Int)) = true then (1 : Int) else 0) = (if es.length < ds.length then (1 : Int) else 0) := by
            rw [lx, ly]
            by_cases c : es.length < ds.length
            · rw [if_pos c, decide_eq_true (show (es.length : Int) < ds.length by omega), if_pos rfl]
            · rw [if_neg c, decide_eq_false (show ¬ (es.length : Int) < ds.length by omega), if_neg Bool.false_ne_true]
          have e2 : (if decide ((xs.length : Int) < (ys.length : Int)) = true then (1 : Int) else 0) = (if ds.length < es.length then (1 : Int) else 0) := by
            rw [lx, ly]
            by_cases c : ds.length < es.length
            · rw [if_pos c, decide_eq_true (show (ds.length : Int) < es.length by omega), if_pos rfl]
            · rw [if_neg c, decide_eq_false (show ¬ (ds.length : Int) < es.length by omega), if_neg Bool.false_ne_true]
          rw [e1, e2]
          rw [← q2] at q
          exact q
abbrev dOR (P : Program) (w : World) (K : PySem.W.Frag) (mg : Str → Option Value) (base : Heap) : Prop := Def P w K mg base "_law_order" 2 ["first", "second"] spOR
/-! ### _law_key -/
abbrev sLK : Stmt := topS 24
theorem scLK : FnScope ["item", "sort"] ["item"] (defScope sLK) := ⟨rfl, rfl, rfl, by decide +kernel, rfl, by decide +kernel, by decide +kernel⟩
theorem ok_lk {f : Addr} {fd : FuncData} (F : Fun K "_law_key" "_law_key" sLK f fd) : FnOk P w K mg base CX0 1 f fd ["item"] spKO := by
  refine F.ok scLK (fun vs H Q E h => ?_) (fun cdv A outer s H vs Q E hr h => ?_)
  · obtain ⟨v, i, rfl, _⟩ := h
    rfl
  · obtain ⟨v, i, rfl, tv, oi, q⟩ := h
    refine ⟨_, pss_cons (ps_set (i := 1) scLK.nd rfl (.inl rfl) (pe_bm PySem.F.plainAttrs_list PySem.F.slot_list_index PySem.F.type_list_index mt_index (pe_lst (pa_cons pe_str (pa_cons pe_str (pa_cons pe_str (pa_cons pe_str pa_nil))))) (pa_cons (pe_ix ix_tup (pv 0) pe_int (fun _ _ => rfl)) pa_nil)))
      (pss_cons (ps_if (pt_cmpR op_eq (pv 1) pe_int (nomark _)) (pss_one (ps_ret (pe_tup (pa_cons pe_int (pa_cons (pe_ix ix_tup (pv 0) pe_int (fun _ _ => rfl)) (pa_cons (pe_ix ix_tup (pv 0) pe_int (fun _ _ => rfl)) pa_nil)))))) pss_nil)
      (pss_one (ps_ret (pe_tup (pa_cons (pv 1) (pa_cons (pe_ix ix_tup (pv 0) pe_int (fun _ _ => rfl)) (pa_cons (pe_tup pa_nil) pa_nil))))))), ?_⟩
    have s3 : 3 ≤ sizeLine := by decide
    have s4 : 4 ≤ sizeLine := by decide
    refine ⟨s4, fun l nl => ⟨.inl ⟨rfl, _, SqL.of upd_same⟩, ?_⟩⟩
    have k1 : Tk H (upd H l (.lst [.str "relation", .str "fact", .str "rule", .str "denial"])) := Tk.new nl
    have s1 : Same H (upd H l (.lst [.str "relation", .str "fact", .str "rule", .str "denial"])) := same_new nl
    cases i with
    | rel nm n =>
      obtain ⟨p, rfl, x3, e, t3⟩ := inv3 tv
      have e1 := k1 _ _ e
      refine ⟨.ref p, rfl, p, _, 0, .str "relation", rfl, rfl, SqT.of e1, rfl, l, _, _, 0, .str "relation", rfl, rfl, SqL.of upd_same, rfl, rfl, rfl, by decide +kernel, fun m z hm hz => absurd hm (Nat.not_lt_zero m), ?_⟩
      refine ⟨_, rfl, rfl, _, rfl, no_if (by decide +kernel) ?_⟩
      refine ⟨_, rfl, .ref p, rfl, p, _, 1, .str nm, rfl, rfl, SqT.of e1, rfl, Nat.zero_le _, fun t nt => ⟨s3, fun r nr => ?_⟩⟩
      exact q r _ (same_add (same_add s1 nt) nr) (.tup upd_same (.cons (.int 0) (.cons (.str nm) (.cons (.tup (by rw [upd_ne (ne_of_none upd_same nr)]; exact upd_same) .nil) .nil))))
    | fact nm ds =>
      obtain ⟨p, rfl, x3, e, tq⟩ := inv3 tv
      have e1 := k1 _ _ e
      refine ⟨.ref p, rfl, p, _, 0, .str "fact", rfl, rfl, SqT.of e1, rfl, l, _, _, 1, .str "fact", rfl, rfl, SqL.of upd_same, rfl, rfl, rfl, by decide +kernel, fun m z hm hz => ?_, ?_⟩
      · match m, hm with
        | 0, _ =>
          cases hz
          decide +kernel
      refine ⟨_, rfl, rfl, _, rfl, yes_if ?_⟩
      refine ⟨.ref p, rfl, p, _, 1, .str nm, rfl, rfl, SqT.of e1, rfl, .ref p, rfl, p, _, 2, x3, rfl, rfl, SqT.of e1, rfl, s3, fun r nr => ?_⟩
      exact q r _ (same_add s1 nr) (.tup upd_same (.cons (.int 1) (.cons (.str nm) (.cons ((tq.mono k1).mono (Tk.new nr)) .nil))))
    | rule nm rl ts bd =>
      obtain ⟨p, rfl, a, b, c, e⟩ := inv5 tv
      have e1 := k1 _ _ e
      refine ⟨.ref p, rfl, p, _, 0, .str "rule", rfl, rfl, SqT.of e1, rfl, l, _, _, 2, .str "rule", rfl, rfl, SqL.of upd_same, rfl, rfl, rfl, by decide +kernel, fun m z hm hz => ?_, ?_⟩
      · match m, hm with
        | 0, _ =>
          cases hz
          decide +kernel
        | 1, _ =>
          cases hz
          decide +kernel
      refine ⟨_, rfl, rfl, _, rfl, no_if (by decide +kernel) ?_⟩
      refine ⟨_, rfl, .ref p, rfl, p, _, 1, .str nm, rfl, rfl, SqT.of e1, rfl, Nat.zero_le _, fun t nt => ⟨s3, fun r nr => ?_⟩⟩
      exact q r _ (same_add (same_add s1 nt) nr) (.tup upd_same (.cons (.int 2) (.cons (.str nm) (.cons (.tup (by rw [upd_ne (ne_of_none upd_same nr)]; exact upd_same) .nil) .nil))))
    | den nm bd =>
      obtain ⟨p, rfl, b, e, tb⟩ := inv3 tv
      have e1 := k1 _ _ e
      refine ⟨.ref p, rfl, p, _, 0, .str "denial", rfl, rfl, SqT.of e1, rfl, l, _, _, 3, .str "denial", rfl, rfl, SqL.of upd_same, rfl, rfl, rfl, by decide +kernel, fun m z hm hz => ?_, ?_⟩
      · match m, hm with
        | 0, _ =>
          cases hz
          decide +kernel
        | 1, _ =>
          cases hz
          decide +kernel
        | 2, _ =>
          cases hz
          decide +kernel
      refine ⟨_, rfl, rfl, _, rfl, no_if (by decide +kernel) ?_⟩
      refine ⟨_, rfl, .ref p, rfl, p, _, 1, .str nm, rfl, rfl, SqT.of e1, rfl, Nat.zero_le _, fun t nt => ⟨s3, fun r nr => ?_⟩⟩
      exact q r _ (same_add (same_add s1 nt) nr) (.tup upd_same (.cons (.int 3) (.cons (.str nm) (.cons (.tup (by rw [upd_ne (ne_of_none upd_same nr)]; exact upd_same) .nil) .nil))))
end
end KD

namespace KD
open PySem PySem.Spec PyProof.Rows L2 KA
/-! ### the mathematics of the orders -/
theorem eqv_str (x y : Str) : PyData.eqv (.str x) (.str y) = decide (x = y) := by
  show (x == y) = decide (x = y)
  rw [← dec_str]
  by_cases c : x = y
  · subst c
    rw [decide_eq_true rfl, decide_eq_true rfl]
  · rw [decide_eq_false c, decide_eq_false (fun z => c (V.str.inj z))]
theorem eqv_int (x y : Int) : PyData.eqv (.int x) (.int y) = decide (x = y) := by
  show (x == y) = decide (x = y)
  rfl
theorem str_eq {x y : Str} (h : x.cps.toList = y.cps.toList) : x = y := by
  have hc : x.cps = y.cps := Array.toList_inj.mp h
  cases x
  cases y
  exact congrArg Str.mk hc
theorem str_tri (x y : Str) : (x.cps.toList < y.cps.toList ∧ ¬ y.cps.toList < x.cps.toList ∧ x ≠ y) ∨ (¬ x.cps.toList < y.cps.toList ∧ y.cps.toList < x.cps.toList ∧ x ≠ y) ∨ (x = y ∧ ¬ x.cps.toList < y.cps.toList ∧ ¬ y.cps.toList < x.cps.toList) := by
  by_cases h1 : x.cps.toList < y.cps.toList
  · refine .inl ⟨h1, List.lt_asymm h1, fun z => ?_⟩
    subst z
    exact List.lt_irrefl _ h1
  · by_cases h2 : y.cps.toList < x.cps.toList
    · refine .inr (.inl ⟨h1, h2, fun z => ?_⟩)
      subst z
      exact List.lt_irrefl _ h2
    · exact .inr (.inr ⟨str_eq (List.le_antisymm (List.not_lt.mp h2) (List.not_lt.mp h1)), h1, h2⟩)
/-- two atoms: less, greater, the same; and their keys -/
theorem atom_cmp : ∀ {d e : PyData}, isAtom d → isAtom e →
    (bf d e = true ∧ bf e d = false ∧ PyData.eqv (vk d) (vk e) = false ∧ dlt (vk d) (vk e) = some true ∧ dgt (vk d) (vk e) = some false) ∨
    (bf d e = false ∧ bf e d = true ∧ PyData.eqv (vk d) (vk e) = false ∧ dlt (vk d) (vk e) = some false ∧ dgt (vk d) (vk e) = some true) ∨
    (bf d e = false ∧ bf e d = false ∧ PyData.eqv (vk d) (vk e) = true ∧ dlt (vk d) (vk e) = some false ∧ dgt (vk d) (vk e) = some false)
  | .int a, .int b, _, _ => by
    rcases Int.lt_trichotomy a b with c | c | c
    · refine .inl ⟨decide_eq_true c, decide_eq_false (by omega), ?_, ?_, ?_⟩
      · simp [vk, PyData.eqv, PyData.eqvAll]
        omega
      · have n : ¬ a = b := by omega
        simp [vk, dlt, dltAll, PyData.eqv, c, n]
      · have n : ¬ a = b := by omega
        have n2 : ¬ b < a := by omega
        simp [vk, dgt, dgtAll, PyData.eqv, n, n2]
    · subst c
      refine .inr (.inr ⟨decide_eq_false (by omega), decide_eq_false (by omega), ?_, ?_, ?_⟩)
      · simp [vk, PyData.eqv, PyData.eqvAll]
      · simp [vk, dlt, dltAll, PyData.eqv]
      · simp [vk, dgt, dgtAll, PyData.eqv]
    · refine .inr (.inl ⟨decide_eq_false (by omega), decide_eq_true c, ?_, ?_, ?_⟩)
      · simp [vk, PyData.eqv, PyData.eqvAll]
        omega
      · have n : ¬ a = b := by omega
        have n2 : ¬ a < b := by omega
        simp [vk, dlt, dltAll, PyData.eqv, n, n2]
      · have n : ¬ a = b := by omega
        simp [vk, dgt, dgtAll, PyData.eqv, n, c]
  | .int a, .str z, _, _ => .inl ⟨rfl, rfl, by simp [vk, PyData.eqv, PyData.eqvAll], by simp [vk, dlt, dltAll, PyData.eqv], by simp [vk, dgt, dgtAll, PyData.eqv]⟩
  | .str z, .int a, _, _ => .inr (.inl ⟨rfl, rfl, by simp [vk, PyData.eqv, PyData.eqvAll], by simp [vk, dlt, dltAll, PyData.eqv], by simp [vk, dgt, dgtAll, PyData.eqv]⟩)
  | .str x, .str y, _, _ => by
    rcases str_tri x y with ⟨h1, h2, h3⟩ | ⟨h1, h2, h3⟩ | ⟨h3, h1, h2⟩
    · refine .inl ⟨decide_eq_true h1, decide_eq_false h2, ?_, ?_, ?_⟩
      · simp only [vk, PyData.eqv, PyData.eqvAll]
        rw [show (x == y) = false from (eqv_str x y).trans (decide_eq_false h3)]
        rfl
      · simp only [vk, dlt, dltAll, eqv_str, eqv_int, decide_eq_false h3, decide_eq_true h1]
        rfl
      · simp only [vk, dgt, dgtAll, eqv_str, eqv_int, decide_eq_false h3, decide_eq_false h2]
        rfl
    · refine .inr (.inl ⟨decide_eq_false h1, decide_eq_true h2, ?_, ?_, ?_⟩)
      · simp only [vk, PyData.eqv, PyData.eqvAll]
        rw [show (x == y) = false from (eqv_str x y).trans (decide_eq_false h3)]
        rfl
      · simp only [vk, dlt, dltAll, eqv_str, eqv_int, decide_eq_false h3, decide_eq_false h1]
        rfl
      · simp only [vk, dgt, dgtAll, eqv_str, eqv_int, decide_eq_false h3, decide_eq_true h2]
        rfl
    · subst h3
      refine .inr (.inr ⟨decide_eq_false h1, decide_eq_false h1, ?_, ?_, ?_⟩)
      · simp only [vk, PyData.eqv, PyData.eqvAll]
        rw [show (x == x) = true from (eqv_str x x).trans (decide_eq_true rfl)]
        rfl
      · simp only [vk, dlt, dltAll, eqv_str, eqv_int, decide_true]
        rfl
      · simp only [vk, dgt, dgtAll, eqv_str, eqv_int, decide_true]
        rfl
/-- what _law_agrees asks of two keys and a number -/
def Agree (d e : PyData) (o : Int) : Prop := dlt d e = some (decide (o < 0)) ∧ PyData.eqv d e = decide (o = 0) ∧ dgt d e = some (decide (0 < o))
theorem atom_agree {d e : PyData} (hd : isAtom d) (he : isAtom e) : Agree (vk d) (vk e) (rord [d] [e]) := by
  rcases atom_cmp hd he with ⟨h1, h2, h3, h4, h5⟩ | ⟨h1, h2, h3, h4, h5⟩ | ⟨h1, h2, h3, h4, h5⟩
  · have o : rord [d] [e] = -1 := by rw [rord, if_pos h1]
    rw [o]
    exact ⟨h4, h3, h5⟩
  · have o : rord [d] [e] = 1 := by rw [rord, if_neg (by rw [h1]; exact Bool.false_ne_true), if_pos h2]
    rw [o]
    exact ⟨h4, h3, h5⟩
  · have o : rord [d] [e] = 0 := by
      rw [rord, if_neg (by rw [h1]; exact Bool.false_ne_true), if_neg (by rw [h2]; exact Bool.false_ne_true)]
      rfl
    rw [o]
    exact ⟨h4, h3, h5⟩
theorem row_agree_all : ∀ {ds es : List PyData}, Atoms ds → Atoms es → dltAll (ds.map vk) (es.map vk) = some (decide (rord ds es < 0)) ∧ PyData.eqvAll (ds.map vk) (es.map vk) = decide (rord ds es = 0) ∧ dgtAll (ds.map vk) (es.map vk) = some (decide (0 < rord ds es))
  | [], [], _, _ => by
    refine ⟨?_, ?_, ?_⟩
    · rw [List.map_nil, dltAll]; rfl
    · rfl
    · rw [List.map_nil, dgtAll]; rfl
  | [], e :: r, _, _ => by
    refine ⟨?_, ?_, ?_⟩
    · rw [List.map_nil, List.map_cons, dltAll]; rfl
    · rfl
    · rw [List.map_nil, List.map_cons, dgtAll]; rfl
  | d :: r, [], _, _ => by
    refine ⟨?_, ?_, ?_⟩
    · rw [List.map_nil, List.map_cons, dltAll]; rfl
    · rfl
    · rw [List.map_nil, List.map_cons, dgtAll]; rfl
  | d :: r, e :: t, hd, he => by
    have ih := row_agree_all (ds := r) (es := t) (fun x hx => hd x (List.mem_cons_of_mem _ hx)) (fun x hx => he x (List.mem_cons_of_mem _ hx))
    rw [List.map_cons, List.map_cons, dltAll, dgtAll, PyData.eqvAll, rord]
    rcases atom_cmp (hd d List.mem_cons_self) (he e List.mem_cons_self) with ⟨h1, h2, h3, h4, h5⟩ | ⟨h1, h2, h3, h4, h5⟩ | ⟨h1, h2, h3, h4, h5⟩
    · rw [h1, h3, h4, h5]
      exact ⟨rfl, rfl, rfl⟩
    · rw [h1, h2, h3, h4, h5]
      exact ⟨rfl, rfl, rfl⟩
    · rw [h1, h2, h3, if_neg Bool.false_ne_true, if_neg Bool.false_ne_true, if_pos rfl, if_pos rfl, Bool.true_and]
      exact ih
theorem row_agree {ds es : List PyData} (hd : Atoms ds) (he : Atoms es) : Agree (.tuple (ds.map vk)) (.tuple (es.map vk)) (rord ds es) := by
  obtain ⟨h1, h2, h3⟩ := row_agree_all hd he
  refine ⟨?_, ?_, ?_⟩
  · rw [dlt]
    exact h1
  · exact h2
  · rw [dgt]
    exact h3
theorem pair_eqv (s : Int) (nm : Str) (s2 : Int) (nm2 : Str) : PyData.eqv (.tuple [.int s, .str nm]) (.tuple [.int s2, .str nm2]) = decide (s = s2 ∧ nm = nm2) := by
  show (PyData.eqv (.int s) (.int s2) && (PyData.eqv (.str nm) (.str nm2) && true)) = _
  rw [eqv_int, eqv_str, Bool.and_true, Bool.decide_and]
theorem pair_dlt {s : Int} {nm : Str} {s2 : Int} {nm2 : Str} (h : ¬ (s = s2 ∧ nm = nm2)) : dlt (.tuple [.int s, .str nm]) (.tuple [.int s2, .str nm2]) = some (plt s nm s2 nm2) := by
  rw [dlt, dltAll, dltAll, eqv_int, eqv_str, plt]
  by_cases c : s = s2
  · have n : nm ≠ nm2 := fun z => h ⟨c, z⟩
    rw [decide_eq_true c, decide_eq_false n, if_pos rfl, if_neg Bool.false_ne_true, if_pos c, dlt]
  · rw [decide_eq_false c, if_neg Bool.false_ne_true, if_neg c, dlt]
theorem key_agree {s : Int} {nm : Str} {ds : List PyData} {s2 : Int} {nm2 : Str} {es : List PyData} (hd : Atoms ds) (he : Atoms es) : Agree (kd s nm (ds.map vk)) (kd s2 nm2 (es.map vk)) (kord s nm ds s2 nm2 es) := by
  obtain ⟨h1, h2, h3⟩ := row_agree hd he
  unfold kord
  by_cases c : s = s2
  · subst c
    by_cases n : nm = nm2
    · subst n
      rw [if_pos ⟨rfl, rfl⟩]
      refine ⟨?_, ?_, ?_⟩
      · unfold kd
        rw [dlt, dltAll, dltAll, dltAll, dltAll, eqv_int, eqv_str, decide_eq_true rfl, decide_eq_true rfl, if_pos rfl, if_pos rfl, h1, h2]
        by_cases z : rord ds es = 0
        · rw [decide_eq_true z, if_pos rfl, z]
          rfl
        · rw [decide_eq_false z, if_neg Bool.false_ne_true]
      · show (PyData.eqv (.int s) (.int s) && (PyData.eqv (.str nm) (.str nm) && (PyData.eqv (.tuple (ds.map vk)) (.tuple (es.map vk)) && true))) = _
        rw [eqv_int, eqv_str, decide_eq_true rfl, decide_eq_true rfl, h2, Bool.true_and, Bool.true_and, Bool.and_true]
      · unfold kd
        rw [dgt, dgtAll, dgtAll, dgtAll, dgtAll, eqv_int, eqv_str, decide_eq_true rfl, decide_eq_true rfl, if_pos rfl, if_pos rfl, h3, h2]
        by_cases z : rord ds es = 0
        · rw [decide_eq_true z, if_pos rfl, z]
          rfl
        · rw [decide_eq_false z, if_neg Bool.false_ne_true]
    · rw [if_neg (fun z => n z.2)]
      have dn := decide_eq_false n
      rcases str_tri nm nm2 with ⟨g1, g2, g3⟩ | ⟨g1, g2, g3⟩ | ⟨g3, g1, g2⟩
      · have pl : plt s nm s nm2 = true := by rw [plt, if_pos rfl, decide_eq_true g1]
        rw [pl, if_pos rfl]
        refine ⟨?_, ?_, ?_⟩
        · unfold kd
          rw [dlt, dltAll, dltAll, eqv_int, eqv_str, decide_eq_true rfl, dn, if_pos rfl, if_neg Bool.false_ne_true, dlt, decide_eq_true g1]
          rfl
        · show (PyData.eqv (.int s) (.int s) && (PyData.eqv (.str nm) (.str nm2) && (PyData.eqv (.tuple (ds.map vk)) (.tuple (es.map vk)) && true))) = _
          rw [eqv_str, dn, Bool.false_and, Bool.and_false]
          rfl
        · unfold kd
          rw [dgt, dgtAll, dgtAll, eqv_int, eqv_str, decide_eq_true rfl, dn, if_pos rfl, if_neg Bool.false_ne_true, dgt, decide_eq_false g2]
          rfl
      · have pl : plt s nm s nm2 = false := by rw [plt, if_pos rfl, decide_eq_false g1]
        rw [pl, if_neg Bool.false_ne_true]
        refine ⟨?_, ?_, ?_⟩
        · unfold kd
          rw [dlt, dltAll, dltAll, eqv_int, eqv_str, decide_eq_true rfl, dn, if_pos rfl, if_neg Bool.false_ne_true, dlt, decide_eq_false g1]
          rfl
        · show (PyData.eqv (.int s) (.int s) && (PyData.eqv (.str nm) (.str nm2) && (PyData.eqv (.tuple (ds.map vk)) (.tuple (es.map vk)) && true))) = _
          rw [eqv_str, dn, Bool.false_and, Bool.and_false]
          rfl
        · unfold kd
          rw [dgt, dgtAll, dgtAll, eqv_int, eqv_str, decide_eq_true rfl, dn, if_pos rfl, if_neg Bool.false_ne_true, dgt, decide_eq_true g2]
          rfl
      · exact absurd g3 n
  · rw [if_neg (fun z => c z.1)]
    have dc := decide_eq_false c
    rcases Int.lt_or_gt_of_ne c with g1 | g1
    · have pl : plt s nm s2 nm2 = true := by rw [plt, if_neg c, decide_eq_true g1]
      rw [pl, if_pos rfl]
      refine ⟨?_, ?_, ?_⟩
      · unfold kd
        rw [dlt, dltAll, eqv_int, dc, if_neg Bool.false_ne_true, dlt, decide_eq_true g1]
        rfl
      · show (PyData.eqv (.int s) (.int s2) && (PyData.eqv (.str nm) (.str nm2) && (PyData.eqv (.tuple (ds.map vk)) (.tuple (es.map vk)) && true))) = _
        rw [eqv_int, dc, Bool.false_and]
        rfl
      · unfold kd
        rw [dgt, dgtAll, eqv_int, dc, if_neg Bool.false_ne_true, dgt, decide_eq_false (by omega)]
        rfl
    · have pl : plt s nm s2 nm2 = false := by rw [plt, if_neg c, decide_eq_false (by omega)]
      rw [pl, if_neg Bool.false_ne_true]
      refine ⟨?_, ?_, ?_⟩
      · unfold kd
        rw [dlt, dltAll, eqv_int, dc, if_neg Bool.false_ne_true, dlt, decide_eq_false (by omega)]
        rfl
      · show (PyData.eqv (.int s) (.int s2) && (PyData.eqv (.str nm) (.str nm2) && (PyData.eqv (.tuple (ds.map vk)) (.tuple (es.map vk)) && true))) = _
        rw [eqv_int, dc, Bool.false_and]
        rfl
      · unfold kd
        rw [dgt, dgtAll, eqv_int, dc, if_neg Bool.false_ne_true, dgt, decide_eq_true (show s > s2 from g1)]
        rfl
end KD

namespace KD
open PySem PySem.Spec PyProof.Rows L2 KA
section
variable {P : Program} {w : World} {K : PySem.W.Frag} {mg : Str → Option Value} {base : Heap}
theorem cut3 : ¬ (HT.sIx 3 0 none = 0 ∧ HT.sIx 3 3 (some 2) = 3) := by decide
theorem small_pair (a : Int) (z : Str) : small (.tuple [.int a, .str z]) := by
  show max 0 (max 0 0) + 1 ≤ 64
  decide
/-! ### _law_key_order -/
abbrev sLO : Stmt := topS 25
theorem scLO : FnScope ["first", "second"] ["first", "second"] (defScope sLO) := ⟨rfl, rfl, rfl, by decide +kernel, rfl, by decide +kernel, by decide +kernel⟩
def spLO : Sp := fun vs H Q _ => ∃ (v u : V) (s : Int) (nm : Str) (ds : List PyData) (s2 : Int) (nm2 : Str) (es : List PyData), vs = [v, u] ∧ Tp H v (kd s nm ds) ∧ Tp H u (kd s2 nm2 es) ∧ Atoms ds ∧ Atoms es ∧ ds.length ≤ 1000 ∧ es.length ≤ 1000 ∧
  ∀ H', Same H H' → Q (.int (kord s nm ds s2 nm2 es)) H'
theorem ok_lo {f : Addr} {fd : FuncData} (F : Fun K "_law_key_order" "_law_key_order" sLO f fd) (B : Bt mg) (DO : dOR P w K mg base) : FnOk P w K mg base CX0 3 f fd ["first", "second"] spLO := by
  refine F.ok scLO (fun vs H Q E h => ?_) (fun cdv A outer s H vs Q E hr h => ?_)
  · obtain ⟨v, u, _, _, _, _, _, _, rfl, _⟩ := h
    rfl
  · obtain ⟨v, u, a, nm, ds, b, nm2, es, rfl, tv, tu, ad, ae, ld, le, q⟩ := h
    refine ⟨_, pss_cons (ps_if (pt_cmpR (op_neP hr.units) (pe_slice sl_tup (pv 0) po_none (po_some pe_int)) (pe_slice sl_tup (pv 1) po_none (po_some pe_int)) (nomark _))
        (pss_one (ps_ret (pe_op op_sub pe_int (pe_op op_mul pe_int (pe_callTy call_int1 (by rfl) B.int (by decide +kernel) (pa_cons (pe_cmpR (op_ltP hr.units) (pe_slice sl_tup (pv 0) po_none (po_some pe_int)) (pe_slice sl_tup (pv 1) po_none (po_some pe_int)) (nomark _)) pa_nil)))))) pss_nil)
      (pss_one (ps_ret (pe_def DO hr (by rfl) (pa_cons (pe_ix ix_tup (pv 0) pe_int (fun _ _ => rfl)) (pa_cons (pe_ix ix_tup (pv 1) pe_int (fun _ _ => rfl)) pa_nil))))), ?_⟩
    cases tv with
    | @tup p xs _ e r =>
      cases r with
      | cons h1 r => cases r with
        | cons h2 r => cases r with
          | cons h3 r =>
            cases r
            cases h1
            cases h2
            cases tu with
            | @tup p2 xs2 _ e2 r =>
              cases r with
              | cons g1 r => cases r with
                | cons g2 r => cases r with
                  | cons g3 r =>
                    cases r
                    cases g1
                    cases g2
                    refine ⟨.ref p, rfl, 2, rfl, p, _, rfl, SqT.of e, cut3, fun t nt => ?_⟩
                    refine ⟨.ref p2, rfl, 2, rfl, p2, _, rfl, SqT.of (same_new nt _ _ e2), cut3, fun t2 nt2 => ?_⟩
                    have s2 := same_add (o := .tup [.int b, .str nm2]) (same_new (o := .tup [.int a, .str nm]) nt) nt2
                    refine ⟨.tuple [.int a, .str nm], .tuple [.int b, .str nm2], .tup (by rw [upd_ne (ne_of_none upd_same nt2)]; exact upd_same) (.cons (.int a) (.cons (.str nm) .nil)), .tup upd_same (.cons (.int b) (.cons (.str nm2) .nil)), small_pair a nm, _, rfl, ?_⟩
                    rw [pair_eqv]
                    by_cases c : a = b ∧ nm = nm2
                    · rw [decide_eq_true c]
                      refine iteF ?_
                      have o : kord a nm ds b nm2 es = rord ds es := by rw [kord, if_pos c]
                      refine ⟨.ref p, rfl, p, _, 2, _, rfl, rfl, SqT.of (s2 _ _ e), rfl, .ref p2, rfl, p2, _, 2, _, rfl, rfl, SqT.of (s2 _ _ e2), rfl, ?_⟩
                      refine ⟨_, _, ds, es, rfl, h3.mono (Tk.of s2), g3.mono (Tk.of s2), ad, ae, ld, le, ?_⟩
                      rw [← o]
                      exact q _ s2
                    · rw [decide_eq_false c]
                      refine iteT ?_
                      refine ⟨.ref p, rfl, 2, rfl, p, _, rfl, SqT.of (s2 _ _ e), cut3, fun t3 nt3 => ?_⟩
                      have s3 := same_add (o := .tup [.int a, .str nm]) s2 nt3
                      refine ⟨.ref p2, rfl, 2, rfl, p2, _, rfl, SqT.of (s3 _ _ e2), cut3, fun t4 nt4 => ?_⟩
                      have s4 := same_add (o := .tup [.int b, .str nm2]) s3 nt4
                      refine ⟨.tuple [.int a, .str nm], .tuple [.int b, .str nm2], _, .tup (by rw [upd_ne (ne_of_none upd_same nt4)]; exact upd_same) (.cons (.int a) (.cons (.str nm) .nil)), .tup upd_same (.cons (.int b) (.cons (.str nm2) .nil)), small_pair a nm, pair_dlt c, ?_⟩
                      refine .inr ⟨_, rfl, 2, _, rfl, rfl, .inl ⟨by decide, by decide⟩, 1, _, rfl, rfl, ?_⟩
                      have o : kord a nm ds b nm2 es = 1 - 2 * (if plt a nm b nm2 = true then 1 else 0) := by rw [kord, if_neg c]
                      have q2 := q _ s4
                      rw [o] at q2
                      exact q2
end
end KD

namespace KD
open PySem PySem.Spec PyProof.Rows L2 KA
/-! ### _law_same -/
abbrev sSM : Stmt := topS 12
theorem scSM : FnScope ["actual", "expected", "k"] ["actual", "expected"] (defScope sSM) := ⟨rfl, rfl, rfl, by decide +kernel, rfl, by decide +kernel, by decide +kernel⟩
/-- of two nice data -/
def spSM (n : Nat) : Sp := fun vs H Q _ => ∃ (v u : V) (d e : PyData), vs = [v, u] ∧ Tp H v d ∧ Tp H u e ∧ nice d ∧ nice e ∧ e.depth ≤ n ∧ Q (.bl (PyData.eqv d e)) H
/-- of two lists of nice data -/
def spSL (n : Nat) : Sp := fun vs H Q _ => ∃ (a b : Addr) (xs ys : List V) (ds es : List PyData), vs = [.ref a, .ref b] ∧ H a = some (.lst xs) ∧ H b = some (.lst ys) ∧ Tps H xs ds ∧ Tps H ys es ∧ niceAll ds ∧ niceAll es ∧ PyData.depthAll es ≤ n ∧ es.length ≤ 1000 ∧ Q (.bl (PyData.eqvAll ds es)) H
theorem depth_at : ∀ {ds : List PyData} {i : Nat} {d : PyData}, ds[i]? = some d → d.depth ≤ PyData.depthAll ds
  | [], _, _, e => by simp at e
  | _ :: _, 0, _, e => by
    cases e
    rw [PyData.depthAll]
    exact Nat.le_max_left _ _
  | _ :: _, i + 1, _, e => by
    rw [PyData.depthAll]
    exact Nat.le_trans (depth_at (i := i) e) (Nat.le_max_right _ _)
theorem eqvAll_len : ∀ {ds es : List PyData}, ds.length ≠ es.length → PyData.eqvAll ds es = false
  | [], [], h => absurd rfl h
  | [], _ :: _, _ => rfl
  | _ :: _, [], _ => rfl
  | d :: ds, e :: es, h => by
    rw [PyData.eqvAll, eqvAll_len (ds := ds) (es := es) (fun z => h (by rw [List.length_cons, List.length_cons, z])), Bool.and_false]
/-! ### == of nice data is being equal -/
mutual
theorem eqv_eq : ∀ {d e : PyData}, nice d → nice e → PyData.eqv d e = true → d = e
  | .int a, .int b, _, _, h => by
    rw [eqv_int] at h
    rw [of_decide_eq_true h]
  | .str a, .str b, _, _, h => by
    rw [eqv_str] at h
    rw [of_decide_eq_true h]
  | .tuple xs, .tuple ys, h1, h2, h => by
    rw [nice] at h1 h2
    rw [eqvAll_eq2 h1.2 h2.2 h]
  | .int _, .str _, _, _, h => nomatch h
  | .int _, .tuple _, _, _, h => nomatch h
  | .str _, .int _, _, _, h => nomatch h
  | .str _, .tuple _, _, _, h => nomatch h
  | .tuple _, .int _, _, _, h => nomatch h
  | .tuple _, .str _, _, _, h => nomatch h
  | .none, _, h1, _, _ => by simp [nice] at h1
  | .bool _, _, h1, _, _ => by simp [nice] at h1
  | .list _, _, h1, _, _ => by simp [nice] at h1
  | .dict _, _, h1, _, _ => by simp [nice] at h1
  | .int _, .none, _, h2, _ => by simp [nice] at h2
  | .int _, .bool _, _, h2, _ => by simp [nice] at h2
  | .int _, .list _, _, h2, _ => by simp [nice] at h2
  | .int _, .dict _, _, h2, _ => by simp [nice] at h2
  | .str _, .none, _, h2, _ => by simp [nice] at h2
  | .str _, .bool _, _, h2, _ => by simp [nice] at h2
  | .str _, .list _, _, h2, _ => by simp [nice] at h2
  | .str _, .dict _, _, h2, _ => by simp [nice] at h2
  | .tuple _, .none, _, h2, _ => by simp [nice] at h2
  | .tuple _, .bool _, _, h2, _ => by simp [nice] at h2
  | .tuple _, .list _, _, h2, _ => by simp [nice] at h2
  | .tuple _, .dict _, _, h2, _ => by simp [nice] at h2
theorem eqvAll_eq2 : ∀ {ds es : List PyData}, niceAll ds → niceAll es → PyData.eqvAll ds es = true → ds = es
  | [], [], _, _, _ => rfl
  | [], _ :: _, _, _, h => nomatch h
  | _ :: _, [], _, _, h => nomatch h
  | d :: ds, e :: es, h1, h2, h => by
    rw [niceAll] at h1 h2
    rw [PyData.eqvAll, Bool.and_eq_true] at h
    rw [eqv_eq h1.1 h2.1 h.1, eqvAll_eq2 h1.2 h2.2 h.2]
end
theorem nice_plain : ∀ {d : PyData}, nice d → PyData.eqv d d = true
  | .int a, _ => by
    rw [eqv_int]
    exact decide_eq_true rfl
  | .str a, _ => by
    rw [eqv_str]
    exact decide_eq_true rfl
  | .tuple xs, h => by
    rw [nice] at h
    exact all_plain h.2
  | .none, h => by simp [nice] at h
  | .bool _, h => by simp [nice] at h
  | .list _, h => by simp [nice] at h
  | .dict _, h => by simp [nice] at h
where
  all_plain : ∀ {ds : List PyData}, niceAll ds → PyData.eqvAll ds ds = true
    | [], _ => rfl
    | d :: r, h => by
      rw [niceAll] at h
      rw [PyData.eqvAll, nice_plain h.1, all_plain h.2]
      rfl
theorem eqv_dec {d e : PyData} (h1 : nice d) (h2 : nice e) : PyData.eqv d e = true ↔ d = e := ⟨eqv_eq h1 h2, fun z => by
  subst z
  exact nice_plain h1⟩
section
variable {P : Program} {w : World} {K : PySem.W.Frag} {mg : Str → Option Value} {base : Heap}
theorem isi_no {x : V} {t c : String} {H : Hp} {A B : Prop} (ty : TyX K H x (.type t)) (k : kitB t c = some false) (h : B) :
    ∃ (y d : V) (s u : Value) (b : Bool), [x, V.ty c] = [y, d] ∧ ClsV d u ∧ TyX K H y s ∧ PySem.W.kitOne K s u = some b ∧ ∃ z, V.bl b = .bl z ∧ if z = true then A else B :=
  ⟨x, .ty c, _, _, false, rfl, .ty c, ty, kit_ty k, false, rfl, iteF h⟩
theorem isi_yes {x : V} {t c : String} {H : Hp} {A B : Prop} (ty : TyX K H x (.type t)) (k : kitB t c = some true) (h : A) :
    ∃ (y d : V) (s u : Value) (b : Bool), [x, V.ty c] = [y, d] ∧ ClsV d u ∧ TyX K H y s ∧ PySem.W.kitOne K s u = some b ∧ ∃ z, V.bl b = .bl z ∧ if z = true then A else B :=
  ⟨x, .ty c, _, _, true, rfl, .ty c, ty, kit_ty k, true, rfl, iteT h⟩
theorem ok_sm {f : Addr} {fd : FuncData} (F : Fun K "_law_same" "_law_same" sSM f fd) (B : Bt mg) (n : Nat) (DS : n = 0 ∨ ∃ m, n = m + 1 ∧ Def P w K mg base "_law_same" (m + 1) ["actual", "expected"] (spSM m)) :
    FnOk P w K mg base CX0 (n + 1) f fd ["actual", "expected"] (spSM n) := by
  refine F.ok scSM (fun vs H Q E h => ?_) (fun cdv A outer s H vs Q E hr h => ?_)
  · obtain ⟨v, u, _, _, rfl, _⟩ := h
    rfl
  · obtain ⟨v, u, d, e, rfl, tv, tu, nd, ne, dn, q⟩ := h
    cases tu with
    | non => rw [nice] at ne; all_goals first | exact ne.elim | (intros; contradiction)
    | bl b => rw [nice] at ne; all_goals first | exact ne.elim | (intros; contradiction)
    | int i =>
      refine ⟨_, pss_cons (ps_if (pt_cmpR op_isN (pv 1) pe_non (nomark _)) pss_never pss_nil)
        (pss_cons (ps_if (pt_val (pe_callB call_isi (by rfl) B.isi (by decide +kernel) (pa_cons (pv 1) (pa_cons (pe_bltn (v := .ty "bool") (u := .type "bool") (by rfl) B.bool (by decide +kernel) rfl) pa_nil)))) pss_never pss_nil)
        (pss_cons (ps_if (pt_val (pe_callB call_isi (by rfl) B.isi (by decide +kernel) (pa_cons (pv 1) (pa_cons (pe_bltn (v := .ty "int") (u := .type "int") (by rfl) B.int (by decide +kernel) rfl) pa_nil))))
          (pss_one (ps_ret (pe_and (pe_callB call_isi (by rfl) B.isi (by decide +kernel) (pa_cons (pv 0) (pa_cons (pe_bltn (v := .ty "int") (u := .type "int") (by rfl) B.int (by decide +kernel) rfl) pa_nil))) (pe_and (pe_not (pe_callB call_isi (by rfl) B.isi (by decide +kernel) (pa_cons (pv 0) (pa_cons (pe_bltn (v := .ty "bool") (u := .type "bool") (by rfl) B.bool (by decide +kernel) rfl) pa_nil)))) (pe_one (pe_cmpR (op_eqP hr.units) (pv 0) (pv 1) (nomark _))))))) pss_nil)
        pss_never)), ?_⟩
      refine ⟨.int i, rfl, rfl, _, rfl, no_if (fun z => nomatch z) ?_⟩
      refine ⟨.int i, rfl, isi_no (.base (.int i)) (by decide +kernel) ?_⟩
      refine ⟨.int i, rfl, isi_yes (.base (.int i)) (by decide +kernel) ?_⟩
      cases tv with
      | non => rw [nice] at nd; all_goals first | exact nd.elim | (intros; contradiction)
      | bl b => rw [nice] at nd; all_goals first | exact nd.elim | (intros; contradiction)
      | int j =>
        refine ⟨.int j, rfl, isi_yes (.base (.int j)) (by decide +kernel) ?_⟩
        refine ⟨.int j, rfl, .int j, .ty "bool", _, _, false, rfl, .ty "bool", .base (.int j), kit_ty (by decide +kernel), false, rfl, true, rfl, iteT ?_⟩
        exact ⟨.int j, rfl, .int i, rfl, _, _, .int j, .int i, Nat.zero_le _, q⟩
      | str z => exact ⟨.str z, rfl, isi_no (.base (.str z)) (by decide +kernel) q⟩
      | tup ea ra => exact ⟨_, rfl, isi_no (.base (.tup ea)) (by decide +kernel) q⟩
    | str z =>
      refine ⟨_, pss_cons (ps_if (pt_cmpR op_isN (pv 1) pe_non (nomark _)) pss_never pss_nil)
        (pss_cons (ps_if (pt_val (pe_callB call_isi (by rfl) B.isi (by decide +kernel) (pa_cons (pv 1) (pa_cons (pe_bltn (v := .ty "bool") (u := .type "bool") (by rfl) B.bool (by decide +kernel) rfl) pa_nil)))) pss_never pss_nil)
        (pss_cons (ps_if (pt_val (pe_callB call_isi (by rfl) B.isi (by decide +kernel) (pa_cons (pv 1) (pa_cons (pe_bltn (v := .ty "int") (u := .type "int") (by rfl) B.int (by decide +kernel) rfl) pa_nil)))) pss_never pss_nil)
        (pss_cons (ps_if (pt_val (pe_callB call_isi (by rfl) B.isi (by decide +kernel) (pa_cons (pv 1) (pa_cons (pe_bltn (v := .ty "str") (u := .type "str") (by rfl) B.str (by decide +kernel) rfl) pa_nil))))
          (pss_one (ps_ret (pe_and (pe_callB call_isi (by rfl) B.isi (by decide +kernel) (pa_cons (pv 0) (pa_cons (pe_bltn (v := .ty "str") (u := .type "str") (by rfl) B.str (by decide +kernel) rfl) pa_nil))) (pe_one (pe_cmpR (op_eqP hr.units) (pv 0) (pv 1) (nomark _)))))) pss_nil)
        pss_never))), ?_⟩
      refine ⟨.str z, rfl, rfl, _, rfl, no_if (fun z => nomatch z) ?_⟩
      refine ⟨.str z, rfl, isi_no (.base (.str z)) (by decide +kernel) ?_⟩
      refine ⟨.str z, rfl, isi_no (.base (.str z)) (by decide +kernel) ?_⟩
      refine ⟨.str z, rfl, isi_yes (.base (.str z)) (by decide +kernel) ?_⟩
      cases tv with
      | non => rw [nice] at nd; all_goals first | exact nd.elim | (intros; contradiction)
      | bl b => rw [nice] at nd; all_goals first | exact nd.elim | (intros; contradiction)
      | int j => exact ⟨.int j, rfl, isi_no (.base (.int j)) (by decide +kernel) q⟩
      | str y =>
        refine ⟨.str y, rfl, isi_yes (.base (.str y)) (by decide +kernel) ?_⟩
        exact ⟨.str y, rfl, .str z, rfl, _, _, .str y, .str z, Nat.zero_le _, q⟩
      | tup ea ra => exact ⟨_, rfl, isi_no (.base (.tup ea)) (by decide +kernel) q⟩
    | @tup b ys es e2 r2 =>
      rcases DS with rfl | ⟨m, rfl, DS⟩
      · exact absurd dn (by
          show ¬ PyData.depthAll es + 1 ≤ 0
          omega)
      have ly := r2.length
      rw [nice] at ne
      have dm : PyData.depthAll es ≤ m := by
        have t : PyData.depthAll es + 1 ≤ m + 1 := dn
        omega
      refine ⟨_, pss_cons (ps_if (pt_cmpR op_isN (pv 1) pe_non (nomark _)) pss_never pss_nil)
        (pss_cons (ps_if (pt_val (pe_callB call_isi (by rfl) B.isi (by decide +kernel) (pa_cons (pv 1) (pa_cons (pe_bltn (v := .ty "bool") (u := .type "bool") (by rfl) B.bool (by decide +kernel) rfl) pa_nil)))) pss_never pss_nil)
        (pss_cons (ps_if (pt_val (pe_callB call_isi (by rfl) B.isi (by decide +kernel) (pa_cons (pv 1) (pa_cons (pe_bltn (v := .ty "int") (u := .type "int") (by rfl) B.int (by decide +kernel) rfl) pa_nil)))) pss_never pss_nil)
        (pss_cons (ps_if (pt_val (pe_callB call_isi (by rfl) B.isi (by decide +kernel) (pa_cons (pv 1) (pa_cons (pe_bltn (v := .ty "str") (u := .type "str") (by rfl) B.str (by decide +kernel) rfl) pa_nil)))) pss_never pss_nil)
        (pss_cons (ps_if (PW.pt (pw_and (pt_val (pe_callB call_isi (by rfl) B.isi (by decide +kernel) (pa_cons (pv 1) (pa_cons (pe_bltn (v := .ty "tuple") (u := .type "tuple") (by rfl) B.tup (by decide +kernel) rfl) pa_nil)))) (pw_and1 (pt_not (pt_val (pe_callB call_isi (by rfl) B.isi (by decide +kernel) (pa_cons (pv 0) (pa_cons (pe_bltn (v := .ty "tuple") (u := .type "tuple") (by rfl) B.tup (by decide +kernel) rfl) pa_nil)))))))) (pss_one (ps_ret pe_bl)) pss_nil)
        (pss_cons (ps_if (PW.pt (pw_and (pt_val (pe_callB call_isi (by rfl) B.isi (by decide +kernel) (pa_cons (pv 1) (pa_cons (pe_bltn (v := .ty "list") (u := .type "list") (by rfl) B.lst (by decide +kernel) rfl) pa_nil)))) (pw_and1 (pt_not (pt_val (pe_callB call_isi (by rfl) B.isi (by decide +kernel) (pa_cons (pv 0) (pa_cons (pe_bltn (v := .ty "list") (u := .type "list") (by rfl) B.lst (by decide +kernel) rfl) pa_nil)))))))) pss_never pss_nil)
        (pss_cons (ps_if (pt_cmpR op_ne (pe_callB call_len_seq (by rfl) B.len PySem.boot_len (pa_cons (pv 0) pa_nil)) (pe_callB call_len_seq (by rfl) B.len PySem.boot_len (pa_cons (pv 1) pa_nil)) (nomark _)) (pss_one (ps_ret pe_bl)) pss_nil)
        (pss_cons (ps_for PassesOwn.never rfl (pi_range1 (by rfl) B.rng (pa_cons (pe_callB call_len_seq (by rfl) B.len PySem.boot_len (pa_cons (pv 1) pa_nil)) pa_nil)) (pg_name (i := 2) scSM.nd rfl (.inl rfl))
            (pss_one (ps_if (pt_not (pt_val (pe_def DS hr (by rfl) (pa_cons (pe_ix ix_tup (pv 0) (pv 2) (fun _ _ => rfl)) (pa_cons (pe_ix ix_tup (pv 1) (pv 2) (fun _ _ => rfl)) pa_nil))))) (pss_one (ps_ret pe_bl)) pss_nil)))
        (pss_one (ps_ret pe_bl))))))))), ?_⟩
      refine ⟨.ref b, rfl, rfl, _, rfl, no_if (fun z => nomatch z) ?_⟩
      refine ⟨.ref b, rfl, isi_no (.base (.tup e2)) (by decide +kernel) ?_⟩
      refine ⟨.ref b, rfl, isi_no (.base (.tup e2)) (by decide +kernel) ?_⟩
      refine ⟨.ref b, rfl, isi_no (.base (.tup e2)) (by decide +kernel) ?_⟩
      refine ⟨.ref b, rfl, isi_yes (.base (.tup e2)) (by decide +kernel) ?_⟩
      cases tv with
      | non => rw [nice] at nd; all_goals first | exact nd.elim | (intros; contradiction)
      | bl b => rw [nice] at nd; all_goals first | exact nd.elim | (intros; contradiction)
      | int j => exact ⟨.int j, rfl, .int j, .ty "tuple", _, _, false, rfl, .ty "tuple", .base (.int j), kit_ty (by decide +kernel), false, rfl, iteT q⟩
      | str y => exact ⟨.str y, rfl, .str y, .ty "tuple", _, _, false, rfl, .ty "tuple", .base (.str y), kit_ty (by decide +kernel), false, rfl, iteT q⟩
      | @tup a xs ds e r =>
        have lx := r.length
        rw [nice] at nd
        refine ⟨.ref a, rfl, .ref a, .ty "tuple", _, _, true, rfl, .ty "tuple", .base (.tup e), kit_ty (by decide +kernel), true, rfl, iteF ?_⟩
        refine ⟨.ref b, rfl, .ref b, .ty "list", _, _, false, rfl, .ty "list", .base (.tup e2), kit_ty (by decide +kernel), false, rfl, iteF (iteF ?_)⟩
        refine ⟨.ref a, rfl, a, xs, rfl, .inr (SqT.of e), .ref b, rfl, b, ys, rfl, .inr (SqT.of e2), rfl, _, rfl, ?_⟩
        have q2 : Q (.bl (PyData.eqvAll ds es)) H := q
        by_cases cl : ds.length = es.length
        · rw [lx, ly, cl, decide_eq_true rfl]
          refine iteF ?_
          refine ⟨.ref b, rfl, b, ys, rfl, .inr (SqT.of e2), _, rfl, by omega, by omega, ?_⟩
          rw [ly, Int.toNat_natCast]
          refine for_range (lo := 0) (n := es.length) (fun i σ H' => H' = H ∧ PyData.eqvAll ds es = PyData.eqvAll (ds.drop i) (es.drop i) ∧ ∃ x2, σ = [some (.ref a), some (.ref b), x2]) ⟨rfl, rfl, none, rfl⟩ (fun i σ H' hi hP => ?_) (fun σ H' hP => ?_)
          · obtain ⟨rfl, eq1, x2, rfl⟩ := hP
            have g2 := List.getElem?_eq_getElem hi
            have g1 := List.getElem?_eq_getElem (l := ds) (i := i) (by omega)
            obtain ⟨x, ex, tx⟩ := r.at_ g1
            obtain ⟨y, ey, ty⟩ := r2.at_ g2
            have e0 : (0 : Int) + (i : Int) = ((i : Nat) : Int) := Int.zero_add _
            rw [drop_get g1, drop_get g2, PyData.eqvAll] at eq1
            refine ⟨.ref a, rfl, .int (0 + i), rfl, a, xs, 0 + i, x, rfl, rfl, SqT.of e, at_of e0 ex, .ref b, rfl, .int (0 + i), rfl, b, ys, 0 + i, y, rfl, rfl, SqT.of e2, at_of e0 ey, ?_⟩
            refine ⟨x, y, _, _, rfl, tx, ty, niceAll_mem nd.2 (List.mem_of_getElem? g1), niceAll_mem ne.2 (List.mem_of_getElem? g2), Nat.le_trans (depth_at g2) dm, _, rfl, ?_⟩
            cases c : PyData.eqv ds[i] es[i] with
            | true =>
              rw [c, Bool.true_and] at eq1
              exact iteF ⟨rfl, eq1, _, rfl⟩
            | false =>
              rw [c, Bool.false_and] at eq1
              rw [eq1] at q2
              exact iteT q2
          · obtain ⟨rfl, eq1, x2, rfl⟩ := hP
            rw [List.drop_of_length_le (by omega), List.drop_of_length_le (by omega)] at eq1
            rw [eq1] at q2
            exact q2
        · rw [lx, ly, decide_eq_false (fun z => cl (by have t := V.int.inj z; omega))]
          refine iteT ?_
          rw [eqvAll_len cl] at q2
          exact q2
theorem ok_sl {f : Addr} {fd : FuncData} (F : Fun K "_law_same" "_law_same" sSM f fd) (B : Bt mg) (m : Nat) (DS : Def P w K mg base "_law_same" (m + 1) ["actual", "expected"] (spSM m)) :
    FnOk P w K mg base CX0 (m + 2) f fd ["actual", "expected"] (spSL m) := by
  refine F.ok scSM (fun vs H Q E h => ?_) (fun cdv A outer s H vs Q E hr h => ?_)
  · obtain ⟨_, _, _, _, _, _, rfl, _⟩ := h
    rfl
  · obtain ⟨a, b, xs, ys, ds, es, rfl, e, e2, r, r2, nd, ne, dm, le, q2⟩ := h
    have ly := r2.length
    have lx := r.length
    refine ⟨_, pss_cons (ps_if (pt_cmpR op_isN (pv 1) pe_non (nomark _)) pss_never pss_nil)
        (pss_cons (ps_if (pt_val (pe_callB call_isi (by rfl) B.isi (by decide +kernel) (pa_cons (pv 1) (pa_cons (pe_bltn (v := .ty "bool") (u := .type "bool") (by rfl) B.bool (by decide +kernel) rfl) pa_nil)))) pss_never pss_nil)
        (pss_cons (ps_if (pt_val (pe_callB call_isi (by rfl) B.isi (by decide +kernel) (pa_cons (pv 1) (pa_cons (pe_bltn (v := .ty "int") (u := .type "int") (by rfl) B.int (by decide +kernel) rfl) pa_nil)))) pss_never pss_nil)
        (pss_cons (ps_if (pt_val (pe_callB call_isi (by rfl) B.isi (by decide +kernel) (pa_cons (pv 1) (pa_cons (pe_bltn (v := .ty "str") (u := .type "str") (by rfl) B.str (by decide +kernel) rfl) pa_nil)))) pss_never pss_nil)
        (pss_cons (ps_if (PW.pt (pw_and (pt_val (pe_callB call_isi (by rfl) B.isi (by decide +kernel) (pa_cons (pv 1) (pa_cons (pe_bltn (v := .ty "tuple") (u := .type "tuple") (by rfl) B.tup (by decide +kernel) rfl) pa_nil)))) (pw_and1 (pt_not (pt_val (pe_callB call_isi (by rfl) B.isi (by decide +kernel) (pa_cons (pv 0) (pa_cons (pe_bltn (v := .ty "tuple") (u := .type "tuple") (by rfl) B.tup (by decide +kernel) rfl) pa_nil)))))))) pss_never pss_nil)
        (pss_cons (ps_if (PW.pt (pw_and (pt_val (pe_callB call_isi (by rfl) B.isi (by decide +kernel) (pa_cons (pv 1) (pa_cons (pe_bltn (v := .ty "list") (u := .type "list") (by rfl) B.lst (by decide +kernel) rfl) pa_nil)))) (pw_and1 (pt_not (pt_val (pe_callB call_isi (by rfl) B.isi (by decide +kernel) (pa_cons (pv 0) (pa_cons (pe_bltn (v := .ty "list") (u := .type "list") (by rfl) B.lst (by decide +kernel) rfl) pa_nil)))))))) pss_never pss_nil)
        (pss_cons (ps_if (pt_cmpR op_ne (pe_callB call_len_seq (by rfl) B.len PySem.boot_len (pa_cons (pv 0) pa_nil)) (pe_callB call_len_seq (by rfl) B.len PySem.boot_len (pa_cons (pv 1) pa_nil)) (nomark _)) (pss_one (ps_ret pe_bl)) pss_nil)
        (pss_cons (ps_for PassesOwn.never rfl (pi_range1 (by rfl) B.rng (pa_cons (pe_callB call_len_seq (by rfl) B.len PySem.boot_len (pa_cons (pv 1) pa_nil)) pa_nil)) (pg_name (i := 2) scSM.nd rfl (.inl rfl))
            (pss_one (ps_if (pt_not (pt_val (pe_def DS hr (by rfl) (pa_cons (pe_ix ix_list (pv 0) (pv 2) (fun _ _ => rfl)) (pa_cons (pe_ix ix_list (pv 1) (pv 2) (fun _ _ => rfl)) pa_nil))))) (pss_one (ps_ret pe_bl)) pss_nil)))
        (pss_one (ps_ret pe_bl))))))))), ?_⟩
    refine ⟨.ref b, rfl, rfl, _, rfl, no_if (fun z => nomatch z) ?_⟩
    refine ⟨.ref b, rfl, isi_no (.base (.lst e2)) (by decide +kernel) ?_⟩
    refine ⟨.ref b, rfl, isi_no (.base (.lst e2)) (by decide +kernel) ?_⟩
    refine ⟨.ref b, rfl, isi_no (.base (.lst e2)) (by decide +kernel) ?_⟩
    refine ⟨.ref b, rfl, .ref b, .ty "tuple", _, _, false, rfl, .ty "tuple", .base (.lst e2), kit_ty (by decide +kernel), false, rfl, iteF (iteF ?_)⟩
    refine ⟨.ref b, rfl, .ref b, .ty "list", _, _, true, rfl, .ty "list", .base (.lst e2), kit_ty (by decide +kernel), true, rfl, iteT ?_⟩
    refine ⟨.ref a, rfl, .ref a, .ty "list", _, _, true, rfl, .ty "list", .base (.lst e), kit_ty (by decide +kernel), true, rfl, iteF ?_⟩
    refine ⟨.ref a, rfl, a, xs, rfl, .inl (SqL.of e), .ref b, rfl, b, ys, rfl, .inl (SqL.of e2), rfl, _, rfl, ?_⟩
    by_cases cl : ds.length = es.length
    · rw [lx, ly, cl, decide_eq_true rfl]
      refine iteF ?_
      refine ⟨.ref b, rfl, b, ys, rfl, .inl (SqL.of e2), _, rfl, by omega, by omega, ?_⟩
      rw [ly, Int.toNat_natCast]
      refine for_range (lo := 0) (n := es.length) (fun i σ H' => H' = H ∧ PyData.eqvAll ds es = PyData.eqvAll (ds.drop i) (es.drop i) ∧ ∃ x2, σ = [some (.ref a), some (.ref b), x2]) ⟨rfl, rfl, none, rfl⟩ (fun i σ H' hi hP => ?_) (fun σ H' hP => ?_)
      · obtain ⟨rfl, eq1, x2, rfl⟩ := hP
        have g2 := List.getElem?_eq_getElem hi
        have g1 := List.getElem?_eq_getElem (l := ds) (i := i) (by omega)
        obtain ⟨x, ex, tx⟩ := r.at_ g1
        obtain ⟨y, ey, ty⟩ := r2.at_ g2
        have e0 : (0 : Int) + (i : Int) = ((i : Nat) : Int) := Int.zero_add _
        rw [drop_get g1, drop_get g2, PyData.eqvAll] at eq1
        refine ⟨.ref a, rfl, .int (0 + i), rfl, a, xs, 0 + i, x, rfl, rfl, SqL.of e, at_of e0 ex, .ref b, rfl, .int (0 + i), rfl, b, ys, 0 + i, y, rfl, rfl, SqL.of e2, at_of e0 ey, ?_⟩
        refine ⟨x, y, _, _, rfl, tx, ty, niceAll_mem nd (List.mem_of_getElem? g1), niceAll_mem ne (List.mem_of_getElem? g2), Nat.le_trans (depth_at g2) dm, _, rfl, ?_⟩
        cases c : PyData.eqv ds[i] es[i] with
        | true =>
          rw [c, Bool.true_and] at eq1
          exact iteF ⟨rfl, eq1, _, rfl⟩
        | false =>
          rw [c, Bool.false_and] at eq1
          rw [eq1] at q2
          exact iteT q2
      · obtain ⟨rfl, eq1, x2, rfl⟩ := hP
        rw [List.drop_of_length_le (by omega), List.drop_of_length_le (by omega)] at eq1
        rw [eq1] at q2
        exact q2
    · rw [lx, ly, decide_eq_false (fun z => cl (by have t := V.int.inj z; omega))]
      refine iteT ?_
      rw [eqvAll_len cl] at q2
      exact q2
end
end KD

/-! The order of keys is total and strict; sorted lists of items. -/
namespace KD
open PySem PySem.Spec PyProof.Rows L2 KA
theorem atom_tri : ∀ {d e : PyData}, isAtom d → isAtom e → (bf d e = true ∧ bf e d = false ∧ d ≠ e) ∨ (bf d e = false ∧ bf e d = true ∧ d ≠ e) ∨ (bf d e = false ∧ bf e d = false ∧ d = e)
  | .int a, .int b, _, _ => by
    rcases Int.lt_trichotomy a b with c | c | c
    · exact .inl ⟨decide_eq_true c, decide_eq_false (by omega), fun z => by injection z with z; omega⟩
    · exact .inr (.inr ⟨decide_eq_false (by omega), decide_eq_false (by omega), by rw [c]⟩)
    · exact .inr (.inl ⟨decide_eq_false (by omega), decide_eq_true c, fun z => by injection z with z; omega⟩)
  | .int a, .str z, _, _ => .inl ⟨rfl, rfl, fun z => nomatch z⟩
  | .str z, .int a, _, _ => .inr (.inl ⟨rfl, rfl, fun z => nomatch z⟩)
  | .str x, .str y, _, _ => by
    rcases str_tri x y with ⟨h1, h2, h3⟩ | ⟨h1, h2, h3⟩ | ⟨h3, h1, h2⟩
    · exact .inl ⟨decide_eq_true h1, decide_eq_false h2, fun z => by injection z with z; exact h3 z⟩
    · exact .inr (.inl ⟨decide_eq_false h1, decide_eq_true h2, fun z => by injection z with z; exact h3 z⟩)
    · exact .inr (.inr ⟨decide_eq_false h1, decide_eq_false h2, by rw [h3]⟩)
theorem bf_trans : ∀ {d e f : PyData}, bf d e = true → bf e f = true → bf d f = true
  | .int a, .int b, .int c, h1, h2 => by
    have h1 := of_decide_eq_true h1
    have h2 := of_decide_eq_true h2
    exact decide_eq_true (Int.lt_trans h1 h2)
  | .int a, .int b, .str c, h1, h2 => rfl
  | .int a, .str b, .str c, h1, h2 => rfl
  | .str a, .str b, .str c, h1, h2 => by
    have h1 := of_decide_eq_true h1
    have h2 := of_decide_eq_true h2
    exact decide_eq_true (List.lt_trans h1 h2)
theorem rord_step {d e : PyData} {ds es : List PyData} : rord (d :: ds) (e :: es) = if bf d e = true then -1 else if bf e d = true then 1 else rord ds es := by
  rw [rord]
theorem rord_neg : ∀ {ds es : List PyData}, Atoms ds → Atoms es → rord es ds = - rord ds es
  | [], [], _, _ => rfl
  | [], _ :: _, _, _ => rfl
  | _ :: _, [], _, _ => rfl
  | d :: ds, e :: es, hd, he => by
    have ih := rord_neg (ds := ds) (es := es) (fun x hx => hd x (List.mem_cons_of_mem _ hx)) (fun x hx => he x (List.mem_cons_of_mem _ hx))
    rw [rord_step, rord_step]
    rcases atom_tri (hd d List.mem_cons_self) (he e List.mem_cons_self) with ⟨h1, h2, _⟩ | ⟨h1, h2, _⟩ | ⟨h1, h2, _⟩
    · rw [h1, h2]; rfl
    · rw [h1, h2]; rfl
    · rw [h1, h2]
      simpa using ih
theorem rord_zero : ∀ {ds es : List PyData}, Atoms ds → Atoms es → (rord ds es = 0 ↔ ds = es)
  | [], [], _, _ => ⟨fun _ => rfl, fun _ => rfl⟩
  | [], _ :: _, _, _ => ⟨fun h => by rw [rord] at h; omega, fun h => nomatch h⟩
  | _ :: _, [], _, _ => ⟨fun h => by rw [rord] at h; omega, fun h => nomatch h⟩
  | d :: ds, e :: es, hd, he => by
    have ih := rord_zero (ds := ds) (es := es) (fun x hx => hd x (List.mem_cons_of_mem _ hx)) (fun x hx => he x (List.mem_cons_of_mem _ hx))
    rw [rord_step]
    rcases atom_tri (hd d List.mem_cons_self) (he e List.mem_cons_self) with ⟨h1, h2, h3⟩ | ⟨h1, h2, h3⟩ | ⟨h1, h2, h3⟩
    · rw [h1]
      exact ⟨fun h => by simp at h, fun h => absurd (List.cons.inj h).1 h3⟩
    · rw [h1, h2]
      exact ⟨fun h => by simp at h, fun h => absurd (List.cons.inj h).1 h3⟩
    · rw [h1, h2, h3]
      simp only [Bool.false_eq_true, if_false]
      exact ⟨fun h => by rw [ih.mp h], fun h => ih.mpr (List.cons.inj h).2⟩
theorem rord_trans : ∀ {as bs cs : List PyData}, Atoms as → Atoms bs → Atoms cs → rord as bs < 0 → rord bs cs < 0 → rord as cs < 0
  | [], [], _, _, _, _, h, _ => by rw [rord] at h; omega
  | [], _ :: _, [], _, _, _, _, h => by rw [rord] at h; omega
  | [], _ :: _, _ :: _, _, _, _, _, _ => by rw [rord]; omega
  | _ :: _, [], _, _, _, _, h, _ => by rw [rord] at h; omega
  | _ :: _, _ :: _, [], _, _, _, _, h => by rw [rord] at h; omega
  | a :: as, b :: bs, c :: cs, ha, hb, hc, h1, h2 => by
    have ih := rord_trans (as := as) (bs := bs) (cs := cs) (fun x hx => ha x (List.mem_cons_of_mem _ hx)) (fun x hx => hb x (List.mem_cons_of_mem _ hx)) (fun x hx => hc x (List.mem_cons_of_mem _ hx))
    rw [rord_step] at h1 h2 ⊢
    rcases atom_tri (ha a List.mem_cons_self) (hb b List.mem_cons_self) with ⟨u1, u2, u3⟩ | ⟨u1, u2, u3⟩ | ⟨u1, u2, u3⟩
    · rcases atom_tri (hb b List.mem_cons_self) (hc c List.mem_cons_self) with ⟨v1, v2, v3⟩ | ⟨v1, v2, v3⟩ | ⟨v1, v2, v3⟩
      · rw [bf_trans u1 v1]; simp
      · rw [v1, v2] at h2; simp at h2
      · rw [← v3, u1]; simp
    · rw [u1, u2] at h1; simp at h1
    · rw [u3]
      rcases atom_tri (hb b List.mem_cons_self) (hc c List.mem_cons_self) with ⟨v1, v2, v3⟩ | ⟨v1, v2, v3⟩ | ⟨v1, v2, v3⟩
      · rw [v1]; simp
      · rw [v1, v2] at h2; simp at h2
      · rw [v1, v2] at h2 ⊢
        rw [u1, u2] at h1
        simp only [Bool.false_eq_true, if_false] at h1 h2 ⊢
        exact ih h1 h2
theorem rord_vals : ∀ (ds es : List PyData), rord ds es = -1 ∨ rord ds es = 0 ∨ rord ds es = 1
  | [], [] => .inr (.inl rfl)
  | [], _ :: _ => .inl rfl
  | _ :: _, [] => .inr (.inr rfl)
  | d :: ds, e :: es => by
    rw [rord_step]
    by_cases c : bf d e = true
    · exact .inl (if_pos c)
    · rw [if_neg c]
      by_cases c2 : bf e d = true
      · exact .inr (.inr (if_pos c2))
      · rw [if_neg c2]
        exact rord_vals ds es
/-! ### keys -/
abbrev Ky := Int × Str × List PyData
def kc (a b : Ky) : Int := kord a.1 a.2.1 a.2.2 b.1 b.2.1 b.2.2
def okK (a : Ky) : Prop := Atoms a.2.2
theorem kc_cases {a b : Ky} (ha : okK a) (hb : okK b) : (kc a b < 0 ∧ kc b a > 0 ∧ a ≠ b) ∨ (kc a b > 0 ∧ kc b a < 0 ∧ a ≠ b) ∨ (kc a b = 0 ∧ kc b a = 0 ∧ a = b) := by
  obtain ⟨s, n, ds⟩ := a
  obtain ⟨t, m, es⟩ := b
  unfold kc kord
  simp only []
  by_cases c : s = t ∧ n = m
  · obtain ⟨rfl, rfl⟩ := c
    rw [if_pos ⟨rfl, rfl⟩, if_pos ⟨rfl, rfl⟩]
    have neg := rord_neg (ds := ds) (es := es) ha hb
    have zer := rord_zero (ds := ds) (es := es) ha hb
    rcases rord_vals ds es with h | h | h
    · exact .inl ⟨by omega, by omega, fun z => by
        injection z with z1 z2
        injection z2 with z2 z3
        rw [zer.mpr z3] at h
        omega⟩
    · exact .inr (.inr ⟨h, by omega, by rw [zer.mp h]⟩)
    · exact .inr (.inl ⟨by omega, by omega, fun z => by
        injection z with z1 z2
        injection z2 with z2 z3
        rw [zer.mpr z3] at h
        omega⟩)
  · have c' : ¬ (t = s ∧ m = n) := fun z => c ⟨z.1.symm, z.2.symm⟩
    rw [if_neg c, if_neg c']
    have ne : ((s, n, ds) : Ky) ≠ (t, m, es) := fun z => c (by
      injection z with z1 z2
      injection z2 with z2 z3
      exact ⟨z1, z2⟩)
    unfold plt
    by_cases st : s = t
    · subst st
      rw [if_pos rfl, if_pos rfl]
      rcases str_tri n m with ⟨h1, h2, _⟩ | ⟨h1, h2, _⟩ | ⟨h3, _, _⟩
      · rw [decide_eq_true h1, decide_eq_false h2]
        exact .inl ⟨by decide, by decide, ne⟩
      · rw [decide_eq_false h1, decide_eq_true h2]
        exact .inr (.inl ⟨by decide, by decide, ne⟩)
      · exact absurd ⟨rfl, h3⟩ c
    · have ts : ¬ t = s := fun z => st z.symm
      rw [if_neg st, if_neg ts]
      rcases Int.lt_or_gt_of_ne st with h | h
      · rw [decide_eq_true h, decide_eq_false (by omega)]
        exact .inl ⟨by decide, by decide, ne⟩
      · rw [decide_eq_false (by omega), decide_eq_true (show t < s from h)]
        exact .inr (.inl ⟨by decide, by decide, ne⟩)
theorem kc_lt_iff {a b : Ky} : kc a b < 0 ↔ (a.1 < b.1 ∨ (a.1 = b.1 ∧ (a.2.1.cps.toList < b.2.1.cps.toList ∨ (a.2.1 = b.2.1 ∧ rord a.2.2 b.2.2 < 0)))) := by
  obtain ⟨s, n, ds⟩ := a
  obtain ⟨t, m, es⟩ := b
  unfold kc kord
  simp only []
  by_cases c : s = t ∧ n = m
  · obtain ⟨rfl, rfl⟩ := c
    rw [if_pos ⟨rfl, rfl⟩]
    exact ⟨fun h => .inr ⟨rfl, .inr ⟨rfl, h⟩⟩, fun h => by
      rcases h with h | ⟨_, h | ⟨_, h⟩⟩
      · omega
      · exact absurd h (List.lt_irrefl _)
      · exact h⟩
  · rw [if_neg c]
    unfold plt
    by_cases st : s = t
    · subst st
      rw [if_pos rfl]
      by_cases h : n.cps.toList < m.cps.toList
      · rw [decide_eq_true h, if_pos rfl]
        exact ⟨fun _ => .inr ⟨rfl, .inl h⟩, fun _ => by decide⟩
      · rw [decide_eq_false h, if_neg Bool.false_ne_true]
        exact ⟨fun z => absurd z (by decide), fun z => by
          rcases z with z | ⟨_, z | ⟨z, _⟩⟩
          · omega
          · exact absurd z h
          · exact absurd ⟨rfl, z⟩ c⟩
    · rw [if_neg st]
      by_cases h : s < t
      · rw [decide_eq_true h, if_pos rfl]
        exact ⟨fun _ => .inl h, fun _ => by decide⟩
      · rw [decide_eq_false h, if_neg Bool.false_ne_true]
        exact ⟨fun z => absurd z (by decide), fun z => by
          rcases z with z | ⟨z, _⟩
          · exact absurd z h
          · exact absurd z st⟩
theorem kc_trans {a b c : Ky} (ha : okK a) (hb : okK b) (hc : okK c) (h1 : kc a b < 0) (h2 : kc b c < 0) : kc a c < 0 := by
  rw [kc_lt_iff] at h1 h2 ⊢
  rcases h1 with h1 | ⟨e1, h1⟩
  · rcases h2 with h2 | ⟨e2, _⟩
    · exact .inl (Int.lt_trans h1 h2)
    · exact .inl (by rw [← e2]; exact h1)
  · rcases h2 with h2 | ⟨e2, h2⟩
    · exact .inl (by rw [e1]; exact h2)
    · refine .inr ⟨e1.trans e2, ?_⟩
      rcases h1 with h1 | ⟨m1, h1⟩
      · rcases h2 with h2 | ⟨m2, _⟩
        · exact .inl (List.lt_trans h1 h2)
        · exact .inl (by rw [← m2]; exact h1)
      · rcases h2 with h2 | ⟨m2, h2⟩
        · exact .inl (by rw [m1]; exact h2)
        · exact .inr ⟨m1.trans m2, rord_trans ha hb hc h1 h2⟩
/-! ### sorted lists of items -/
abbrev ltI (a b : It1) : Prop := kc (keyI a) (keyI b) < 0
def SortedI (l : List It1) : Prop := l.Pairwise ltI
def OkL (l : List It1) : Prop := ∀ i ∈ l, okI i
theorem okK_of {i : It1} (h : okI i) : okK (keyI i) := (okI_key h).1
theorem ltI_irrefl {i : It1} (h : okI i) : ¬ ltI i i := fun z => by
  rcases kc_cases (okK_of h) (okK_of h) with ⟨_, _, c⟩ | ⟨_, _, c⟩ | ⟨c, _, _⟩
  · exact c rfl
  · exact c rfl
  · unfold ltI at z
    omega
/-- two sorted lists with the same members are one -/
theorem sorted_ext : ∀ {l m : List It1}, SortedI l → SortedI m → OkL l → OkL m → (∀ i, i ∈ l ↔ i ∈ m) → l = m
  | [], [], _, _, _, _, _ => rfl
  | [], x :: m, _, _, _, _, h => absurd ((h x).mpr List.mem_cons_self) (fun z => by cases z)
  | x :: l, [], _, _, _, _, h => absurd ((h x).mp List.mem_cons_self) (fun z => by cases z)
  | x :: l, y :: m, sl, sm, ol, om, h => by
    obtain ⟨x1, x2⟩ := List.pairwise_cons.mp sl
    obtain ⟨y1, y2⟩ := List.pairwise_cons.mp sm
    have ox := ol x List.mem_cons_self
    have oy := om y List.mem_cons_self
    have exy : x = y := by
      rcases List.mem_cons.mp ((h x).mp List.mem_cons_self) with e | e
      · exact e
      · rcases List.mem_cons.mp ((h y).mpr List.mem_cons_self) with e2 | e2
        · exact e2.symm
        · have a := y1 x e
          have b := x1 y e2
          exact absurd (kc_trans (okK_of ox) (okK_of oy) (okK_of ox) b a) (ltI_irrefl ox)
    subst exy
    rw [sorted_ext (l := l) (m := m) x2 y2 (fun i hi => ol i (List.mem_cons_of_mem _ hi)) (fun i hi => om i (List.mem_cons_of_mem _ hi)) (fun i => ?_)]
    constructor
    · intro hi
      rcases List.mem_cons.mp ((h i).mp (List.mem_cons_of_mem _ hi)) with e | e
      · subst e
        exact absurd (x1 i hi) (ltI_irrefl ox)
      · exact e
    · intro hi
      rcases List.mem_cons.mp ((h i).mpr (List.mem_cons_of_mem _ hi)) with e | e
      · subst e
        exact absurd (y1 i hi) (ltI_irrefl ox)
      · exact e
theorem sorted_key {l : List It1} (s : SortedI l) (o : OkL l) {i j : It1} (hi : i ∈ l) (hj : j ∈ l) (e : keyI i = keyI j) : i = j := by
  induction l with
  | nil => cases hi
  | cons x l ih =>
    obtain ⟨x1, x2⟩ := List.pairwise_cons.mp s
    have no : ∀ k ∈ l, keyI x ≠ keyI k := fun k hk z => by
      have a := x1 k hk
      unfold ltI at a
      rw [← z] at a
      exact ltI_irrefl (o x List.mem_cons_self) a
    rcases List.mem_cons.mp hi with h1 | h1
    · rcases List.mem_cons.mp hj with h2 | h2
      · rw [h1, h2]
      · exact absurd (h1 ▸ e) (no j h2)
    · rcases List.mem_cons.mp hj with h2 | h2
      · exact absurd (h2 ▸ e.symm) (no i h1)
      · exact ih x2 (fun k hk => o k (List.mem_cons_of_mem _ hk)) h1 h2
/-- an item in the place of the one with its key -/
def putI (l : List It1) (i : It1) : List It1 := (l.filter fun x => decide (kc (keyI x) (keyI i) < 0)) ++ [i] ++ l.filter fun x => decide (kc (keyI x) (keyI i) > 0)
def takeI (l : List It1) (k : Ky) : List It1 := l.filter fun x => decide (kc (keyI x) k ≠ 0)
theorem mem_putI {l : List It1} {i : It1} (o : OkL l) (oi : okI i) (x : It1) : x ∈ putI l i ↔ x = i ∨ (x ∈ l ∧ keyI x ≠ keyI i) := by
  unfold putI
  rw [List.mem_append, List.mem_append, List.mem_filter, List.mem_filter, List.mem_singleton]
  constructor
  · intro h
    rcases h with (⟨h, c⟩ | h) | ⟨h, c⟩
    · rcases kc_cases (okK_of (o x h)) (okK_of oi) with ⟨_, _, n⟩ | ⟨_, _, n⟩ | ⟨z, _, _⟩
      · exact .inr ⟨h, n⟩
      · exact .inr ⟨h, n⟩
      · have c := of_decide_eq_true c
        omega
    · exact .inl h
    · rcases kc_cases (okK_of (o x h)) (okK_of oi) with ⟨_, _, n⟩ | ⟨_, _, n⟩ | ⟨z, _, _⟩
      · exact .inr ⟨h, n⟩
      · exact .inr ⟨h, n⟩
      · have c := of_decide_eq_true c
        omega
  · intro h
    rcases h with h | ⟨h, n⟩
    · exact .inl (.inr h)
    · rcases kc_cases (okK_of (o x h)) (okK_of oi) with ⟨z, _, _⟩ | ⟨z, _, _⟩ | ⟨_, _, z⟩
      · exact .inl (.inl ⟨h, decide_eq_true z⟩)
      · exact .inr ⟨h, decide_eq_true z⟩
      · exact absurd z n
theorem ok_putI {l : List It1} {i : It1} (o : OkL l) (oi : okI i) : OkL (putI l i) := fun x hx => by
  rcases (mem_putI o oi x).mp hx with h | h
  · rw [h]
    exact oi
  · exact o x h.1
theorem sorted_putI {l : List It1} {i : It1} (s : SortedI l) (o : OkL l) (oi : okI i) : SortedI (putI l i) := by
  unfold SortedI putI
  rw [List.append_assoc, List.pairwise_append]
  refine ⟨List.Pairwise.filter _ s, ?_, fun a ha b hb => ?_⟩
  · rw [List.singleton_append, List.pairwise_cons]
    refine ⟨fun b hb => ?_, List.Pairwise.filter _ s⟩
    obtain ⟨hb, c⟩ := List.mem_filter.mp hb
    have c := of_decide_eq_true c
    rcases kc_cases (okK_of (o b hb)) (okK_of oi) with ⟨z, _, _⟩ | ⟨_, z, _⟩ | ⟨z, _, _⟩
    · omega
    · exact z
    · omega
  · obtain ⟨ha, c⟩ := List.mem_filter.mp ha
    have c := of_decide_eq_true c
    rcases List.mem_append.mp hb with hb | hb
    · rw [List.mem_singleton.mp hb]
      exact c
    · obtain ⟨hb, c2⟩ := List.mem_filter.mp hb
      have c2 := of_decide_eq_true c2
      have c3 : kc (keyI i) (keyI b) < 0 := by
        rcases kc_cases (okK_of (o b hb)) (okK_of oi) with ⟨z, _, _⟩ | ⟨_, z, _⟩ | ⟨z, _, _⟩
        · omega
        · exact z
        · omega
      exact kc_trans (okK_of (o a ha)) (okK_of oi) (okK_of (o b hb)) c c3
theorem mem_takeI {l : List It1} {k : Ky} (o : OkL l) (ok : okK k) (x : It1) : x ∈ takeI l k ↔ x ∈ l ∧ keyI x ≠ k := by
  unfold takeI
  rw [List.mem_filter]
  constructor
  · intro h
    refine ⟨h.1, fun z => ?_⟩
    have t := of_decide_eq_true h.2
    rcases kc_cases (okK_of (o x h.1)) ok with ⟨_, _, n⟩ | ⟨_, _, n⟩ | ⟨e, _, _⟩
    · exact n z
    · exact n z
    · exact t e
  · intro h
    refine ⟨h.1, decide_eq_true fun z => ?_⟩
    rcases kc_cases (okK_of (o x h.1)) ok with ⟨e, _, _⟩ | ⟨e, _, _⟩ | ⟨_, _, n⟩
    · omega
    · omega
    · exact h.2 n
theorem sorted_takeI {l : List It1} {k : Ky} (s : SortedI l) : SortedI (takeI l k) := List.Pairwise.filter _ s
theorem ok_takeI {l : List It1} {k : Ky} (o : OkL l) : OkL (takeI l k) := fun x hx => o x (List.mem_filter.mp hx).1
/-! ### sorted rows -/
def SortedR (rs : List (List PyData)) : Prop := rs.Pairwise fun a b => rord a b < 0
theorem rows_split {rs : List (List PyData)} {row : List PyData} (s : SortedR rs) (ha : ∀ r ∈ rs, Atoms r) (hr : Atoms row) {p : Nat} (hp : p ≤ rs.length) (h1 : ∀ j (hj : j < rs.length), j < p → rord rs[j] row < 0) (h2 : ∀ j (hj : j < rs.length), p ≤ j → ¬ rord rs[j] row < 0) :
    (row ∈ rs ↔ ∃ h : p < rs.length, rs[p] = row) ∧ (row ∉ rs → SortedR (rs.take p ++ row :: rs.drop p)) := by
  have pos : ∀ j (hj : j < rs.length), p ≤ j → row ∉ rs → rord row rs[j] < 0 := fun j hj h nm => by
    have a := h2 j hj h
    have n := rord_neg (ds := rs[j]) (es := row) (ha _ (List.getElem_mem hj)) hr
    have z := rord_zero (ds := rs[j]) (es := row) (ha _ (List.getElem_mem hj)) hr
    rcases rord_vals rs[j] row with c | c | c
    · omega
    · exact absurd (z.mp c ▸ List.getElem_mem hj) nm
    · omega
  refine ⟨⟨fun hm => ?_, fun ⟨h, e⟩ => e ▸ List.getElem_mem h⟩, fun nm => ?_⟩
  · obtain ⟨j, hj, e⟩ := List.getElem_of_mem hm
    have zj : rord rs[j] row = 0 := (rord_zero (ha _ (List.getElem_mem hj)) hr).mpr e
    have hpj : p ≤ j := by
      rcases Nat.lt_or_ge j p with c | c
      · have t := h1 j hj c
        omega
      · exact c
    have hpl : p < rs.length := Nat.lt_of_le_of_lt hpj hj
    refine ⟨hpl, ?_⟩
    rcases Nat.lt_or_ge p j with c | c
    · have t := List.pairwise_iff_getElem.mp s p j hpl hj c
      rw [e] at t
      exact absurd t (h2 p hpl (Nat.le_refl p))
    · have ej : p = j := by omega
      subst ej
      exact e
  · unfold SortedR
    rw [List.pairwise_append]
    refine ⟨List.Pairwise.sublist (List.take_sublist _ _) s, ?_, fun a ha' b hb' => ?_⟩
    · rw [List.pairwise_cons]
      refine ⟨fun b hb => ?_, List.Pairwise.sublist (List.drop_sublist _ _) s⟩
      obtain ⟨j, hj, e⟩ := List.getElem_of_mem hb
      rw [List.getElem_drop] at e
      rw [← e]
      exact pos _ _ (Nat.le_add_right _ _) nm
    · obtain ⟨i, hi, e⟩ := List.getElem_of_mem ha'
      rw [List.length_take] at hi
      rw [List.getElem_take] at e
      have a1 : rord a row < 0 := by
        rw [← e]
        exact h1 i (by omega) (by omega)
      rcases List.mem_cons.mp hb' with hb | hb
      · rw [hb]
        exact a1
      · obtain ⟨j, hj, e2⟩ := List.getElem_of_mem hb
        rw [List.getElem_drop] at e2
        have b1 : rord row b < 0 := by
          rw [← e2]
          exact pos _ _ (Nat.le_add_right _ _) nm
        have aa : Atoms a := by
          rw [← e]
          exact ha _ (List.getElem_mem _)
        have ab : Atoms b := by
          rw [← e2]
          exact ha _ (List.getElem_mem _)
        exact rord_trans aa hr ab a1 b1
end KD

namespace KD
open PySem PySem.Spec PyProof.Rows L2 KA
/-- a list of sorted rows -/
structure RowsAt (H : Hp) (l : Addr) (rs : List (List PyData)) (N : Nat) : Prop where
  ex : ∃ ys, H l = some (.lst ys) ∧ Tps H ys (rs.map PyData.tuple)
  srt : SortedR rs
  ok : ∀ r ∈ rs, Atoms r ∧ r.length ≤ 1000
  len : rs.length ≤ N
section
variable {P : Program} {w : World} {K : PySem.W.Frag} {mg : Str → Option Value} {base : Heap}
abbrev sPO : Stmt := topS 6
theorem scPO : FnScope ["rows", "row", "wanted", "low", "high", "middle"] ["rows", "row"] (defScope sPO) := ⟨rfl, rfl, rfl, by decide +kernel, rfl, by decide +kernel, by decide +kernel⟩
def spPO : Sp := fun vs H Q _ => ∃ (l : Addr) (v : V) (rs : List (List PyData)) (row : List PyData) (N : Nat), vs = [.ref l, v] ∧ RowsAt H l rs N ∧ N ≤ 100000 ∧ Tp H v (.tuple row) ∧ Atoms row ∧ row.length ≤ 1000 ∧
  ∀ (p : Nat) H', Same H H' → p ≤ rs.length → (∀ j (hj : j < rs.length), j < p → rord rs[j] row < 0) → (∀ j (hj : j < rs.length), p ≤ j → ¬ rord rs[j] row < 0) → Q (.int (p : Nat)) H'
theorem ok_po {f : Addr} {fd : FuncData} (F : Fun K "place_of" "place_of" sPO f fd) (B : Bt mg) (DR : dRK P w K mg base) : FnOk P w K mg base CX0 3 f fd ["rows", "row"] spPO := by
  refine F.ok scPO (fun vs H Q E h => ?_) (fun cdv A outer s H vs Q E hr h => ?_)
  · obtain ⟨l, v, _, _, _, rfl, _⟩ := h
    rfl
  · obtain ⟨l, v, rs, row, N, rfl, ⟨⟨ys, el, tr⟩, srt, okr, hN⟩, hN2, tv, ar, lr, q⟩ := h
    refine ⟨_, pss_cons (ps_set (i := 2) scPO.nd rfl (.inl rfl) (pe_def DR hr (by rfl) (pa_cons (pv 1) pa_nil)))
      (pss_cons (ps_set (i := 3) scPO.nd rfl (.inl rfl) pe_int)
      (pss_cons (ps_set (i := 4) scPO.nd rfl (.inl rfl) (pe_callB call_len_seq (by rfl) B.len PySem.boot_len (pa_cons (pv 0) pa_nil)))
      (pss_cons (ps_while PassesOwn.never (pt_cmpR op_lt (pv 3) (pv 4) (nomark _))
        (pss_cons (ps_set (i := 5) scPO.nd rfl (.inl rfl) (pe_op op_fdiv (pe_op op_add (pv 3) (pv 4)) pe_int))
        (pss_one (ps_if (pt_cmpR (op_ltP hr.units) (pe_def DR hr (by rfl) (pa_cons (pe_ix ix_list (pv 0) (pv 5) (fun _ _ => rfl)) pa_nil)) (pv 2) (nomark _))
          (pss_one (ps_set (i := 3) scPO.nd rfl (.inl rfl) (pe_op op_add (pv 5) pe_int)))
          (pss_one (ps_set (i := 4) scPO.nd rfl (.inl rfl) (pv 5)))))))
      (pss_one (ps_ret (pv 3)))))), ?_⟩
    have ly : ys.length = rs.length := by rw [tr.length, List.length_map]
    refine ⟨v, rfl, v, row, rfl, tv, ar, lr, fun wa H1 s1 tw => ?_⟩
    refine ⟨.ref l, rfl, l, ys, rfl, .inl (SqL.of (s1 _ _ el)), ?_⟩
    refine ⟨fun m σ H' => ∃ lo hi : Nat, ∃ x5, σ = [some (.ref l), some v, some (.ref wa), some (.int (lo : Int)), some (.int (hi : Int)), x5] ∧ Same H1 H' ∧ lo ≤ hi ∧ hi ≤ rs.length ∧ m = hi - lo ∧
      (∀ j (hj : j < rs.length), j < lo → rord rs[j] row < 0) ∧ (∀ j (hj : j < rs.length), hi ≤ j → ¬ rord rs[j] row < 0), ⟨rs.length, 0, rs.length, none, by rw [← ly]; rfl, Same.refl _, Nat.zero_le _, Nat.le_refl _, rfl, fun j hj h => absurd h (Nat.not_lt_zero j), fun j hj h => absurd hj (Nat.not_lt.mpr h)⟩, fun m σ H' hW => ?_⟩
    obtain ⟨lo, hi, x5, rfl, s2, h1, h2, em, h3, h4⟩ := hW
    refine ⟨_, rfl, _, rfl, _, _, rfl, rfl, _, rfl, ite2 (fun c => ?_) (fun c => ?_)⟩
    · have c1 : (lo : Int) < hi := of_decide_eq_true c
      refine ⟨fun σ' H' => ∃ m', m' < m ∧ ∃ lo hi : Nat, ∃ x5, σ' = [some (.ref l), some v, some (.ref wa), some (.int (lo : Int)), some (.int (hi : Int)), x5] ∧ Same H1 H' ∧ lo ≤ hi ∧ hi ≤ rs.length ∧ m' = hi - lo ∧
        (∀ j (hj : j < rs.length), j < lo → rord rs[j] row < 0) ∧ (∀ j (hj : j < rs.length), hi ≤ j → ¬ rord rs[j] row < 0), fun σ' H' h => h, ?_⟩
      refine ⟨_, rfl, _, rfl, _, _, rfl, rfl, _, 2, rfl, rfl, ⟨by decide, by decide⟩, ?_⟩
      obtain ⟨mid, hmid⟩ : ∃ mid : Nat, ((lo : Int) + hi) / 2 = mid := nat_of (by omega)
      rw [show ((fun (i j : Int) => V.int (i / j)) ((lo : Int) + hi) 2 : V) = V.int (mid : Int) from congrArg V.int hmid]
      have m1 : lo ≤ mid := by omega
      have m2 : mid < hi := by omega
      have m3 : mid < rs.length := by omega
      have gm : (rs.map PyData.tuple)[mid]? = some (.tuple rs[mid]) := by
        rw [List.getElem?_map, List.getElem?_eq_getElem m3]
        rfl
      obtain ⟨x, ex, tx⟩ := tr.at_ gm
      obtain ⟨am, lm⟩ := okr _ (List.getElem_mem m3)
      have s12 : Same H H' := s1.trans s2
      refine ⟨.ref l, rfl, .int (mid : Int), rfl, l, ys, mid, x, rfl, rfl, SqL.of (s12 _ _ el), atI_nat ex, x, rs[mid], rfl, tx.mono (Tk.of s12), am, lm, fun k H2 s3 tk => ?_⟩
      refine ⟨.ref wa, rfl, _, _, _, tk, (tw.mono (Tk.of s2)).mono (Tk.of s3), small_row am, (row_agree am ar).1, _, rfl, ite2 (fun c2 => ?_) (fun c2 => ?_)⟩
      · have c3 : rord rs[mid] row < 0 := of_decide_eq_true c2
        refine ⟨.int (mid : Int), rfl, _, _, rfl, rfl, hi - (mid + 1), by omega, mid + 1, hi, some (.int (mid : Int)), rfl, s2.trans s3, by omega, h2, rfl, fun j hj hlt => ?_, h4⟩
        rcases Nat.lt_or_ge j mid with z | z
        · exact rord_trans (okr _ (List.getElem_mem hj)).1 am ar (List.pairwise_iff_getElem.mp srt j mid hj m3 z) c3
        · have ej : j = mid := by omega
          subst ej
          exact c3
      · have c3 : ¬ rord rs[mid] row < 0 := fun z => c2 (decide_eq_true z)
        refine ⟨.int (mid : Int), rfl, mid - lo, by omega, lo, mid, some (.int (mid : Int)), rfl, s2.trans s3, m1, by omega, rfl, h3, fun j hj hge => ?_⟩
        rcases Nat.lt_or_ge mid j with z | z
        · exact fun y => c3 (rord_trans am (okr _ (List.getElem_mem hj)).1 ar (List.pairwise_iff_getElem.mp srt mid j m3 hj z) y)
        · have ej : j = mid := by omega
          subst ej
          exact c3
    · have c1 : ¬ (lo : Int) < hi := fun z => c (decide_eq_true z)
      have elh : lo = hi := by omega
      subst elh
      exact ⟨.int (lo : Int), rfl, q lo H' (s1.trans s2) h2 h3 h4⟩
abbrev dPO (P : Program) (w : World) (K : PySem.W.Frag) (mg : Str → Option Value) (base : Heap) : Prop := Def P w K mg base "place_of" 3 ["rows", "row"] spPO
abbrev dSR (P : Program) (w : World) (K : PySem.W.Frag) (mg : Str → Option Value) (base : Heap) : Prop := Def P w K mg base "same_row" 3 ["first", "second"] spSR
abbrev sSA : Stmt := topS 7
theorem scSA : FnScope ["rows", "at", "row"] ["rows", "at", "row"] (defScope sSA) := ⟨rfl, rfl, rfl, by decide +kernel, rfl, by decide +kernel, by decide +kernel⟩
def spSA : Sp := fun vs H Q _ => ∃ (l : Addr) (v : V) (rs : List (List PyData)) (row : List PyData) (N p : Nat), vs = [.ref l, .int (p : Nat), v] ∧ RowsAt H l rs N ∧ N ≤ 100000 ∧ Tp H v (.tuple row) ∧ Atoms row ∧ row.length ≤ 1000 ∧
  ∀ (b : Bool) H', Same H H' → (b = true ↔ ∃ h : p < rs.length, rs[p] = row) → Q (.bl b) H'
theorem ok_sa {f : Addr} {fd : FuncData} (F : Fun K "stands_at" "stands_at" sSA f fd) (B : Bt mg) (DS : dSR P w K mg base) : FnOk P w K mg base CX0 4 f fd ["rows", "at", "row"] spSA := by
  refine F.ok scSA (fun vs H Q E h => ?_) (fun cdv A outer s H vs Q E hr h => ?_)
  · obtain ⟨_, _, _, _, _, _, rfl, _⟩ := h
    rfl
  · obtain ⟨l, v, rs, row, N, p, rfl, ⟨⟨ys, el, tr⟩, srt, okr, hN⟩, hN2, tv, ar, lr, q⟩ := h
    refine ⟨_, pss_one (ps_ret (pe_and (pe_cmpR op_lt (pv 1) (pe_callB call_len_seq (by rfl) B.len PySem.boot_len (pa_cons (pv 0) pa_nil)) (nomark _)) (pe_one (pe_def DS hr (by rfl) (pa_cons (pe_ix ix_list (pv 0) (pv 1) (fun _ _ => rfl)) (pa_cons (pv 2) pa_nil)))))), ?_⟩
    have ly : ys.length = rs.length := by rw [tr.length, List.length_map]
    refine ⟨_, rfl, .ref l, rfl, l, ys, rfl, .inl (SqL.of el), _, _, rfl, rfl, _, rfl, ite2 (fun c => ?_) (fun c => ?_)⟩
    · have c1 : (p : Int) < ys.length := of_decide_eq_true c
      have hp : p < rs.length := by omega
      have gm : (rs.map PyData.tuple)[p]? = some (.tuple rs[p]) := by
        rw [List.getElem?_map, List.getElem?_eq_getElem hp]
        rfl
      obtain ⟨x, ex, tx⟩ := tr.at_ gm
      obtain ⟨am, lm⟩ := okr _ (List.getElem_mem hp)
      refine ⟨.ref l, rfl, _, rfl, l, ys, p, x, rfl, rfl, SqL.of el, atI_nat ex, v, rfl, x, v, rs[p], row, rfl, tx, tv, am, ar, lm, lr, fun H' s' => q _ H' s' ?_⟩
      rw [(row_agree am ar).2.1]
      constructor
      · intro h
        exact ⟨hp, (rord_zero am ar).mp (of_decide_eq_true h)⟩
      · intro ⟨_, h⟩
        exact decide_eq_true ((rord_zero am ar).mpr h)
    · have c1 : ¬ (p : Int) < ys.length := fun z => c (decide_eq_true z)
      exact q false H (Same.refl _) ⟨(fun h => by cases h), fun ⟨h, _⟩ => absurd h (by omega)⟩
end
end KD

namespace KD
open PySem PySem.Spec PyProof.Rows L2 KA
/-! ### tables by membership -/
section
variable {κ : Type} [DecidableEq κ]
abbrev nd (kvs : List (κ × V)) : Prop := (kvs.map (·.1)).Nodup
theorem mem_val {kvs : List (κ × V)} (h : nd kvs) {k : κ} {v : V} : valV kvs k = some v ↔ (k, v) ∈ kvs := by
  induction kvs with
  | nil => exact ⟨fun z => by simp [valV] at z, fun z => by cases z⟩
  | cons p r ih =>
    have h1 : p.1 ∉ r.map (·.1) ∧ nd r := List.nodup_cons.mp h
    by_cases e : p.1 = k
    · rw [valV_pos e]
      constructor
      · intro z
        have z := Option.some.inj z
        rw [← z, ← e]
        exact List.mem_cons_self
      · intro z
        rcases List.mem_cons.mp z with z | z
        · rw [← z]
        · exact absurd (List.mem_map.mpr ⟨_, z, rfl⟩) (by rw [← e]; exact h1.1)
    · rw [valV_neg e, ih h1.2]
      constructor
      · exact fun z => List.mem_cons_of_mem _ z
      · intro z
        rcases List.mem_cons.mp z with z | z
        · exact absurd (by rw [← z]) e
        · exact z
theorem val_none {kvs : List (κ × V)} (h : nd kvs) {k : κ} : valV kvs k = none ↔ ∀ v, (k, v) ∉ kvs := by
  constructor
  · intro z v m
    rw [(mem_val h).mpr m] at z
    cases z
  · intro z
    cases c : valV kvs k with
    | none => rfl
    | some v => exact absurd ((mem_val h).mp c) (z v)
theorem mem_put {kvs : List (κ × V)} (h : nd kvs) {k k' : κ} {v v' : V} : (k', v') ∈ putK kvs k v ↔ (k' = k ∧ v' = v) ∨ (k' ≠ k ∧ (k', v') ∈ kvs) := by
  unfold putK
  by_cases c : (kvs.any fun kv => decide (kv.1 = k)) = true
  · rw [if_pos c, List.mem_map]
    constructor
    · rintro ⟨⟨a, b⟩, m, e⟩
      by_cases z : a = k
      · rw [if_pos z] at e
        cases e
        exact .inl ⟨z, rfl⟩
      · rw [if_neg z] at e
        cases e
        exact .inr ⟨z, m⟩
    · rintro (⟨e1, e2⟩ | ⟨n, m⟩)
      · obtain ⟨⟨a, b⟩, m, z⟩ := List.any_eq_true.mp c
        have z := of_decide_eq_true z
        refine ⟨(a, b), m, ?_⟩
        rw [if_pos z, e1, e2, ← z]
      · exact ⟨(k', v'), m, if_neg n⟩
  · rw [if_neg c, List.mem_append, List.mem_singleton]
    constructor
    · rintro (m | e)
      · refine .inr ⟨fun z => c (List.any_eq_true.mpr ⟨_, m, decide_eq_true z⟩), m⟩
      · cases e
        exact .inl ⟨rfl, rfl⟩
    · rintro (⟨e1, e2⟩ | ⟨_, m⟩)
      · rw [e1, e2]
        exact .inr rfl
      · exact .inl m
theorem nd_put {kvs : List (κ × V)} (h : nd kvs) (k : κ) (v : V) : nd (putK kvs k v) := by
  cases c : valV kvs k with
  | none => exact nd_putK v h c
  | some x =>
    have t : (kvs.any fun kv => decide (kv.1 = k)) = true := by
      rw [valV_any, c]
      rfl
    show ((putK kvs k v).map (·.1)).Nodup
    unfold putK
    rw [if_pos t, List.map_map]
    have e : (kvs.map ((·.1) ∘ fun kv => if kv.1 = k then (kv.1, v) else kv)) = kvs.map (·.1) := by
      apply List.map_congr_left
      intro p _
      show (if p.1 = k then (p.1, v) else p).1 = p.1
      by_cases z : p.1 = k
      · rw [if_pos z]
      · rw [if_neg z]
    rw [e]
    exact h
theorem mem_dropK {kvs : List (κ × V)} {k k' : κ} {v' : V} : (k', v') ∈ dropK kvs k ↔ k' ≠ k ∧ (k', v') ∈ kvs := by
  unfold dropK
  rw [List.mem_filter]
  exact ⟨fun h => ⟨of_decide_eq_true h.2, h.1⟩, fun h => ⟨h.2, decide_eq_true h.1⟩⟩
end
/-! ### which items are there behind a put, a take -/
theorem put_rel {l : List It1} {nm : Str} {n : Int} (o : OkL l) (a : Str) (m : Int) : It1.rel a m ∈ putI l (.rel nm n) ↔ (a = nm ∧ m = n) ∨ (a ≠ nm ∧ It1.rel a m ∈ l) := by
  rw [mem_putI o (show okI (.rel nm n) from trivial)]
  constructor
  · rintro (e | ⟨h, k⟩)
    · cases e
      exact .inl ⟨rfl, rfl⟩
    · exact .inr ⟨fun z => k (by rw [z]; rfl), h⟩
  · rintro (⟨rfl, rfl⟩ | ⟨k, h⟩)
    · exact .inl rfl
    · exact .inr ⟨h, fun z => k (by injection z with _ z; injection z)⟩
theorem put_fact {l : List It1} {nm : Str} {row : List PyData} (o : OkL l) (oi : okI (.fact nm row)) (a : Str) (ds : List PyData) : It1.fact a ds ∈ putI l (.fact nm row) ↔ (a = nm ∧ ds = row) ∨ It1.fact a ds ∈ l := by
  rw [mem_putI o oi]
  constructor
  · rintro (e | ⟨h, k⟩)
    · cases e
      exact .inl ⟨rfl, rfl⟩
    · exact .inr h
  · rintro (⟨rfl, rfl⟩ | h)
    · exact .inl rfl
    · by_cases c : a = nm ∧ ds = row
      · obtain ⟨rfl, rfl⟩ := c
        exact .inl rfl
      · exact .inr ⟨h, fun z => c (by injection z with _ z; injection z with z1 z2; exact ⟨z1, z2⟩)⟩
theorem put_rule {l : List It1} {nm rl : Str} {ts bd : PyData} (o : OkL l) (oi : okI (.rule nm rl ts bd)) (a rl' : Str) (ts' bd' : PyData) : It1.rule a rl' ts' bd' ∈ putI l (.rule nm rl ts bd) ↔ (a = nm ∧ rl' = rl ∧ ts' = ts ∧ bd' = bd) ∨ (a ≠ nm ∧ It1.rule a rl' ts' bd' ∈ l) := by
  rw [mem_putI o oi]
  constructor
  · rintro (e | ⟨h, k⟩)
    · cases e
      exact .inl ⟨rfl, rfl, rfl, rfl⟩
    · exact .inr ⟨fun z => k (by rw [z]; rfl), h⟩
  · rintro (⟨rfl, rfl, rfl, rfl⟩ | ⟨k, h⟩)
    · exact .inl rfl
    · exact .inr ⟨h, fun z => k (by injection z with _ z; injection z)⟩
theorem put_den {l : List It1} {nm : Str} {bd : PyData} (o : OkL l) (oi : okI (.den nm bd)) (a : Str) (bd' : PyData) : It1.den a bd' ∈ putI l (.den nm bd) ↔ (a = nm ∧ bd' = bd) ∨ (a ≠ nm ∧ It1.den a bd' ∈ l) := by
  rw [mem_putI o oi]
  constructor
  · rintro (e | ⟨h, k⟩)
    · cases e
      exact .inl ⟨rfl, rfl⟩
    · exact .inr ⟨fun z => k (by rw [z]; rfl), h⟩
  · rintro (⟨rfl, rfl⟩ | ⟨k, h⟩)
    · exact .inl rfl
    · exact .inr ⟨h, fun z => k (by injection z with _ z; injection z)⟩
/-- an item of another sort -/
theorem put_other {l : List It1} {i j : It1} (o : OkL l) (oi : okI i) (n : (keyI j).1 ≠ (keyI i).1) : j ∈ putI l i ↔ j ∈ l := by
  rw [mem_putI o oi]
  constructor
  · rintro (e | h)
    · exact absurd (by rw [e]) n
    · exact h.1
  · exact fun h => .inr ⟨h, fun z => n (by rw [z])⟩
/-! ### a State -/
def flds (r f u d : Addr) : List (Str × V) := [("relations", .ref r), ("facts", .ref f), ("rules", .ref u), ("denials", .ref d)]
def RelOk (kr : List (Key × V)) (its : List It1) (N : Nat) : Prop := nd kr ∧ kr.length ≤ N ∧ ∀ k v, (k, v) ∈ kr ↔ ∃ nm n, k = Sum.inr nm ∧ v = .int n ∧ It1.rel nm n ∈ its
def hasNm (its : List It1) (nm : Str) : Prop := (∃ n, It1.rel nm n ∈ its) ∨ ∃ ds, It1.fact nm ds ∈ its
def FacOk (H : Hp) (kf : List (Key × V)) (its : List It1) (F : Addr → Prop) (N : Nat) (B : Str → Prop) : Prop := nd kf ∧ kf.length ≤ N ∧
  (∀ k v, (k, v) ∈ kf → ∃ nm l rs, k = Sum.inr nm ∧ v = .ref l ∧ F l ∧ RowsAt H l rs N ∧ ∀ ds, ds ∈ rs ↔ It1.fact nm ds ∈ its) ∧
  (∀ nm, (∃ v, ((Sum.inr nm : Key), v) ∈ kf) ↔ B nm) ∧
  (∀ k k' v, (k, v) ∈ kf → (k', v) ∈ kf → k = k')
def RulOk (H : Hp) (ku : List (Key × V)) (its : List It1) (N : Nat) : Prop := nd ku ∧ ku.length ≤ N ∧
  (∀ k v, (k, v) ∈ ku → ∃ nm rl ts bd, k = Sum.inr nm ∧ Tp H v (.tuple [.str rl, ts, bd]) ∧ It1.rule nm rl ts bd ∈ its) ∧
  ∀ nm rl ts bd, It1.rule nm rl ts bd ∈ its → ∃ v, ((Sum.inr nm : Key), v) ∈ ku
def DenOk (H : Hp) (kd : List (Key × V)) (its : List It1) (N : Nat) : Prop := nd kd ∧ kd.length ≤ N ∧
  (∀ k v, (k, v) ∈ kd → ∃ nm bd, k = Sum.inr nm ∧ Tp H v bd ∧ It1.den nm bd ∈ its) ∧
  ∀ nm bd, It1.den nm bd ∈ its → ∃ v, ((Sum.inr nm : Key), v) ∈ kd
structure StB (C : Addr) (H : Hp) (s dx r f u d : Addr) (kr kf ku kd : List (Key × V)) (its : List It1) (F : Addr → Prop) (N : Nat) (B : Str → Prop) : Prop where
  hs : H s = some (.ins C dx (flds r f u d))
  hr : H r = some (.dK kr)
  hf : H f = some (.dK kf)
  hu : H u = some (.dK ku)
  hd : H d = some (.dK kd)
  fr : F r
  ff : F f
  fu : F u
  fd : F d
  rf : r ≠ f
  ru : r ≠ u
  rd : r ≠ d
  fu' : f ≠ u
  fd' : f ≠ d
  ud : u ≠ d
  rel : RelOk kr its N
  fac : FacOk H kf its F N B
  rul : RulOk H ku its N
  den : DenOk H kd its N
  srt : SortedI its
  ok : OkL its
  fs : ¬ F s
  fp : ∀ a, F a → (∃ kvs, H a = some (.dK kvs)) ∨ ∃ xs, H a = some (.lst xs)
/-- a State stands at s with these items; F: its own dicts and lists; N: a bound of their sizes -/
def StX (C : Addr) (H : Hp) (s : Addr) (its : List It1) (F : Addr → Prop) (N : Nat) (B : Str → Prop) : Prop := ∃ dx r f u d kr kf ku kd, StB C H s dx r f u d kr kf ku kd its F N B
abbrev StAt (C : Addr) (H : Hp) (s : Addr) (its : List It1) (F : Addr → Prop) (N : Nat) : Prop := StX C H s its F N (hasNm its)
theorem RowsAt.mono {H H' : Hp} {l : Addr} {rs : List (List PyData)} {N N' : Nat} (h : RowsAt H l rs N) (hn : N ≤ N') (k : Tk H H') (hl : ∀ o, H l = some o → H' l = some o) : RowsAt H' l rs N' := by
  obtain ⟨⟨ys, e, t⟩, s, o, n⟩ := h
  exact ⟨⟨ys, hl _ e, t.mono k⟩, s, o, Nat.le_trans n hn⟩
theorem FacOk.to {H H' : Hp} {kf : List (Key × V)} {its its' : List It1} {F F' : Addr → Prop} {N N' : Nat} {B B' : Str → Prop} (h : FacOk H kf its F N B) (k : Tk H H') (hl : ∀ l xs, F l → H l = some (.lst xs) → H' l = some (.lst xs)) (hF : ∀ a, F a → F' a) (hN : N ≤ N')
    (hf : ∀ nm ds, It1.fact nm ds ∈ its' ↔ It1.fact nm ds ∈ its) (hB : ∀ nm, B' nm ↔ B nm) : FacOk H' kf its' F' N' B' := by
  obtain ⟨f1, f2, f3, f4, f5⟩ := h
  refine ⟨f1, Nat.le_trans f2 hN, fun k1 v1 m => ?_, fun nm => (f4 nm).trans (hB nm).symm, f5⟩
  obtain ⟨nm, l, rs, e1, e2, e3, e4, e5⟩ := f3 k1 v1 m
  refine ⟨nm, l, rs, e1, e2, hF _ e3, ?_, fun ds => (e5 ds).trans (hf nm ds).symm⟩
  obtain ⟨⟨ys, e, t⟩, s, o, n⟩ := e4
  exact ⟨⟨ys, hl _ _ e3 e, t.mono k⟩, s, o, Nat.le_trans n hN⟩
theorem RulOk.to {H H' : Hp} {ku : List (Key × V)} {its its' : List It1} {N N' : Nat} (h : RulOk H ku its N) (k : Tk H H') (hN : N ≤ N') (hf : ∀ nm rl ts bd, It1.rule nm rl ts bd ∈ its' ↔ It1.rule nm rl ts bd ∈ its) : RulOk H' ku its' N' := by
  obtain ⟨f1, f2, f3, f4⟩ := h
  refine ⟨f1, Nat.le_trans f2 hN, fun k1 v1 m => ?_, fun nm rl ts bd m => f4 nm rl ts bd ((hf _ _ _ _).mp m)⟩
  obtain ⟨nm, rl, ts, bd, e1, e2, e3⟩ := f3 k1 v1 m
  exact ⟨nm, rl, ts, bd, e1, e2.mono k, (hf _ _ _ _).mpr e3⟩
theorem DenOk.to {H H' : Hp} {kd : List (Key × V)} {its its' : List It1} {N N' : Nat} (h : DenOk H kd its N) (k : Tk H H') (hN : N ≤ N') (hf : ∀ nm bd, It1.den nm bd ∈ its' ↔ It1.den nm bd ∈ its) : DenOk H' kd its' N' := by
  obtain ⟨f1, f2, f3, f4⟩ := h
  refine ⟨f1, Nat.le_trans f2 hN, fun k1 v1 m => ?_, fun nm bd m => f4 nm bd ((hf _ _).mp m)⟩
  obtain ⟨nm, bd, e1, e2, e3⟩ := f3 k1 v1 m
  exact ⟨nm, bd, e1, e2.mono k, (hf _ _).mpr e3⟩
theorem RelOk.to {kr : List (Key × V)} {its its' : List It1} {N N' : Nat} (h : RelOk kr its N) (hN : N ≤ N') (hf : ∀ nm n, It1.rel nm n ∈ its' ↔ It1.rel nm n ∈ its) : RelOk kr its' N' := by
  obtain ⟨f1, f2, f3⟩ := h
  refine ⟨f1, Nat.le_trans f2 hN, fun k v => (f3 k v).trans ?_⟩
  exact ⟨fun ⟨nm, n, e1, e2, e3⟩ => ⟨nm, n, e1, e2, (hf _ _).mpr e3⟩, fun ⟨nm, n, e1, e2, e3⟩ => ⟨nm, n, e1, e2, (hf _ _).mp e3⟩⟩
/-- what stands stays: the state stays -/
theorem StX.mono {C : Addr} {H H' : Hp} {s : Addr} {its : List It1} {F : Addr → Prop} {N N' : Nat} {B : Str → Prop} (h : StX C H s its F N B) (k : Tk H H') (ks : ∀ o, H s = some o → H' s = some o) (kF : ∀ a o, F a → H a = some o → H' a = some o) (hN : N ≤ N') : StX C H' s its F N' B := by
  obtain ⟨dx, r, f, u, d, kr, kf, ku, kd, b⟩ := h
  refine ⟨dx, r, f, u, d, kr, kf, ku, kd, ks _ b.hs, kF _ _ b.fr b.hr, kF _ _ b.ff b.hf, kF _ _ b.fu b.hu, kF _ _ b.fd b.hd, b.fr, b.ff, b.fu, b.fd, b.rf, b.ru, b.rd, b.fu', b.fd', b.ud, b.rel.to hN (fun _ _ => Iff.rfl), b.fac.to k (fun l xs hl e => kF _ _ hl e) (fun _ h => h) hN (fun _ _ => Iff.rfl) (fun _ => Iff.rfl), b.rul.to k hN (fun _ _ _ _ => Iff.rfl), b.den.to k hN (fun _ _ => Iff.rfl), b.srt, b.ok, b.fs, fun a ha => ?_⟩
  rcases b.fp a ha with ⟨x, e⟩ | ⟨x, e⟩
  · exact .inl ⟨x, kF _ _ ha e⟩
  · exact .inr ⟨x, kF _ _ ha e⟩
theorem StX.same {C : Addr} {H H' : Hp} {s : Addr} {its : List It1} {F : Addr → Prop} {N : Nat} {B : Str → Prop} (h : StX C H s its F N B) (k : Same H H') : StX C H' s its F N B := h.mono (Tk.of k) (fun o e => k _ o e) (fun a o _ e => k a o e) (Nat.le_refl _)
/-- all but the things of F stays -/
def Out (F : Addr → Prop) (H H' : Hp) : Prop := ∀ a o, ¬ F a → H a = some o → H' a = some o
theorem Out.refl (F : Addr → Prop) (H : Hp) : Out F H H := fun _ _ _ h => h
theorem Out.trans {F : Addr → Prop} {H H1 H2 : Hp} (a : Out F H H1) (b : Out F H1 H2) : Out F H H2 := fun x o n h => b x o n (a x o n h)
theorem Out.of {F : Addr → Prop} {H H' : Hp} (s : Same H H') : Out F H H' := fun a o _ h => s a o h
theorem Out.put {F : Addr → Prop} {H : Hp} {p : Addr} {o : HO} (h : F p) : Out F H (upd H p o) := fun a u n e => by
  rw [upd_ne (fun z => n (by rw [z]; exact h))]
  exact e
/-- the state's own things are no tuples -/
theorem Out.tk {F : Addr → Prop} {H H' : Hp} (o : Out F H H') (fp : ∀ a, F a → (∃ kvs, H a = some (.dK kvs)) ∨ ∃ xs, H a = some (.lst xs)) : Tk H H' := fun a xs h => o a _ (fun z => by
  rcases fp a z with ⟨x, e⟩ | ⟨x, e⟩ <;> rw [h] at e <;> cases e) h
theorem fl_rel (r f u d : Addr) : (flds r f u d).lookup ("relations" : Str) = some (.ref r) := by rfl
theorem fl_fac (r f u d : Addr) : (flds r f u d).lookup ("facts" : Str) = some (.ref f) := by rfl
theorem fl_rul (r f u d : Addr) : (flds r f u d).lookup ("rules" : Str) = some (.ref u) := by rfl
theorem fl_den (r f u d : Addr) : (flds r f u d).lookup ("denials" : Str) = some (.ref d) := by rfl
/-- the class State as the top has made it -/
structure Cs (K : PySem.W.Frag) (mg : Str → Option Value) (C : Addr) : Prop where
  cl : Cls K C
  nR : NoAttr K C "relations"
  nF : NoAttr K C "facts"
  nU : NoAttr K C "rules"
  nD : NoAttr K C "denials"
  mgC : mg "State" = some (.ref C)
/-- a method as its callers know it -/
structure MDef (P : Program) (w : World) (K : PySem.W.Frag) (mg : Str → Option Value) (base : Heap) (C : Addr) (m : Str) (k : Nat) (ps : List Str) (sp : Sp) : Prop where
  ex : ∃ (f : Addr) (fd : FuncData), FnOk P w K mg base CX0 k f fd ps sp ∧ Meth K C m f ∧ Binds K fd ps []
section
variable {X : Cx} {k : Nat} {m : Str} {C : Addr} {ps : List Str} {sp : Sp} {o e : Expr} {es : List Expr} {ta : TE} {t : TA} {pos apos : Pos}
theorem pe_mdef (D : MDef X.prog X.w X.K X.mg X.base C m k ps sp) (he : PE X o ta) (c : Cls X.K C) (hr : Room k X.A) (ha : PA X (e :: es) t) {pl : Sem Bool}
    (hst : starEach (e :: es) X.env = (false, eval e X.env) :: starEach es X.env := by rfl) (hpl : (backTo pos (starEach es X.env)).any (·.1) = false := by rfl)
    (ht : eval (.Call (.Attribute o m apos) (e :: es) [] pos) X.env = (do
      let ov ← eval o X.env
      standAt apos.atName
      let (f, first) ← holding [ov] (getMethod ov m pl)
      callWith pos f first (backTo pos (starEach (e :: es) X.env)) (backToKw pos (keywordEach [] X.env))) := by rfl) : PE X (.Call (.Attribute o m apos) (e :: es) [] pos) (tMeth C m sp [] E0 ta t) := by
  obtain ⟨f, fd, F, M, hb⟩ := D.ex
  exact pe_meth he c M F hr hb .nil pass0 ha hst hpl ht
end
end KD

namespace KD
open PySem PySem.Spec PyProof.Rows L2 KA
section
variable {C : Addr} {H : Hp} {s dx r f u d : Addr} {kr kf ku kd : List (Key × V)} {its : List It1} {F : Addr → Prop} {N : Nat} {B : Str → Prop}
theorem StB.ns (b : StB C H s dx r f u d kr kf ku kd its F N B) {a : Addr} (h : F a) : s ≠ a := fun z => b.fs (by rw [z]; exact h)
/-- no list of the state's facts is one of its four dicts -/
theorem lst_ne {H : Hp} {l a : Addr} {xs : List V} {kvs : List (Key × V)} (e : H l = some (.lst xs)) (e2 : H a = some (.dK kvs)) : l ≠ a := fun z => by
  rw [z, e2] at e
  cases e
/-- a new list for a name's facts -/
theorem setd_none (b : StB C H s dx r f u d kr kf ku kd its F N B) {p : Addr} {nm : Str} (hp : H p = none) (hn : valV kf (Sum.inr nm : Key) = none) (hB : ∀ ds, It1.fact nm ds ∈ its → B nm) :
    StB C (upd (upd H p (.lst [])) f (.dK (putK kf (Sum.inr nm : Key) (.ref p)))) s dx r f u d kr (putK kf (Sum.inr nm : Key) (.ref p)) ku kd its (fun a => F a ∨ a = p) (N + 1) (fun x => x = nm ∨ B x) := by
  have h0 : ∀ a o, H a = some o → a ≠ p := fun a o e z => by rw [z, hp] at e; cases e
  have hs' := b.hs
  have e1 : ∀ a o, a ≠ f → H a = some o → (upd (upd H p (.lst [])) f (.dK (putK kf (Sum.inr nm : Key) (.ref p)))) a = some o := fun a o n e => by
    rw [upd_ne n, upd_ne (h0 _ _ e)]
    exact e
  have tk : Tk H (upd (upd H p (.lst [])) f (.dK (putK kf (Sum.inr nm : Key) (.ref p)))) := fun a xs e => e1 a _ (fun z => by rw [z, b.hf] at e; cases e) e
  have pf : p ≠ f := fun z => h0 f _ b.hf z.symm
  have hps : s ≠ p := h0 s _ hs'
  obtain ⟨f1, f2, f3, f4, f5⟩ := b.fac
  refine ⟨e1 _ _ (b.ns b.ff) b.hs, e1 _ _ b.rf b.hr, upd_same, e1 _ _ b.fu'.symm b.hu, e1 _ _ b.fd'.symm b.hd, .inl b.fr, .inl b.ff, .inl b.fu, .inl b.fd, b.rf, b.ru, b.rd, b.fu', b.fd', b.ud, b.rel.to (Nat.le_succ _) (fun _ _ => Iff.rfl), ⟨nd_put f1 _ _, ?_, fun k v m => ?_, fun x => ?_, fun k k' v m m' => ?_⟩,
    b.rul.to tk (Nat.le_succ _) (fun _ _ _ _ => Iff.rfl), b.den.to tk (Nat.le_succ _) (fun _ _ => Iff.rfl), b.srt, b.ok, fun z => z.elim b.fs hps, fun a ha => ?_⟩
  · rw [putK_new _ hn, List.length_append]
    exact Nat.succ_le_succ f2
  · rcases (mem_put f1).mp m with ⟨e, e'⟩ | ⟨n, m⟩
    · refine ⟨nm, p, [], e, e', .inr rfl, ⟨⟨[], (by rw [upd_ne pf, upd_same]), .nil⟩, List.Pairwise.nil, (fun r h => by cases h), Nat.zero_le _⟩, fun ds => ⟨fun h => (by cases h), fun h => ?_⟩⟩
      obtain ⟨v0, m0⟩ := (f4 nm).mpr (hB ds h)
      exact absurd m0 ((val_none f1).mp hn v0)
    · obtain ⟨x, l, rs, a1, a2, a3, ⟨⟨ys, e, t⟩, a4, a5, a6⟩, a7⟩ := f3 k v m
      exact ⟨x, l, rs, a1, a2, .inl a3, ⟨⟨ys, e1 _ _ (lst_ne e b.hf) e, t.mono tk⟩, a4, a5, Nat.le_succ_of_le a6⟩, a7⟩
  · constructor
    · rintro ⟨v, m⟩
      rcases (mem_put f1).mp m with ⟨e, _⟩ | ⟨_, m⟩
      · exact .inl (by injection e)
      · exact .inr ((f4 x).mp ⟨v, m⟩)
    · rintro (rfl | h)
      · exact ⟨_, (mem_put f1).mpr (.inl ⟨rfl, rfl⟩)⟩
      · obtain ⟨v, m⟩ := (f4 x).mpr h
        by_cases c : (Sum.inr x : Key) = Sum.inr nm
        · rw [c] at m
          exact absurd m ((val_none f1).mp hn v)
        · exact ⟨v, (mem_put f1).mpr (.inr ⟨c, m⟩)⟩
  · have no : ∀ k, (k, V.ref p) ∉ kf := fun k m0 => by
      obtain ⟨x, l, rs, a1, a2, a3, ⟨⟨ys, e, t⟩, _⟩, _⟩ := f3 k _ m0
      injection a2 with a2
      rw [← a2, hp] at e
      cases e
    rcases (mem_put f1).mp m with ⟨a, a'⟩ | ⟨_, m⟩
    · rcases (mem_put f1).mp m' with ⟨c, _⟩ | ⟨_, m'⟩
      · rw [a, c]
      · rw [a'] at m'
        exact absurd m' (no _)
    · rcases (mem_put f1).mp m' with ⟨c, c'⟩ | ⟨_, m'⟩
      · rw [c'] at m
        exact absurd m (no _)
      · exact f5 _ _ _ m m'
  · rcases ha with ha | rfl
    · by_cases c : a = f
      · rw [c, upd_same]
        exact .inl ⟨_, rfl⟩
      · rcases b.fp a ha with ⟨x, e⟩ | ⟨x, e⟩
        · exact .inl ⟨x, e1 _ _ c e⟩
        · exact .inr ⟨x, e1 _ _ c e⟩
    · refine .inr ⟨[], ?_⟩
      rw [upd_ne pf, upd_same]
/-- the rows of one name change -/
theorem set_rows (b : StB C H s dx r f u d kr kf ku kd its F N B) {its' : List It1} {nm : Str} {l : Addr} {ys : List V} {rs : List (List PyData)} (m : ((Sum.inr nm : Key), V.ref l) ∈ kf) (hF : F l) (eo : ∃ ys0, H l = some (.lst ys0)) (t : Tps H ys (rs.map PyData.tuple)) (sr : SortedR rs) (okr : ∀ r ∈ rs, Atoms r ∧ r.length ≤ 1000) (ln : rs.length ≤ N + 1)
    (m1 : ∀ ds, It1.fact nm ds ∈ its' ↔ ds ∈ rs) (m2 : ∀ x ds, x ≠ nm → (It1.fact x ds ∈ its' ↔ It1.fact x ds ∈ its)) (m3 : ∀ x n, It1.rel x n ∈ its' ↔ It1.rel x n ∈ its) (m4 : ∀ x a c e, It1.rule x a c e ∈ its' ↔ It1.rule x a c e ∈ its) (m5 : ∀ x e, It1.den x e ∈ its' ↔ It1.den x e ∈ its)
    (so : SortedI its') (ok : OkL its') : StB C (upd H l (.lst ys)) s dx r f u d kr kf ku kd its' F (N + 1) B := by
  obtain ⟨ys0, eo⟩ := eo
  have e1 : ∀ a o, a ≠ l → H a = some o → (upd H l (.lst ys)) a = some o := fun a o n e => by
    rw [upd_ne n]
    exact e
  have tk : Tk H (upd H l (.lst ys)) := Tk.lst eo
  obtain ⟨f1, f2, f3, f4, f5⟩ := b.fac
  refine ⟨e1 _ _ (b.ns hF) b.hs, e1 _ _ (lst_ne eo b.hr).symm b.hr, e1 _ _ (lst_ne eo b.hf).symm b.hf, e1 _ _ (lst_ne eo b.hu).symm b.hu, e1 _ _ (lst_ne eo b.hd).symm b.hd, b.fr, b.ff, b.fu, b.fd, b.rf, b.ru, b.rd, b.fu', b.fd', b.ud, b.rel.to (Nat.le_succ _) m3, ⟨f1, Nat.le_succ_of_le f2, fun k v mk => ?_, f4, f5⟩,
    b.rul.to tk (Nat.le_succ _) m4, b.den.to tk (Nat.le_succ _) m5, so, ok, b.fs, fun a ha => ?_⟩
  · obtain ⟨x, l2, rs2, a1, a2, a3, ⟨⟨ys2, e, t2⟩, a4, a5, a6⟩, a7⟩ := f3 k v mk
    by_cases c : l2 = l
    · subst c
      rw [a2] at mk
      have ek := f5 _ _ _ mk m
      rw [ek] at a1
      injection a1 with a1
      subst a1
      exact ⟨nm, l2, rs, ek, a2, a3, ⟨⟨ys, upd_same, t.mono tk⟩, sr, okr, ln⟩, fun ds => (m1 ds).symm⟩
    · have cx : x ≠ nm := fun z => by
        rw [a1, z, a2] at mk
        have q1 := (mem_val f1).mpr mk
        rw [(mem_val f1).mpr m] at q1
        injection q1 with q1
        injection q1 with q1
        exact c q1.symm
      exact ⟨x, l2, rs2, a1, a2, a3, ⟨⟨ys2, e1 _ _ c e, t2.mono tk⟩, a4, a5, Nat.le_succ_of_le a6⟩, fun ds => (a7 ds).trans (m2 x ds cx).symm⟩
  · by_cases c : a = l
    · rw [c, upd_same]
      exact .inr ⟨_, rfl⟩
    · rcases b.fp a ha with ⟨x, e⟩ | ⟨x, e⟩
      · exact .inl ⟨x, e1 _ _ c e⟩
      · exact .inr ⟨x, e1 _ _ c e⟩
/-- one of the four dicts changes -/
theorem StB.keepF (b : StB C H s dx r f u d kr kf ku kd its F N B) {a0 : Addr} {kvs kvs' : List (Key × V)} (h0 : F a0) (e0 : H a0 = some (.dK kvs)) : (upd H a0 (.dK kvs')) s = some (.ins C dx (flds r f u d)) ∧ Tk H (upd H a0 (.dK kvs')) ∧ (∀ l xs, F l → H l = some (.lst xs) → (upd H a0 (.dK kvs')) l = some (.lst xs)) ∧
    ∀ a, F a → (∃ kvs2, (upd H a0 (.dK kvs')) a = some (.dK kvs2)) ∨ ∃ xs, (upd H a0 (.dK kvs')) a = some (.lst xs) := by
  refine ⟨by rw [upd_ne (b.ns h0)]; exact b.hs, fun a xs e => ?_, fun l xs _ e => ?_, fun a ha => ?_⟩
  · rw [upd_ne (fun z => by rw [z, e0] at e; cases e)]
    exact e
  · rw [upd_ne (lst_ne e e0)]
    exact e
  · by_cases c : a = a0
    · rw [c, upd_same]
      exact .inl ⟨_, rfl⟩
    · rw [upd_ne c]
      exact b.fp a ha
theorem set_rel (b : StB C H s dx r f u d kr kf ku kd its F N B) {its' : List It1} {kr' : List (Key × V)} (hr : RelOk kr' its' (N + 1)) (m1 : ∀ x ds, It1.fact x ds ∈ its' ↔ It1.fact x ds ∈ its) (m4 : ∀ x a c e, It1.rule x a c e ∈ its' ↔ It1.rule x a c e ∈ its) (m5 : ∀ x e, It1.den x e ∈ its' ↔ It1.den x e ∈ its)
    (so : SortedI its') (ok : OkL its') : StB C (upd H r (.dK kr')) s dx r f u d kr' kf ku kd its' F (N + 1) B := by
  obtain ⟨k1, k2, k3, k4⟩ := b.keepF (kvs' := kr') b.fr b.hr
  exact ⟨k1, upd_same, by rw [upd_ne b.rf.symm]; exact b.hf, by rw [upd_ne b.ru.symm]; exact b.hu, by rw [upd_ne b.rd.symm]; exact b.hd, b.fr, b.ff, b.fu, b.fd, b.rf, b.ru, b.rd, b.fu', b.fd', b.ud, hr, b.fac.to k2 k3 (fun _ h => h) (Nat.le_succ _) m1 (fun _ => Iff.rfl), b.rul.to k2 (Nat.le_succ _) m4, b.den.to k2 (Nat.le_succ _) m5, so, ok, b.fs, k4⟩
theorem set_rul (b : StB C H s dx r f u d kr kf ku kd its F N B) {its' : List It1} {ku' : List (Key × V)} (hr : RulOk H ku' its' (N + 1)) (m1 : ∀ x ds, It1.fact x ds ∈ its' ↔ It1.fact x ds ∈ its) (m3 : ∀ x n, It1.rel x n ∈ its' ↔ It1.rel x n ∈ its) (m5 : ∀ x e, It1.den x e ∈ its' ↔ It1.den x e ∈ its)
    (so : SortedI its') (ok : OkL its') : StB C (upd H u (.dK ku')) s dx r f u d kr kf ku' kd its' F (N + 1) B := by
  obtain ⟨k1, k2, k3, k4⟩ := b.keepF (kvs' := ku') b.fu b.hu
  exact ⟨k1, by rw [upd_ne b.ru]; exact b.hr, by rw [upd_ne b.fu']; exact b.hf, upd_same, by rw [upd_ne b.ud.symm]; exact b.hd, b.fr, b.ff, b.fu, b.fd, b.rf, b.ru, b.rd, b.fu', b.fd', b.ud, b.rel.to (Nat.le_succ _) m3, b.fac.to k2 k3 (fun _ h => h) (Nat.le_succ _) m1 (fun _ => Iff.rfl), hr.to k2 (Nat.le_refl _) (fun _ _ _ _ => Iff.rfl), b.den.to k2 (Nat.le_succ _) m5, so, ok, b.fs, k4⟩
theorem set_den (b : StB C H s dx r f u d kr kf ku kd its F N B) {its' : List It1} {kd' : List (Key × V)} (hr : DenOk H kd' its' (N + 1)) (m1 : ∀ x ds, It1.fact x ds ∈ its' ↔ It1.fact x ds ∈ its) (m3 : ∀ x n, It1.rel x n ∈ its' ↔ It1.rel x n ∈ its) (m4 : ∀ x a c e, It1.rule x a c e ∈ its' ↔ It1.rule x a c e ∈ its)
    (so : SortedI its') (ok : OkL its') : StB C (upd H d (.dK kd')) s dx r f u d kr kf ku kd' its' F (N + 1) B := by
  obtain ⟨k1, k2, k3, k4⟩ := b.keepF (kvs' := kd') b.fd b.hd
  exact ⟨k1, by rw [upd_ne b.rd]; exact b.hr, by rw [upd_ne b.fd']; exact b.hf, by rw [upd_ne b.ud]; exact b.hu, upd_same, b.fr, b.ff, b.fu, b.fd, b.rf, b.ru, b.rd, b.fu', b.fd', b.ud, b.rel.to (Nat.le_succ _) m3, b.fac.to k2 k3 (fun _ h => h) (Nat.le_succ _) m1 (fun _ => Iff.rfl), b.rul.to k2 (Nat.le_succ _) m4, hr.to k2 (Nat.le_refl _) (fun _ _ => Iff.rfl), so, ok, b.fs, k4⟩
/-- a name's list is forgotten -/
theorem drop_fac (b : StB C H s dx r f u d kr kf ku kd its F N B) {nm : Str} (hn : ¬ hasNm its nm) : StB C (upd H f (.dK (dropK kf (Sum.inr nm : Key)))) s dx r f u d kr (dropK kf (Sum.inr nm : Key)) ku kd its F N (fun x => x ≠ nm ∧ B x) := by
  obtain ⟨k1, k2, k3, k4⟩ := b.keepF (kvs' := dropK kf (Sum.inr nm : Key)) b.ff b.hf
  obtain ⟨f1, f2, f3, f4, f5⟩ := b.fac
  refine ⟨k1, by rw [upd_ne b.rf]; exact b.hr, upd_same, by rw [upd_ne b.fu'.symm]; exact b.hu, by rw [upd_ne b.fd'.symm]; exact b.hd, b.fr, b.ff, b.fu, b.fd, b.rf, b.ru, b.rd, b.fu', b.fd', b.ud, b.rel, ⟨nd_dropK f1, Nat.le_trans (List.length_filter_le _ _) f2, fun k v m => ?_, fun x => ?_, fun k k' v m m' => f5 _ _ _ (mem_dropK.mp m).2 (mem_dropK.mp m').2⟩,
    b.rul.to k2 (Nat.le_refl _) (fun _ _ _ _ => Iff.rfl), b.den.to k2 (Nat.le_refl _) (fun _ _ => Iff.rfl), b.srt, b.ok, b.fs, k4⟩
  · obtain ⟨x, l, rs, a1, a2, a3, ⟨⟨ys, e, t⟩, a4, a5, a6⟩, a7⟩ := f3 k v (mem_dropK.mp m).2
    exact ⟨x, l, rs, a1, a2, a3, ⟨⟨ys, k3 _ _ a3 e, t.mono k2⟩, a4, a5, a6⟩, a7⟩
  · constructor
    · rintro ⟨v, m⟩
      obtain ⟨n, m⟩ := mem_dropK.mp m
      exact ⟨fun z => n (by rw [z]), (f4 x).mp ⟨v, m⟩⟩
    · rintro ⟨n, h⟩
      obtain ⟨v, m⟩ := (f4 x).mpr h
      exact ⟨v, mem_dropK.mpr ⟨fun z => n (by injection z), m⟩⟩
theorem StB.nameB (b : StB C H s dx r f u d kr kf ku kd its F N B) {B' : Str → Prop} (h : ∀ x, B' x ↔ B x) : StB C H s dx r f u d kr kf ku kd its F N B' := by
  obtain ⟨f1, f2, f3, f4, f5⟩ := b.fac
  exact ⟨b.hs, b.hr, b.hf, b.hu, b.hd, b.fr, b.ff, b.fu, b.fd, b.rf, b.ru, b.rd, b.fu', b.fd', b.ud, b.rel, ⟨f1, f2, f3, fun x => (f4 x).trans (h x).symm, f5⟩, b.rul, b.den, b.srt, b.ok, b.fs, b.fp⟩
end
/-! ### the tables behind a put, a take -/
theorem RelOk.put {kr : List (Key × V)} {its : List It1} {N : Nat} (h : RelOk kr its N) (o : OkL its) (nm : Str) (n : Int) : RelOk (putK kr (Sum.inr nm : Key) (.int n)) (putI its (.rel nm n)) (N + 1) := by
  obtain ⟨f1, f2, f3⟩ := h
  refine ⟨nd_put f1 _ _, Nat.le_trans (length_putK _ _ _) (Nat.succ_le_succ f2), fun k v => ?_⟩
  rw [mem_put f1]
  constructor
  · rintro (⟨rfl, rfl⟩ | ⟨c, m⟩)
    · exact ⟨nm, n, rfl, rfl, (put_rel o _ _).mpr (.inl ⟨rfl, rfl⟩)⟩
    · obtain ⟨x, i, rfl, rfl, e⟩ := (f3 k v).mp m
      exact ⟨x, i, rfl, rfl, (put_rel o _ _).mpr (.inr ⟨fun z => c (by rw [z]), e⟩)⟩
  · rintro ⟨x, i, rfl, rfl, e⟩
    rcases (put_rel o _ _).mp e with ⟨rfl, rfl⟩ | ⟨c, e⟩
    · exact .inl ⟨rfl, rfl⟩
    · exact .inr ⟨fun z => c (by injection z), (f3 _ _).mpr ⟨x, i, rfl, rfl, e⟩⟩
theorem RulOk.put {H : Hp} {ku : List (Key × V)} {its : List It1} {N : Nat} (h : RulOk H ku its N) (o : OkL its) {nm rl : Str} {ts bd : PyData} (oi : okI (.rule nm rl ts bd)) {v : V} (tv : Tp H v (.tuple [.str rl, ts, bd])) : RulOk H (putK ku (Sum.inr nm : Key) v) (putI its (.rule nm rl ts bd)) (N + 1) := by
  obtain ⟨f1, f2, f3, f4⟩ := h
  refine ⟨nd_put f1 _ _, Nat.le_trans (length_putK _ _ _) (Nat.succ_le_succ f2), fun k v' m => ?_, fun a b c e m => ?_⟩
  · rcases (mem_put f1).mp m with ⟨rfl, rfl⟩ | ⟨c, m⟩
    · exact ⟨nm, rl, ts, bd, rfl, tv, (put_rule o oi _ _ _ _).mpr (.inl ⟨rfl, rfl, rfl, rfl⟩)⟩
    · obtain ⟨x, a, b, e, rfl, t, z⟩ := f3 k v' m
      exact ⟨x, a, b, e, rfl, t, (put_rule o oi _ _ _ _).mpr (.inr ⟨fun z => c (by rw [z]), z⟩)⟩
  · rcases (put_rule o oi _ _ _ _).mp m with ⟨rfl, _⟩ | ⟨n, m⟩
    · exact ⟨_, (mem_put f1).mpr (.inl ⟨rfl, rfl⟩)⟩
    · obtain ⟨x, z⟩ := f4 _ _ _ _ m
      exact ⟨x, (mem_put f1).mpr (.inr ⟨fun z => n (by injection z), z⟩)⟩
theorem DenOk.put {H : Hp} {kd : List (Key × V)} {its : List It1} {N : Nat} (h : DenOk H kd its N) (o : OkL its) {nm : Str} {bd : PyData} (oi : okI (.den nm bd)) {v : V} (tv : Tp H v bd) : DenOk H (putK kd (Sum.inr nm : Key) v) (putI its (.den nm bd)) (N + 1) := by
  obtain ⟨f1, f2, f3, f4⟩ := h
  refine ⟨nd_put f1 _ _, Nat.le_trans (length_putK _ _ _) (Nat.succ_le_succ f2), fun k v' m => ?_, fun a b m => ?_⟩
  · rcases (mem_put f1).mp m with ⟨rfl, rfl⟩ | ⟨c, m⟩
    · exact ⟨nm, bd, rfl, tv, (put_den o oi _ _).mpr (.inl ⟨rfl, rfl⟩)⟩
    · obtain ⟨x, a, rfl, t, z⟩ := f3 k v' m
      exact ⟨x, a, rfl, t, (put_den o oi _ _).mpr (.inr ⟨fun z => c (by rw [z]), z⟩)⟩
  · rcases (put_den o oi _ _).mp m with ⟨rfl, _⟩ | ⟨n, m⟩
    · exact ⟨_, (mem_put f1).mpr (.inl ⟨rfl, rfl⟩)⟩
    · obtain ⟨x, z⟩ := f4 _ _ m
      exact ⟨x, (mem_put f1).mpr (.inr ⟨fun z => n (by injection z), z⟩)⟩
/-- which items are there behind a take -/
theorem take_mem {l : List It1} {i : It1} (o : OkL l) (oi : okI i) (x : It1) : x ∈ takeI l (keyI i) ↔ x ∈ l ∧ keyI x ≠ keyI i := mem_takeI o (okK_of oi) x
theorem take_other {l : List It1} {i j : It1} (o : OkL l) (oi : okI i) (n : (keyI j).1 ≠ (keyI i).1) : j ∈ takeI l (keyI i) ↔ j ∈ l := by
  rw [take_mem o oi]
  exact ⟨fun h => h.1, fun h => ⟨h, fun z => n (by rw [z])⟩⟩
theorem RelOk.take {kr : List (Key × V)} {its : List It1} {N : Nat} (h : RelOk kr its N) (o : OkL its) (nm : Str) (n0 : Int) : RelOk (dropK kr (Sum.inr nm : Key)) (takeI its (keyI (.rel nm n0))) (N + 1) := by
  obtain ⟨f1, f2, f3⟩ := h
  refine ⟨nd_dropK f1, Nat.le_succ_of_le (Nat.le_trans (List.length_filter_le _ _) f2), fun k v => ?_⟩
  rw [mem_dropK]
  constructor
  · rintro ⟨c, m⟩
    obtain ⟨x, i, rfl, rfl, e⟩ := (f3 k v).mp m
    exact ⟨x, i, rfl, rfl, (take_mem (i := .rel nm n0) o trivial _).mpr ⟨e, fun z => c (by injection z with _ z; injection z with z; rw [z])⟩⟩
  · rintro ⟨x, i, rfl, rfl, e⟩
    obtain ⟨e, z⟩ := (take_mem (i := .rel nm n0) o trivial _).mp e
    exact ⟨fun y => z (by injection y with y; rw [y]; rfl), (f3 _ _).mpr ⟨x, i, rfl, rfl, e⟩⟩
theorem RulOk.take {H : Hp} {ku : List (Key × V)} {its : List It1} {N : Nat} (h : RulOk H ku its N) (o : OkL its) {nm rl : Str} {ts bd : PyData} (oi : okI (.rule nm rl ts bd)) : RulOk H (dropK ku (Sum.inr nm : Key)) (takeI its (keyI (.rule nm rl ts bd))) (N + 1) := by
  obtain ⟨f1, f2, f3, f4⟩ := h
  refine ⟨nd_dropK f1, Nat.le_succ_of_le (Nat.le_trans (List.length_filter_le _ _) f2), fun k v m => ?_, fun a b c e m => ?_⟩
  · obtain ⟨c, m⟩ := mem_dropK.mp m
    obtain ⟨x, a, b, e, rfl, t, z⟩ := f3 k v m
    exact ⟨x, a, b, e, rfl, t, (take_mem o oi _).mpr ⟨z, fun z => c (by injection z with _ z; injection z with z; rw [z])⟩⟩
  · obtain ⟨m, z⟩ := (take_mem o oi _).mp m
    obtain ⟨x, q⟩ := f4 _ _ _ _ m
    exact ⟨x, mem_dropK.mpr ⟨fun y => z (by injection y with y; rw [y]; rfl), q⟩⟩
theorem DenOk.take {H : Hp} {kd : List (Key × V)} {its : List It1} {N : Nat} (h : DenOk H kd its N) (o : OkL its) {nm : Str} {bd : PyData} (oi : okI (.den nm bd)) : DenOk H (dropK kd (Sum.inr nm : Key)) (takeI its (keyI (.den nm bd))) (N + 1) := by
  obtain ⟨f1, f2, f3, f4⟩ := h
  refine ⟨nd_dropK f1, Nat.le_succ_of_le (Nat.le_trans (List.length_filter_le _ _) f2), fun k v m => ?_, fun a b m => ?_⟩
  · obtain ⟨c, m⟩ := mem_dropK.mp m
    obtain ⟨x, a, rfl, t, z⟩ := f3 k v m
    exact ⟨x, a, rfl, t, (take_mem o oi _).mpr ⟨z, fun z => c (by injection z with _ z; injection z with z; rw [z])⟩⟩
  · obtain ⟨m, z⟩ := (take_mem o oi _).mp m
    obtain ⟨x, q⟩ := f4 _ _ m
    exact ⟨x, mem_dropK.mpr ⟨fun y => z (by injection y with y; rw [y]; rfl), q⟩⟩
end KD

namespace KD
open PySem PySem.Spec PyProof.Rows L2 KA
theorem fl_no (r f u d : Addr) {m : Str} (h1 : ¬ m = "relations") (h2 : ¬ m = "facts") (h3 : ¬ m = "rules") (h4 : ¬ m = "denials") : (flds r f u d).lookup m = none := by
  unfold flds
  have e : ∀ (x : Str) (v : V) (l : List (Str × V)), ¬ m = x → ((x, v) :: l).lookup m = l.lookup m := fun x v l n => by
    rw [List.lookup_cons, beq_false_of_ne n]
  rw [e _ _ _ h1, e _ _ _ h2, e _ _ _ h3, e _ _ _ h4]
  rfl
theorem insert_at {α : Type} (ys : List α) (p : Nat) (y : α) : ys.take ((p : Int).toNat) ++ [y] ++ ys.drop ((p : Int).toNat) = ys.take p ++ y :: ys.drop p := by
  rw [Int.toNat_natCast, List.append_assoc]
  rfl
theorem Tps.takeN {H : Hp} : ∀ {ds : List PyData} {vs : List V} (n : Nat), Tps H vs ds → Tps H (vs.take n) (ds.take n)
  | _, _, 0, _ => .nil
  | _, _, n + 1, .nil => .nil
  | _, _, n + 1, .cons a b => .cons a (Tps.takeN n b)
theorem Tps.dropN {H : Hp} : ∀ {ds : List PyData} {vs : List V} (n : Nat), Tps H vs ds → Tps H (vs.drop n) (ds.drop n)
  | _, _, 0, h => h
  | _, _, n + 1, .nil => .nil
  | _, _, n + 1, .cons a b => Tps.dropN n b
theorem Out.put2 {F : Addr → Prop} {H H4 : Hp} {l : Addr} {o : HO} (h : Out F H H4) (c : F l ∨ H l = none) : Out F H (upd H4 l o) := fun a u n e => by
  rw [upd_ne (fun z => ?_)]
  · exact h a u n e
  · rcases c with c | c
    · exact n (by rw [z]; exact c)
    · rw [z, c] at e
      cases e
section
variable {P : Program} {w : World} {K : PySem.W.Frag} {mg : Str → Option Value} {base : Heap} {C : Addr}
abbrev dSA (P : Program) (w : World) (K : PySem.W.Frag) (mg : Str → Option Value) (base : Heap) : Prop := Def P w K mg base "stands_at" 4 ["rows", "at", "row"] spSA
/-- what a method that changes the state promises -/
def After (C : Addr) (s : Addr) (H : Hp) (its' : List It1) (F : Addr → Prop) (N : Nat) (Q : VK) : Prop := ∀ H' F', Out F H H' → (∀ a, F' a → F a ∨ H a = none) → StAt C H' s its' F' (N + 2) → Q .non H'
abbrev sPR : Stmt := inClass (topS 8) 6
theorem scPR : FnScope ["self", "name", "row", "rows", "at"] ["self", "name", "row"] (defScope sPR) := ⟨rfl, rfl, rfl, by decide +kernel, rfl, by decide +kernel, by decide +kernel⟩
def spPR (C : Addr) : Sp := fun vs H Q _ => ∃ (s : Addr) (nm : Str) (v : V) (row : List PyData) (its : List It1) (F : Addr → Prop) (N : Nat), vs = [.ref s, .str nm, v] ∧ StAt C H s its F N ∧ N + 2 ≤ 1000 ∧ Tp H v (.tuple row) ∧ Atoms row ∧ row.length ≤ 1000 ∧ After C s H (putI its (.fact nm row)) F N Q
theorem hu1 {A : Around} {k : Nat} (hr : Room (k + 1) A) : A.units + 1 < cLine := hu_of hr
theorem rows_put {its : List It1} {nm : Str} {row : List PyData} {rs : List (List PyData)} (o : OkL its) (oi : okI (.fact nm row)) (m : ∀ ds, ds ∈ rs ↔ It1.fact nm ds ∈ its) (n : row ∉ rs) (p : Nat) (ds : List PyData) : It1.fact nm ds ∈ putI its (.fact nm row) ↔ ds ∈ rs.take p ++ row :: rs.drop p := by
  rw [put_fact o oi, ← m ds]
  have e : ds ∈ rs ↔ ds ∈ rs.take p ∨ ds ∈ rs.drop p := by
    rw [← List.mem_append, List.take_append_drop]
  rw [e, List.mem_append, List.mem_cons]
  constructor
  · rintro (⟨_, h⟩ | h | h)
    · exact .inr (.inl h)
    · exact .inl h
    · exact .inr (.inr h)
  · rintro (h | h | h)
    · exact .inr (.inl h)
    · exact .inl ⟨rfl, h⟩
    · exact .inr (.inr h)
theorem putI_there {its : List It1} {i : It1} (s : SortedI its) (o : OkL its) (oi : okI i) (h : i ∈ its) : putI its i = its := by
  refine sorted_ext (sorted_putI s o oi) s (ok_putI o oi) o fun x => ?_
  rw [mem_putI o oi]
  constructor
  · rintro (rfl | h)
    · exact h
    · exact h.1
  · intro hx
    by_cases c : keyI x = keyI i
    · exact .inl (sorted_key s o hx h c)
    · exact .inr ⟨hx, c⟩
theorem ok_pr {f : Addr} {fd : FuncData} (F : Fun K "_put_row" "State._put_row" sPR f fd) (T : Cs K mg C) (DP : dPO P w K mg base) (DS : dSA P w K mg base) : FnOk P w K mg base CX0 5 f fd ["self", "name", "row"] (spPR C) := by
  refine F.ok scPR (fun vs H Q E h => ?_) (fun cdv A outer s H vs Q E hr h => ?_)
  · obtain ⟨_, _, _, _, _, _, _, rfl, _⟩ := h
    rfl
  · obtain ⟨s, nm, v, row, its, F, N, rfl, S, hN, tv, ar, lr, q⟩ := h
    have r3 : Room 3 _ := hr.mono (by decide)
    refine ⟨_, pss_cons (ps_set (i := 3) scPR.nd rfl (.inl rfl) (pe_dsetd (pe_fld (pv 0) rfl) (pv 1) (pe_lst pa_nil) ⟨rfl, rfl, rfl, rfl⟩))
      (pss_cons (ps_set (i := 4) scPR.nd rfl (.inl rfl) (pe_def DP r3 (by rfl) (pa_cons (pv 3) (pa_cons (pv 2) pa_nil))))
      (pss_one (ps_if (pt_not (pt_val (pe_def DS hr (by rfl) (pa_cons (pv 3) (pa_cons (pv 4) (pa_cons (pv 2) pa_nil))))))
        (pss_one (ps_expr (pe_bm PySem.F.plainAttrs_list PySem.F.slot_list_insert PySem.F.type_list_insert mt_insert (pv 3) (pa_cons (pv 4) (pa_cons (pv 2) pa_nil))))) pss_nil))), ?_⟩
    obtain ⟨dx, r, f, u, d, kr, kf, ku, kd, b⟩ := id S
    obtain ⟨f1, f2, f3, f4, f5⟩ := id b.fac
    have oi : okI (.fact nm row) := ⟨ar, lr⟩
    refine ⟨.ref s, rfl, s, C, dx, _, _, rfl, b.hs, T.cl, T.nF, fl_fac _ _ _ _, f, rfl, .inl ⟨kf, .of b.hf⟩, .str nm, rfl, (by show 0 ≤ sizeLine; decide), fun p np => ?_⟩
    have nf : f ≠ p := fun z => by
      have e := b.hf
      rw [z, np] at e
      cases e
    have s1 : Same H (upd H p (.lst [])) := same_new np
    refine ⟨kf, Sum.inr nm, (by rw [upd_ne nf]; exact b.hf), rfl, small1000 (by omega), fun v0 hv0 => ?_, fun hn => ?_⟩
    · have m0 := (mem_val f1).mp hv0
      obtain ⟨x, l, rs0, e1, rfl, _, _, _⟩ := f3 _ _ m0
      injection e1 with e1
      subst e1
      have b2 : StB C (upd H p (.lst [])) s dx r f u d kr kf ku kd its F (N + 1) (hasNm its) := ⟨s1 _ _ b.hs, s1 _ _ b.hr, s1 _ _ b.hf, s1 _ _ b.hu, s1 _ _ b.hd, b.fr, b.ff, b.fu, b.fd, b.rf, b.ru, b.rd, b.fu', b.fd', b.ud, b.rel.to (Nat.le_succ _) (fun _ _ => Iff.rfl), b.fac.to (Tk.of s1) (fun _ _ _ e => s1 _ _ e) (fun _ h => h) (Nat.le_succ _) (fun _ _ => Iff.rfl) (fun _ => Iff.rfl), b.rul.to (Tk.of s1) (Nat.le_succ _) (fun _ _ _ _ => Iff.rfl), b.den.to (Tk.of s1) (Nat.le_succ _) (fun _ _ => Iff.rfl), b.srt, b.ok, b.fs, fun a ha => by
        rcases b.fp a ha with ⟨x, e⟩ | ⟨x, e⟩
        · exact .inl ⟨x, s1 _ _ e⟩
        · exact .inr ⟨x, s1 _ _ e⟩⟩
      have m2 := m0
      have hB2 : ∀ y, hasNm its y ↔ y = nm ∨ hasNm its y := fun y => ⟨.inr, fun h => h.elim (fun z => by rw [z]; exact (f4 nm).mp ⟨_, m0⟩) id⟩
      have o2 : Out F H (upd H p (.lst [])) := Out.of s1
      have c2 : ∀ a, F a → F a ∨ H a = none := fun a h => .inl h
      have tk2 : Tk H (upd H p (.lst [])) := Tk.of s1
      revert b2 m2 hB2 o2 c2 tk2
      generalize upd H p (.lst []) = H2
      intro b2 m2 hB2 o2 c2 tk2
      obtain ⟨g1, g2, g3, g4, g5⟩ := id b2.fac
      obtain ⟨x, l, rs, e1, e2, e3, e4, e5⟩ := g3 _ _ m2
      injection e1 with e1
      subst e1
      injection e2 with e2
      subst e2
      refine ⟨.ref _, rfl, v, rfl, _, v, rs, row, N + 1, rfl, e4, by omega, tv.mono tk2, ar, lr, fun at_ H3 s3 h1 h2 h3 => ?_⟩
      obtain ⟨sp1, sp2⟩ := rows_split e4.srt (fun r hr => (e4.ok r hr).1) ar h1 h2 h3
      obtain ⟨⟨ys, el, tr⟩, srt, okr, hN2⟩ := id e4
      refine ⟨.ref _, rfl, .int (at_ : Nat), rfl, v, rfl, _, v, rs, row, N + 1, at_, rfl, ⟨⟨ys, s3 _ _ el, tr.mono (Tk.of s3)⟩, srt, okr, hN2⟩, by omega, (tv.mono tk2).mono (Tk.of s3), ar, lr, fun t H4 s4 ht => ?_⟩
      have s34 : Same _ H4 := s3.trans s4
      have bS : ∀ N3, N + 1 ≤ N3 → _ := fun N3 hN3 => StX.mono ⟨dx, r, f, u, d, kr, _, ku, kd, b2⟩ (Tk.of s34) (fun o e => s34 _ _ e) (fun a o _ e => s34 a o e) hN3
      have hput : ∀ y, hasNm (putI its (.fact nm row)) y ↔ y = nm ∨ hasNm its y := fun y => by
        unfold hasNm
        constructor
        · rintro (⟨n, h⟩ | ⟨ds, h⟩)
          · exact .inr (.inl ⟨n, (put_other b.ok oi (by show (0 : Int) ≠ 1; decide)).mp h⟩)
          · rcases (put_fact b.ok oi _ _).mp h with ⟨z, _⟩ | h
            · exact .inl z
            · exact .inr (.inr ⟨ds, h⟩)
        · rintro (rfl | ⟨n, h⟩ | ⟨ds, h⟩)
          · exact .inr ⟨row, (put_fact b.ok oi _ _).mpr (.inl ⟨rfl, rfl⟩)⟩
          · exact .inl ⟨n, (put_other b.ok oi (by show (0 : Int) ≠ 1; decide)).mpr h⟩
          · exact .inr ⟨ds, (put_fact b.ok oi _ _).mpr (.inr h)⟩
      cases t with
      | true =>
        have hm : row ∈ rs := sp1.mpr (ht.mp rfl)
        refine ⟨_, rfl, iteF ?_⟩
        obtain ⟨dx', r', f', u', d', kr', kf', ku', kd', b4⟩ := bS (N + 2) (Nat.le_succ _)
        have ei : putI its (.fact nm row) = its := putI_there b.srt b.ok oi ((e5 row).mp hm)
        refine q _ _ (o2.trans (Out.of s34)) c2 ?_
        rw [ei] at hput ⊢
        exact ⟨dx', r', f', u', d', kr', kf', ku', kd', b4.nameB (fun y => (hput y).trans (hB2 y).symm)⟩
      | false =>
        have hm : row ∉ rs := fun z => by
          have y := ht.mpr (sp1.mp z)
          cases y
        refine ⟨_, rfl, iteT ?_⟩
        have b4 : StB C H4 s dx r f u d kr _ ku kd its _ (N + 1) _ := ⟨s34 _ _ b2.hs, s34 _ _ b2.hr, s34 _ _ b2.hf, s34 _ _ b2.hu, s34 _ _ b2.hd, b2.fr, b2.ff, b2.fu, b2.fd, b2.rf, b2.ru, b2.rd, b2.fu', b2.fd', b2.ud, b2.rel, b2.fac.to (Tk.of s34) (fun _ _ _ e => s34 _ _ e) (fun _ h => h) (Nat.le_refl _) (fun _ _ => Iff.rfl) (fun _ => Iff.rfl), b2.rul.to (Tk.of s34) (Nat.le_refl _) (fun _ _ _ _ => Iff.rfl), b2.den.to (Tk.of s34) (Nat.le_refl _) (fun _ _ => Iff.rfl), b2.srt, b2.ok, b2.fs, fun a ha => by
          rcases b2.fp a ha with ⟨x, e⟩ | ⟨x, e⟩
          · exact .inl ⟨x, s34 _ _ e⟩
          · exact .inr ⟨x, s34 _ _ e⟩⟩
        refine ⟨.ref _, rfl, .inl ⟨rfl, _, SqL.of (s34 _ _ el)⟩, .int (at_ : Nat), rfl, v, rfl, _, ys, at_, v, rfl, rfl, s34 _ _ el, ?_, Int.natCast_nonneg _, ?_, ?_⟩
        · have := tr.length
          rw [List.length_map] at this
          exact small1000 (by omega)
        · omega
        · have b5 := set_rows (its' := putI its (.fact nm row)) (rs := rs.take at_ ++ row :: rs.drop at_) (ys := ys.take at_ ++ v :: ys.drop at_) b4 m2 e3 ⟨ys, s34 _ _ el⟩ ?_ (sp2 hm) ?_ ?_ (fun ds => rows_put b.ok oi e5 hm at_ ds) ?_ (fun x n => put_other b.ok oi (by show (0 : Int) ≠ 1; decide)) (fun x a c e => put_other b.ok oi (by show (2 : Int) ≠ 1; decide)) (fun x e => put_other b.ok oi (by show (3 : Int) ≠ 1; decide)) (sorted_putI b.srt b.ok oi) (ok_putI b.ok oi)
          · refine q _ _ ((o2.trans (Out.of s34)).put2 (c2 _ e3)) c2 ?_
            · rw [insert_at]
              exact ⟨dx, r, f, u, d, kr, _, ku, kd, b5.nameB (fun y => (hput y).trans (hB2 y).symm)⟩
          · have t4 := tr.mono (Tk.of s34)
            rw [List.map_append, List.map_cons, List.map_take, List.map_drop]
            exact (Tps.takeN at_ t4).append (.cons ((tv.mono tk2).mono (Tk.of s34)) (Tps.dropN at_ t4))
          · intro r0 h0
            rcases List.mem_append.mp h0 with h0 | h0
            · exact okr _ (List.mem_of_mem_take h0)
            · rcases List.mem_cons.mp h0 with h0 | h0
              · rw [h0]
                exact ⟨ar, lr⟩
              · exact okr _ (List.mem_of_mem_drop h0)
          · rw [List.length_append, List.length_cons, List.length_take, List.length_drop]
            omega
          · intro x ds n
            rw [put_fact b.ok oi]
            exact ⟨fun h => h.elim (fun z => absurd z.1 n) id, .inr⟩
    · have b2 := setd_none b np hn (fun ds h => .inr ⟨ds, h⟩)
      have m2 := (mem_put f1 (k := (Sum.inr nm : Key)) (v := V.ref p)).mpr (.inl ⟨rfl, rfl⟩)
      have hB2 : ∀ y, (y = nm ∨ hasNm its y) ↔ y = nm ∨ hasNm its y := fun y => Iff.rfl
      have o2 : Out F H (upd (upd H p (.lst [])) f (.dK (putK kf (Sum.inr nm : Key) (.ref p)))) := (Out.of s1).trans (Out.put b.ff)
      have c2 : ∀ a, (F a ∨ a = p) → F a ∨ H a = none := fun a h => h.elim .inl (fun z => .inr (by rw [z]; exact np))
      have tk2 := o2.tk b.fp
      revert b2 m2 hB2 o2 c2 tk2
      generalize upd (upd H p (.lst [])) f (.dK (putK kf (Sum.inr nm : Key) (.ref p))) = H2
      generalize putK kf (Sum.inr nm : Key) (.ref p) = kf2
      intro b2 m2 hB2 o2 c2 tk2
      obtain ⟨g1, g2, g3, g4, g5⟩ := id b2.fac
      obtain ⟨x, l, rs, e1, e2, e3, e4, e5⟩ := g3 _ _ m2
      injection e1 with e1
      subst e1
      injection e2 with e2
      subst e2
      refine ⟨.ref _, rfl, v, rfl, _, v, rs, row, N + 1, rfl, e4, by omega, tv.mono tk2, ar, lr, fun at_ H3 s3 h1 h2 h3 => ?_⟩
      obtain ⟨sp1, sp2⟩ := rows_split e4.srt (fun r hr => (e4.ok r hr).1) ar h1 h2 h3
      obtain ⟨⟨ys, el, tr⟩, srt, okr, hN2⟩ := id e4
      refine ⟨.ref _, rfl, .int (at_ : Nat), rfl, v, rfl, _, v, rs, row, N + 1, at_, rfl, ⟨⟨ys, s3 _ _ el, tr.mono (Tk.of s3)⟩, srt, okr, hN2⟩, by omega, (tv.mono tk2).mono (Tk.of s3), ar, lr, fun t H4 s4 ht => ?_⟩
      have s34 : Same _ H4 := s3.trans s4
      have bS : ∀ N3, N + 1 ≤ N3 → _ := fun N3 hN3 => StX.mono ⟨dx, r, f, u, d, kr, _, ku, kd, b2⟩ (Tk.of s34) (fun o e => s34 _ _ e) (fun a o _ e => s34 a o e) hN3
      have hput : ∀ y, hasNm (putI its (.fact nm row)) y ↔ y = nm ∨ hasNm its y := fun y => by
        unfold hasNm
        constructor
        · rintro (⟨n, h⟩ | ⟨ds, h⟩)
          · exact .inr (.inl ⟨n, (put_other b.ok oi (by show (0 : Int) ≠ 1; decide)).mp h⟩)
          · rcases (put_fact b.ok oi _ _).mp h with ⟨z, _⟩ | h
            · exact .inl z
            · exact .inr (.inr ⟨ds, h⟩)
        · rintro (rfl | ⟨n, h⟩ | ⟨ds, h⟩)
          · exact .inr ⟨row, (put_fact b.ok oi _ _).mpr (.inl ⟨rfl, rfl⟩)⟩
          · exact .inl ⟨n, (put_other b.ok oi (by show (0 : Int) ≠ 1; decide)).mpr h⟩
          · exact .inr ⟨ds, (put_fact b.ok oi _ _).mpr (.inr h)⟩
      cases t with
      | true =>
        have hm : row ∈ rs := sp1.mpr (ht.mp rfl)
        refine ⟨_, rfl, iteF ?_⟩
        obtain ⟨dx', r', f', u', d', kr', kf', ku', kd', b4⟩ := bS (N + 2) (Nat.le_succ _)
        have ei : putI its (.fact nm row) = its := putI_there b.srt b.ok oi ((e5 row).mp hm)
        refine q _ _ (o2.trans (Out.of s34)) c2 ?_
        rw [ei] at hput ⊢
        exact ⟨dx', r', f', u', d', kr', kf', ku', kd', b4.nameB (fun y => (hput y).trans (hB2 y).symm)⟩
      | false =>
        have hm : row ∉ rs := fun z => by
          have y := ht.mpr (sp1.mp z)
          cases y
        refine ⟨_, rfl, iteT ?_⟩
        have b4 : StB C H4 s dx r f u d kr _ ku kd its _ (N + 1) _ := ⟨s34 _ _ b2.hs, s34 _ _ b2.hr, s34 _ _ b2.hf, s34 _ _ b2.hu, s34 _ _ b2.hd, b2.fr, b2.ff, b2.fu, b2.fd, b2.rf, b2.ru, b2.rd, b2.fu', b2.fd', b2.ud, b2.rel, b2.fac.to (Tk.of s34) (fun _ _ _ e => s34 _ _ e) (fun _ h => h) (Nat.le_refl _) (fun _ _ => Iff.rfl) (fun _ => Iff.rfl), b2.rul.to (Tk.of s34) (Nat.le_refl _) (fun _ _ _ _ => Iff.rfl), b2.den.to (Tk.of s34) (Nat.le_refl _) (fun _ _ => Iff.rfl), b2.srt, b2.ok, b2.fs, fun a ha => by
          rcases b2.fp a ha with ⟨x, e⟩ | ⟨x, e⟩
          · exact .inl ⟨x, s34 _ _ e⟩
          · exact .inr ⟨x, s34 _ _ e⟩⟩
        refine ⟨.ref _, rfl, .inl ⟨rfl, _, SqL.of (s34 _ _ el)⟩, .int (at_ : Nat), rfl, v, rfl, _, ys, at_, v, rfl, rfl, s34 _ _ el, ?_, Int.natCast_nonneg _, ?_, ?_⟩
        · have := tr.length
          rw [List.length_map] at this
          exact small1000 (by omega)
        · omega
        · have b5 := set_rows (its' := putI its (.fact nm row)) (rs := rs.take at_ ++ row :: rs.drop at_) (ys := ys.take at_ ++ v :: ys.drop at_) b4 m2 e3 ⟨ys, s34 _ _ el⟩ ?_ (sp2 hm) ?_ ?_ (fun ds => rows_put b.ok oi e5 hm at_ ds) ?_ (fun x n => put_other b.ok oi (by show (0 : Int) ≠ 1; decide)) (fun x a c e => put_other b.ok oi (by show (2 : Int) ≠ 1; decide)) (fun x e => put_other b.ok oi (by show (3 : Int) ≠ 1; decide)) (sorted_putI b.srt b.ok oi) (ok_putI b.ok oi)
          · refine q _ _ ((o2.trans (Out.of s34)).put2 (c2 _ e3)) c2 ?_
            · rw [insert_at]
              exact ⟨dx, r, f, u, d, kr, _, ku, kd, b5.nameB (fun y => (hput y).trans (hB2 y).symm)⟩
          · have t4 := tr.mono (Tk.of s34)
            rw [List.map_append, List.map_cons, List.map_take, List.map_drop]
            exact (Tps.takeN at_ t4).append (.cons ((tv.mono tk2).mono (Tk.of s34)) (Tps.dropN at_ t4))
          · intro r0 h0
            rcases List.mem_append.mp h0 with h0 | h0
            · exact okr _ (List.mem_of_mem_take h0)
            · rcases List.mem_cons.mp h0 with h0 | h0
              · rw [h0]
                exact ⟨ar, lr⟩
              · exact okr _ (List.mem_of_mem_drop h0)
          · rw [List.length_append, List.length_cons, List.length_take, List.length_drop]
            omega
          · intro x ds n
            rw [put_fact b.ok oi]
            exact ⟨fun h => h.elim (fun z => absurd z.1 n) id, .inr⟩
end
end KD

namespace KD
open PySem PySem.Spec PyProof.Rows L2 KA
theorem inv5t {H : Hp} {v : V} {a b c : Str} {d f : PyData} (t : Tp H v (.tuple [.str a, .str b, .str c, d, f])) : ∃ p, v = .ref p ∧ ∃ y z, H p = some (.tup [.str a, .str b, .str c, y, z]) ∧ Tp H y d ∧ Tp H z f := by
  cases t with
  | tup e r =>
    cases r with
    | cons h1 r => cases r with
      | cons h2 r => cases r with
        | cons h3 r => cases r with
          | cons h4 r => cases r with
            | cons h5 r =>
              cases r
              cases h1
              cases h2
              cases h3
              exact ⟨_, rfl, _, _, e, h4, h5⟩
theorem inv3i {H : Hp} {v : V} {a b : Str} {n : Int} (t : Tp H v (.tuple [.str a, .str b, .int n])) : ∃ p, v = .ref p ∧ H p = some (.tup [.str a, .str b, .int n]) := by
  obtain ⟨p, rfl, x, e, t⟩ := inv3 t
  cases t
  exact ⟨p, rfl, e⟩
section
variable {P : Program} {w : World} {K : PySem.W.Frag} {mg : Str → Option Value} {base : Heap} {C : Addr}
abbrev mPR (P : Program) (w : World) (K : PySem.W.Frag) (mg : Str → Option Value) (base : Heap) (C : Addr) : Prop := MDef P w K mg base C "_put_row" 5 ["self", "name", "row"] (spPR C)
abbrev sPut : Stmt := inClass (topS 8) 5
theorem scPut : FnScope ["self", "item", "name"] ["self", "item"] (defScope sPut) := ⟨rfl, rfl, rfl, by decide +kernel, rfl, by decide +kernel, by decide +kernel⟩
def spPut (C : Addr) : Sp := fun vs H Q _ => ∃ (s : Addr) (v : V) (i : It1) (its : List It1) (F : Addr → Prop) (N : Nat), vs = [.ref s, v] ∧ StAt C H s its F N ∧ N + 2 ≤ 1000 ∧ Tp H v (itD i) ∧ okI i ∧ After C s H (putI its i) F N Q
theorem nm_same {its its' : List It1} (m3 : ∀ x n, It1.rel x n ∈ its' ↔ It1.rel x n ∈ its) (m1 : ∀ x ds, It1.fact x ds ∈ its' ↔ It1.fact x ds ∈ its) (y : Str) : hasNm its' y ↔ hasNm its y := by
  unfold hasNm
  constructor
  · rintro (⟨n, h⟩ | ⟨ds, h⟩)
    · exact .inl ⟨n, (m3 _ _).mp h⟩
    · exact .inr ⟨ds, (m1 _ _).mp h⟩
  · rintro (⟨n, h⟩ | ⟨ds, h⟩)
    · exact .inl ⟨n, (m3 _ _).mpr h⟩
    · exact .inr ⟨ds, (m1 _ _).mpr h⟩
theorem StB.up {H : Hp} {s dx r f u d : Addr} {kr kf ku kd : List (Key × V)} {its : List It1} {F : Addr → Prop} {N N' : Nat} {B : Str → Prop} {H' : Hp} (b : StB C H s dx r f u d kr kf ku kd its F N B) (k : Same H H') (hN : N ≤ N') : StB C H' s dx r f u d kr kf ku kd its F N' B :=
  ⟨k _ _ b.hs, k _ _ b.hr, k _ _ b.hf, k _ _ b.hu, k _ _ b.hd, b.fr, b.ff, b.fu, b.fd, b.rf, b.ru, b.rd, b.fu', b.fd', b.ud, b.rel.to hN (fun _ _ => Iff.rfl), b.fac.to (Tk.of k) (fun _ _ _ e => k _ _ e) (fun _ h => h) hN (fun _ _ => Iff.rfl) (fun _ => Iff.rfl), b.rul.to (Tk.of k) hN (fun _ _ _ _ => Iff.rfl), b.den.to (Tk.of k) hN (fun _ _ => Iff.rfl), b.srt, b.ok, b.fs, fun a ha => by
    rcases b.fp a ha with ⟨x, e⟩ | ⟨x, e⟩
    · exact .inl ⟨x, k _ _ e⟩
    · exact .inr ⟨x, k _ _ e⟩⟩
theorem ok_put {f0 : Addr} {fd : FuncData} (F0 : Fun K "_put" "State._put" sPut f0 fd) (T : Cs K mg C) (MP : mPR P w K mg base C) : FnOk P w K mg base CX0 6 f0 fd ["self", "item"] (spPut C) := by
  refine F0.ok scPut (fun vs H Q E h => ?_) (fun cdv A outer s H vs Q E hr h => ?_)
  · obtain ⟨_, _, _, _, _, _, rfl, _⟩ := h
    rfl
  · obtain ⟨s, v, i, its, F, N, rfl, S, hN, tv, oi, q⟩ := h
    have hu := hu1 hr
    refine ⟨_, pss_cons (ps_set (i := 2) scPut.nd rfl (.inl rfl) (pe_ix ix_tup (pv 1) pe_int (fun _ _ => rfl)))
      (pss_one (ps_if (pt_cmpR op_eq (pe_ix ix_tup (pv 1) pe_int (fun _ _ => rfl)) pe_str (nomark _))
        (pss_cons (ps_dput hu (pe_fld (pv 0) rfl) (pv 2) (pe_ix ix_tup (pv 1) pe_int (fun _ _ => rfl)) rfl)
          (pss_one (ps_expr (pe_dsetd (pe_fld (pv 0) rfl) (pv 2) (pe_lst pa_nil) ⟨rfl, rfl, rfl, rfl⟩))))
        (pss_one (ps_if (pt_cmpR op_eq (pe_ix ix_tup (pv 1) pe_int (fun _ _ => rfl)) pe_str (nomark _))
          (pss_one (ps_expr (pe_mdef MP (pv 0) T.cl hr (pa_cons (pv 2) (pa_cons (pe_ix ix_tup (pv 1) pe_int (fun _ _ => rfl)) pa_nil)))))
          (pss_one (ps_if (pt_cmpR op_eq (pe_ix ix_tup (pv 1) pe_int (fun _ _ => rfl)) pe_str (nomark _))
            (pss_one (ps_dput hu (pe_fld (pv 0) rfl) (pv 2) (pe_tup (pa_cons (pe_ix ix_tup (pv 1) pe_int (fun _ _ => rfl)) (pa_cons (pe_ix ix_tup (pv 1) pe_int (fun _ _ => rfl)) (pa_cons (pe_ix ix_tup (pv 1) pe_int (fun _ _ => rfl)) pa_nil)))) rfl))
            (pss_one (ps_dput hu (pe_fld (pv 0) rfl) (pv 2) (pe_ix ix_tup (pv 1) pe_int (fun _ _ => rfl)) rfl)))))))), ?_⟩
    obtain ⟨dx, r, f, u, d, kr, kf, ku, kd, b⟩ := id S
    have s3 : 3 ≤ sizeLine := by decide
    cases i with
    | rel nm n =>
      obtain ⟨p, rfl, e⟩ := inv3i tv
      refine ⟨.ref p, rfl, p, _, 1, .str nm, rfl, rfl, SqT.of e, rfl, ?_⟩
      refine ⟨.ref p, rfl, p, _, 0, .str "relation", rfl, rfl, SqT.of e, rfl, rfl, _, rfl, yes_if ?_⟩
      refine ⟨.ref p, rfl, p, _, 2, .int n, rfl, rfl, SqT.of e, rfl, .ref s, rfl, s, C, dx, _, _, rfl, b.hs, T.cl, T.nR, fl_rel _ _ _ _, .str nm, rfl, r, _, rfl, DPut.k (k := Sum.inr nm) b.hr (small1000 (by have := b.rel.2.1; omega)), ?_⟩
      have b1 := set_rel (its' := putI its (.rel nm n)) b (b.rel.put b.ok nm n) (fun x ds => put_other b.ok oi (by show (1 : Int) ≠ 0; decide)) (fun x a c e => put_other b.ok oi (by show (2 : Int) ≠ 0; decide)) (fun x e => put_other b.ok oi (by show (3 : Int) ≠ 0; decide)) (sorted_putI b.srt b.ok oi) (ok_putI b.ok oi)
      have o1 : Out F H (upd H r (.dK (putK kr (Sum.inr nm : Key) (.int n)))) := Out.put b.fr
      have n1 : ∀ a, (upd H r (.dK (putK kr (Sum.inr nm : Key) (.int n)))) a = none → H a = none := fun a h => by
        by_cases c : a = r
        · rw [c, upd_same] at h
          cases h
        · rw [upd_ne c] at h
          exact h
      revert b1 o1 n1
      generalize upd H r (.dK (putK kr (Sum.inr nm : Key) (.int n))) = H1
      intro b1 o1 n1
      obtain ⟨f1, f2, f3, f4, f5⟩ := id b1.fac
      refine ⟨.ref s, rfl, s, C, dx, _, _, rfl, b1.hs, T.cl, T.nF, fl_fac _ _ _ _, f, rfl, .inl ⟨kf, .of b1.hf⟩, .str nm, rfl, Nat.zero_le _, fun t nt => ?_⟩
      have nf : f ≠ t := fun z => by
        have e := b1.hf
        rw [z, nt] at e
        cases e
      have st1 : Same H1 (upd H1 t (.lst [])) := same_new nt
      have hput : ∀ y, hasNm (putI its (.rel nm n)) y ↔ y = nm ∨ hasNm its y := fun y => by
        unfold hasNm
        constructor
        · rintro (⟨m, h⟩ | ⟨ds, h⟩)
          · rcases (put_rel b.ok _ _).mp h with ⟨z, _⟩ | ⟨_, h⟩
            · exact .inl z
            · exact .inr (.inl ⟨m, h⟩)
          · exact .inr (.inr ⟨ds, (put_other b.ok oi (by show (1 : Int) ≠ 0; decide)).mp h⟩)
        · rintro (rfl | ⟨m, h⟩ | ⟨ds, h⟩)
          · exact .inl ⟨n, (put_rel b.ok _ _).mpr (.inl ⟨rfl, rfl⟩)⟩
          · by_cases c : y = nm
            · rw [c]
              exact .inl ⟨n, (put_rel b.ok _ _).mpr (.inl ⟨rfl, rfl⟩)⟩
            · exact .inl ⟨m, (put_rel b.ok _ _).mpr (.inr ⟨c, h⟩)⟩
          · exact .inr ⟨ds, (put_other b.ok oi (by show (1 : Int) ≠ 0; decide)).mpr h⟩
      refine ⟨kf, Sum.inr nm, (by rw [upd_ne nf]; exact b1.hf), rfl, small1000 (by omega), fun v0 hv0 => ?_, fun hn => ?_⟩
      · have hm : hasNm its nm := (f4 nm).mp ⟨_, (mem_val f1).mp hv0⟩
        refine q _ F (o1.trans (Out.of st1)) (fun a h => .inl h) ⟨dx, r, f, u, d, _, kf, ku, kd, (b1.up st1 (Nat.le_succ _)).nameB (fun y => (hput y).trans ⟨fun h => h.elim (fun z => by rw [z]; exact hm) id, .inr⟩)⟩
      · have b2 := setd_none b1 nt hn (fun ds h => .inr ⟨ds, (put_other b.ok oi (by show (1 : Int) ≠ 0; decide)).mp h⟩)
        exact q _ _ ((o1.trans (Out.of st1)).put2 (.inl b.ff)) (fun a h => h.elim .inl (fun z => .inr (n1 a (by rw [z]; exact nt)))) ⟨dx, r, f, u, d, _, _, ku, kd, b2.nameB hput⟩
    | fact nm ds =>
      obtain ⟨p, rfl, x3, e, tq⟩ := inv3 tv
      refine ⟨.ref p, rfl, p, _, 1, .str nm, rfl, rfl, SqT.of e, rfl, ?_⟩
      refine ⟨.ref p, rfl, p, _, 0, .str "fact", rfl, rfl, SqT.of e, rfl, rfl, _, rfl, no_if (by decide +kernel) ?_⟩
      refine ⟨.ref p, rfl, p, _, 0, .str "fact", rfl, rfl, SqT.of e, rfl, rfl, _, rfl, yes_if ?_⟩
      refine ⟨.ref s, rfl, s, dx, _, rfl, b.hs, fl_no _ _ _ _ (by decide +kernel) (by decide +kernel) (by decide +kernel) (by decide +kernel), .str nm, rfl, .ref p, rfl, p, _, 2, x3, rfl, rfl, SqT.of e, rfl, ?_⟩
      exact ⟨s, nm, x3, ds, its, F, N, rfl, S, hN, tq, oi.1, oi.2, q⟩
    | rule nm rl ts bd =>
      obtain ⟨p, rfl, y, z, e, ty, tz⟩ := inv5t tv
      refine ⟨.ref p, rfl, p, _, 1, .str nm, rfl, rfl, SqT.of e, rfl, ?_⟩
      refine ⟨.ref p, rfl, p, _, 0, .str "rule", rfl, rfl, SqT.of e, rfl, rfl, _, rfl, no_if (by decide +kernel) ?_⟩
      refine ⟨.ref p, rfl, p, _, 0, .str "rule", rfl, rfl, SqT.of e, rfl, rfl, _, rfl, no_if (by decide +kernel) ?_⟩
      refine ⟨.ref p, rfl, p, _, 0, .str "rule", rfl, rfl, SqT.of e, rfl, rfl, _, rfl, yes_if ?_⟩
      refine ⟨.ref p, rfl, p, _, 2, .str rl, rfl, rfl, SqT.of e, rfl, .ref p, rfl, p, _, 3, y, rfl, rfl, SqT.of e, rfl, .ref p, rfl, p, _, 4, z, rfl, rfl, SqT.of e, rfl, s3, fun t nt => ?_⟩
      have st1 : Same H (upd H t (.tup [.str rl, y, z])) := same_new nt
      have b1 := b.up st1 (Nat.le_refl _)
      have tt : Tp (upd H t (.tup [.str rl, y, z])) (.ref t) (.tuple [.str rl, ts, bd]) := .tup upd_same (.cons (.str rl) (.cons (ty.mono (Tk.of st1)) (.cons (tz.mono (Tk.of st1)) .nil)))
      refine ⟨.ref s, rfl, s, C, dx, _, _, rfl, b1.hs, T.cl, T.nU, fl_rul _ _ _ _, .str nm, rfl, u, _, rfl, DPut.k (k := Sum.inr nm) b1.hu (small1000 (by have := b.rul.2.1; omega)), ?_⟩
      have m1 : ∀ x ds, It1.fact x ds ∈ putI its (.rule nm rl ts bd) ↔ It1.fact x ds ∈ its := fun x ds => put_other b.ok oi (by show (1 : Int) ≠ 2; decide)
      have m3 : ∀ x n, It1.rel x n ∈ putI its (.rule nm rl ts bd) ↔ It1.rel x n ∈ its := fun x n => put_other b.ok oi (by show (0 : Int) ≠ 2; decide)
      have b2 := set_rul (its' := putI its (.rule nm rl ts bd)) b1 (b1.rul.put b.ok oi tt) m1 m3 (fun x e => put_other b.ok oi (by show (3 : Int) ≠ 2; decide)) (sorted_putI b.srt b.ok oi) (ok_putI b.ok oi)
      exact q _ F ((Out.of st1).trans (Out.put b.fu)) (fun a h => .inl h) ⟨dx, r, f, u, d, _, _, _, _, (b2.up (Same.refl _) (Nat.le_succ _)).nameB (nm_same m3 m1)⟩
    | den nm bd =>
      obtain ⟨p, rfl, y, e, ty⟩ := inv3 tv
      refine ⟨.ref p, rfl, p, _, 1, .str nm, rfl, rfl, SqT.of e, rfl, ?_⟩
      refine ⟨.ref p, rfl, p, _, 0, .str "denial", rfl, rfl, SqT.of e, rfl, rfl, _, rfl, no_if (by decide +kernel) ?_⟩
      refine ⟨.ref p, rfl, p, _, 0, .str "denial", rfl, rfl, SqT.of e, rfl, rfl, _, rfl, no_if (by decide +kernel) ?_⟩
      refine ⟨.ref p, rfl, p, _, 0, .str "denial", rfl, rfl, SqT.of e, rfl, rfl, _, rfl, no_if (by decide +kernel) ?_⟩
      refine ⟨.ref p, rfl, p, _, 2, y, rfl, rfl, SqT.of e, rfl, .ref s, rfl, s, C, dx, _, _, rfl, b.hs, T.cl, T.nD, fl_den _ _ _ _, .str nm, rfl, d, _, rfl, DPut.k (k := Sum.inr nm) b.hd (small1000 (by have := b.den.2.1; omega)), ?_⟩
      have m1 : ∀ x ds, It1.fact x ds ∈ putI its (.den nm bd) ↔ It1.fact x ds ∈ its := fun x ds => put_other b.ok oi (by show (1 : Int) ≠ 3; decide)
      have m3 : ∀ x n, It1.rel x n ∈ putI its (.den nm bd) ↔ It1.rel x n ∈ its := fun x n => put_other b.ok oi (by show (0 : Int) ≠ 3; decide)
      have b2 := set_den (its' := putI its (.den nm bd)) b (b.den.put b.ok oi ty) m1 m3 (fun x a c e => put_other b.ok oi (by show (2 : Int) ≠ 3; decide)) (sorted_putI b.srt b.ok oi) (ok_putI b.ok oi)
      exact q _ F (Out.put b.fd) (fun a h => .inl h) ⟨dx, r, f, u, d, _, _, _, _, (b2.up (Same.refl _) (Nat.le_succ _)).nameB (nm_same m3 m1)⟩
end
end KD

namespace KD
open PySem PySem.Spec PyProof.Rows L2 KA
/-- == of plain data over lists and tuples, the second not deep -/
def rEqL (K : PySem.W.Frag) : R2 := fun x y H Q => ∃ d e, Dp K H x d ∧ Dp K H y e ∧ d.plain = true ∧ e.plain = true ∧ small e ∧ Q (.bl (PyData.eqv d e)) H
theorem op_eqL {X : Cx} (hu : X.A.units + 64 < cLine) : OpR X (compareOp .Eq) (rEqL X.K) := by
  intro pins s σ H x y v u Q I rx ry h
  obtain ⟨d, e, hd, he, pd, pe, se, q⟩ := h
  obtain ⟨as, r1⟩ := Dp.reads I d x v hd rx
  obtain ⟨bs, r2⟩ := Dp.reads I e y u he ry
  refine SeqAt.eq_plain r1 r2 pd pe ?_ ⟨.bl _, H, I, rfl, q⟩
  have h1 : e.depth ≤ 64 := se
  have h2 : min d.depth e.depth ≤ e.depth := Nat.min_le_right _ _
  omega
theorem eqv_nil (rs : List PyData) : PyData.eqv (.list rs) (.list []) = decide (rs = []) := by
  cases rs with
  | nil => rfl
  | cons a r => rfl
theorem takeI_not {its : List It1} {i : It1} (s : SortedI its) (o : OkL its) (oi : okI i) (h : ∀ j ∈ its, keyI j ≠ keyI i) : takeI its (keyI i) = its :=
  sorted_ext (sorted_takeI s) s (ok_takeI o) o fun x => by
    rw [take_mem o oi]
    exact ⟨fun h => h.1, fun hx => ⟨hx, h x hx⟩⟩
theorem take_fact {its : List It1} {nm : Str} {row : List PyData} (o : OkL its) (oi : okI (.fact nm row)) (a : Str) (ds : List PyData) : It1.fact a ds ∈ takeI its (keyI (.fact nm row)) ↔ It1.fact a ds ∈ its ∧ ¬ (a = nm ∧ ds = row) := by
  rw [take_mem o oi]
  constructor
  · rintro ⟨h, n⟩
    exact ⟨h, fun z => n (by rw [z.1, z.2])⟩
  · rintro ⟨h, n⟩
    exact ⟨h, fun z => n (by injection z with _ z; injection z with z1 z2; exact ⟨z1, z2⟩)⟩
section
variable {P : Program} {w : World} {K : PySem.W.Frag} {mg : Str → Option Value} {base : Heap} {C : Addr}
abbrev sFB : Stmt := inClass (topS 8) 9
theorem scFB : FnScope ["self", "name"] ["self", "name"] (defScope sFB) := ⟨rfl, rfl, rfl, by decide +kernel, rfl, by decide +kernel, by decide +kernel⟩
def spFB (C : Addr) : Sp := fun vs H Q _ => ∃ (s : Addr) (nm : Str) (its : List It1) (F : Addr → Prop) (N : Nat) (B : Str → Prop), vs = [.ref s, .str nm] ∧ StX C H s its F N B ∧ N ≤ 1000 ∧ (∀ y, y ≠ nm → (B y ↔ hasNm its y)) ∧ (hasNm its nm → B nm) ∧
  ∀ H', Out F H H' → StAt C H' s its F N → Q .non H'
theorem ok_fb {f0 : Addr} {fd : FuncData} (F0 : Fun K "_forget_bare" "State._forget_bare" sFB f0 fd) (T : Cs K mg C) : FnOk P w K mg base CX0 1 f0 fd ["self", "name"] (spFB C) := by
  refine F0.ok scFB (fun vs H Q E h => ?_) (fun cdv A outer s H vs Q E hr h => ?_)
  · obtain ⟨_, _, _, _, _, _, rfl, _⟩ := h
    rfl
  · obtain ⟨s, nm, its, F, N, B, rfl, S, hN, hB1, hB2, q⟩ := h
    have hu := hu_of hr
    refine ⟨_, pss_one (ps_if (PW.pt (pw_and (pt_cmp (pc_dnotin hu (pv 1) (pe_fld (pv 0) rfl))) (pw_and1 (pt_cmpR (op_eqL hr.units) (pe_dget1 hu (pe_fld (pv 0) rfl) (pv 1) ⟨rfl, rfl, rfl, rfl⟩) (pe_lst pa_nil) (nomark _)))))
      (pss_one (ps_ddel (pe_fld (pv 0) rfl) (pv 1))) pss_nil), ?_⟩
    obtain ⟨dx, r, f, u, d, kr, kf, ku, kd, b⟩ := id S
    obtain ⟨f1, f2, f3, f4, f5⟩ := id b.fac
    obtain ⟨r1, r2, r3⟩ := id b.rel
    refine ⟨.str nm, rfl, .ref s, rfl, s, C, dx, _, _, rfl, b.hs, T.cl, T.nR, fl_rel _ _ _ _, r, _, rfl, DGet.k (k := Sum.inr nm) b.hr, _, rfl, ?_⟩
    have nm_of : hasNm its nm → StAt C H s its F N := fun h => ⟨dx, r, f, u, d, kr, kf, ku, kd, b.nameB fun y => by
      by_cases c : y = nm
      · rw [c]
        exact ⟨hB2, fun _ => h⟩
      · exact (hB1 y c).symm⟩
    cases e : valV kr (Sum.inr nm : Key) with
    | some v =>
      refine iteF (iteF ?_)
      obtain ⟨x, n, e1, _, h⟩ := (r3 _ _).mp ((mem_val r1).mp e)
      injection e1 with e1
      rw [← e1] at h
      exact q H (Out.refl _ _) (nm_of (.inl ⟨n, h⟩))
    | none =>
      have nor : ∀ n, It1.rel nm n ∉ its := fun n h => (val_none r1).mp e _ ((r3 _ _).mpr ⟨nm, n, rfl, rfl, h⟩)
      refine iteT ?_
      refine ⟨.ref s, rfl, s, C, dx, _, _, rfl, b.hs, T.cl, T.nF, fl_fac _ _ _ _, f, rfl, .inl ⟨kf, .of b.hf⟩, .str nm, rfl, _, DGet.k (k := Sum.inr nm) b.hf, Nat.zero_le _, fun t nt => ?_⟩
      have st1 : Same H (upd H t (.lst [])) := same_new nt
      have b1 := b.up st1 (Nat.le_refl _)
      have dl : ∀ xs ds l, (upd H t (.lst [])) l = some (.lst xs) → Tps (upd H t (.lst [])) xs ds → Dp K (upd H t (.lst [])) (.ref l) (.list ds) := fun xs ds l e t => .lst (SqL.of e) t.dp
      cases e2 : valV kf (Sum.inr nm : Key) with
      | none =>
        refine ⟨.none, .list [], .non, dl [] [] t upd_same .nil, rfl, rfl, (by show 1 ≤ 64; decide), _, rfl, iteF ?_⟩
        have nB : ¬ B nm := fun h => by
          obtain ⟨v, m⟩ := (f4 nm).mpr h
          exact (val_none f1).mp e2 v m
        refine q _ (Out.of st1) ⟨dx, r, f, u, d, kr, kf, ku, kd, b1.nameB fun y => ?_⟩
        by_cases c : y = nm
        · rw [c]
          exact ⟨hB2, fun h => absurd h nB⟩
        · exact (hB1 y c).symm
      | some v =>
        obtain ⟨x, l, rs, e3, rfl, e4, e5, e6⟩ := f3 _ _ ((mem_val f1).mp e2)
        injection e3 with e3
        subst e3
        obtain ⟨⟨ys, el, tr⟩, _⟩ := id e5
        have t1 := tr.mono (Tk.of st1)
        refine ⟨.list (rs.map PyData.tuple), .list [], dl ys _ l (st1 _ _ el) t1, dl [] [] t upd_same .nil, t1.plain, rfl, (by show 1 ≤ 64; decide), ?_⟩
        rw [eqv_nil]
        refine ⟨_, rfl, ite2 (fun c => ?_) (fun c => ?_)⟩
        · have c := of_decide_eq_true c
          have nof : ¬ hasNm its nm := by
            rintro (⟨n, h⟩ | ⟨ds, h⟩)
            · exact nor n h
            · rw [List.map_eq_nil_iff.mp c] at e6
              have := (e6 ds).mpr h
              cases this
          refine ⟨.ref s, rfl, s, C, dx, _, _, rfl, b1.hs, T.cl, T.nF, fl_fac _ _ _ _, .str nm, rfl, f, kf, Sum.inr nm, rfl, b1.hf, rfl, (by rw [e2]; rfl), ?_⟩
          have b2 := drop_fac b1 nof
          refine q _ ((Out.of st1).put2 (.inl b.ff)) ⟨dx, r, f, u, d, kr, _, ku, kd, b2.nameB fun y => ?_⟩
          constructor
          · intro h
            have c : y ≠ nm := fun z => nof (by rw [← z]; exact h)
            exact ⟨c, (hB1 y c).mpr h⟩
          · exact fun h => (hB1 y h.1).mp h.2
        · have hm : hasNm its nm := by
            cases rs with
            | nil => exact (c rfl).elim
            | cons a rr => exact .inr ⟨a, (e6 a).mp List.mem_cons_self⟩
          exact q _ (Out.of st1) ((nm_of hm).same st1)
abbrev mFB (P : Program) (w : World) (K : PySem.W.Frag) (mg : Str → Option Value) (base : Heap) (C : Addr) : Prop := MDef P w K mg base C "_forget_bare" 1 ["self", "name"] (spFB C)
abbrev sTR : Stmt := inClass (topS 8) 8
theorem scTR : FnScope ["self", "name", "row", "rows", "at"] ["self", "name", "row"] (defScope sTR) := ⟨rfl, rfl, rfl, by decide +kernel, rfl, by decide +kernel, by decide +kernel⟩
def spTR (C : Addr) : Sp := fun vs H Q _ => ∃ (s : Addr) (nm : Str) (v : V) (row : List PyData) (its : List It1) (F : Addr → Prop) (N : Nat), vs = [.ref s, .str nm, v] ∧ StAt C H s its F N ∧ N + 2 ≤ 1000 ∧ Tp H v (.tuple row) ∧ Atoms row ∧ row.length ≤ 1000 ∧ After C s H (takeI its (keyI (.fact nm row))) F N Q
theorem rows_del {its : List It1} {nm : Str} {row : List PyData} {rs : List (List PyData)} {p : Nat} (o : OkL its) (oi : okI (.fact nm row)) (m : ∀ ds, ds ∈ rs ↔ It1.fact nm ds ∈ its) (sr : SortedR rs) (ok : ∀ r ∈ rs, Atoms r) (hp : p < rs.length) (e : rs[p] = row) (ds : List PyData) : It1.fact nm ds ∈ takeI its (keyI (.fact nm row)) ↔ ds ∈ rs.eraseIdx p := by
  have ar : Atoms row := oi.1
  have ndup : rs.Nodup := List.Pairwise.imp_of_mem (fun {a b} ha hb h z => by
    rw [z] at h
    have := (rord_zero (ok b hb) (ok b hb)).mpr rfl
    omega) sr
  rw [take_fact o oi, ← m ds]
  have e1 : rs = rs.take p ++ row :: rs.drop (p + 1) := by
    rw [← e, ← List.drop_eq_getElem_cons hp, List.take_append_drop]
  have n1 : (rs.take p ++ row :: rs.drop (p + 1)).Nodup := by
    rw [← e1]
    exact ndup
  obtain ⟨_, n2, n3⟩ := List.nodup_append.mp n1
  have n4 := (List.nodup_cons.mp n2).1
  have hm : ds ∈ rs ↔ ds ∈ rs.take p ∨ ds = row ∨ ds ∈ rs.drop (p + 1) := by
    conv => lhs; rw [e1]
    rw [List.mem_append, List.mem_cons]
  rw [hm, List.eraseIdx_eq_take_drop_succ, List.mem_append]
  constructor
  · rintro ⟨h | h | h, n⟩
    · exact .inl h
    · exact absurd ⟨rfl, h⟩ n
    · exact .inr h
  · rintro (h | h)
    · exact ⟨.inl h, fun z => n3 ds h row List.mem_cons_self z.2⟩
    · exact ⟨.inr (.inr h), fun z => n4 (by rw [← z.2]; exact h)⟩
theorem ok_tr {f0 : Addr} {fd : FuncData} (F0 : Fun K "_take_row" "State._take_row" sTR f0 fd) (T : Cs K mg C) (DP : dPO P w K mg base) (DS : dSA P w K mg base) (MF : mFB P w K mg base C) : FnOk P w K mg base CX0 5 f0 fd ["self", "name", "row"] (spTR C) := by
  refine F0.ok scTR (fun vs H Q E h => ?_) (fun cdv A outer s H vs Q E hr h => ?_)
  · obtain ⟨_, _, _, _, _, _, _, rfl, _⟩ := h
    rfl
  · obtain ⟨s, nm, v, row, its, F, N, rfl, S, hN, tv, ar, lr, q⟩ := h
    have r3 : Room 3 _ := hr.mono (by decide)
    have r1 : Room 1 _ := hr.mono (by decide)
    have hu := hu_of hr
    have oi : okI (.fact nm row) := ⟨ar, lr⟩
    refine ⟨_, pss_cons (ps_set (i := 3) scTR.nd rfl (.inl rfl) (pe_dget2 hu (pe_fld (pv 0) rfl) (pv 1) (pe_lst pa_nil) ⟨rfl, rfl, rfl, rfl⟩))
      (pss_cons (ps_set (i := 4) scTR.nd rfl (.inl rfl) (pe_def DP r3 (by rfl) (pa_cons (pv 3) (pa_cons (pv 2) pa_nil))))
      (pss_cons (ps_if (pt_val (pe_def DS hr (by rfl) (pa_cons (pv 3) (pa_cons (pv 4) (pa_cons (pv 2) pa_nil))))) (pss_one (ps_delL (pv 3) (pv 4))) pss_nil)
      (pss_one (ps_expr (pe_mdef MF (pv 0) T.cl r1 (pa_cons (pv 1) pa_nil)))))), ?_⟩
    obtain ⟨dx, r, f, u, d, kr, kf, ku, kd, b⟩ := id S
    obtain ⟨f1, f2, f3, f4, f5⟩ := id b.fac
    have nol : ∀ m, ¬ m = ("relations" : Str) → True := fun _ _ => trivial
    refine ⟨.ref s, rfl, s, C, dx, _, _, rfl, b.hs, T.cl, T.nF, fl_fac _ _ _ _, f, rfl, .inl ⟨kf, .of b.hf⟩, .str nm, rfl, Nat.zero_le _, fun t nt => ?_⟩
    have st1 : Same H (upd H t (.lst [])) := same_new nt
    have b1 := b.up st1 (Nat.le_refl _)
    have tv1 := tv.mono (Tk.of st1)
    refine ⟨_, DGet.k (k := Sum.inr nm) b1.hf, ?_⟩
    cases e2 : valV kf (Sum.inr nm : Key) with
    | none =>
      have nof : ∀ ds, It1.fact nm ds ∉ its := fun ds h => by
        obtain ⟨v, m⟩ := (f4 nm).mpr (.inr ⟨ds, h⟩)
        exact (val_none f1).mp e2 v m
      have R : RowsAt (upd H t (.lst [])) t [] N := ⟨⟨[], upd_same, .nil⟩, List.Pairwise.nil, (fun r h => by cases h), Nat.zero_le _⟩
      refine ⟨.ref t, rfl, v, rfl, t, v, [], row, N, rfl, R, by omega, tv1, ar, lr, fun at_ H3 s3 h1 h2 h3 => ?_⟩
      refine ⟨.ref t, rfl, .int (at_ : Nat), rfl, v, rfl, t, v, [], row, N, at_, rfl, ⟨⟨[], s3 _ _ upd_same, .nil⟩, List.Pairwise.nil, (fun r h => by cases h), Nat.zero_le _⟩, by omega, tv1.mono (Tk.of s3), ar, lr, fun c H4 s4 ht => ?_⟩
      have cf : c = false := by
        cases c with
        | false => rfl
        | true =>
          obtain ⟨h, _⟩ := ht.mp rfl
          exact absurd h (Nat.not_lt_zero _)
      subst cf
      refine ⟨_, rfl, iteF ?_⟩
      have s14 : Same H H4 := st1.trans (s3.trans s4)
      have b4 := b.up s14 (Nat.le_refl _)
      have ei : takeI its (keyI (.fact nm row)) = its := takeI_not b.srt b.ok oi fun j hj z => by
        cases j with
        | rel x n => injection z with z; cases z
        | fact x ds =>
          injection z with _ z
          injection z with z
          rw [z] at hj
          exact nof _ hj
        | rule x rl ts bd => injection z with z; cases z
        | den x bd => injection z with z; cases z
      refine ⟨.ref s, rfl, s, dx, _, rfl, b4.hs, fl_no _ _ _ _ (by decide +kernel) (by decide +kernel) (by decide +kernel) (by decide +kernel), .str nm, rfl, s, nm, its, F, N, hasNm its, rfl, ⟨dx, r, f, u, d, kr, kf, ku, kd, b4⟩, by omega, fun _ _ => Iff.rfl, id, fun H5 o5 S5 => ?_⟩
      refine q H5 F ((Out.of s14).trans o5) (fun a h => .inl h) ?_
      rw [ei]
      exact S5.mono (Tk.refl _) (fun _ h => h) (fun _ _ _ h => h) (by omega)
    | some v0 =>
      obtain ⟨x, l, rs, e3, rfl, e4, e5, e6⟩ := f3 _ _ ((mem_val f1).mp e2)
      injection e3 with e3
      subst e3
      obtain ⟨⟨ys, el, tr⟩, srt, okr, hN2⟩ := id e5
      refine ⟨.ref l, rfl, v, rfl, l, v, rs, row, N, rfl, ⟨⟨ys, st1 _ _ el, tr.mono (Tk.of st1)⟩, srt, okr, hN2⟩, by omega, tv1, ar, lr, fun at_ H3 s3 h1 h2 h3 => ?_⟩
      obtain ⟨sp1, sp2⟩ := rows_split srt (fun r hr => (okr r hr).1) ar h1 h2 h3
      have s13 := st1.trans s3
      refine ⟨.ref l, rfl, .int (at_ : Nat), rfl, v, rfl, l, v, rs, row, N, at_, rfl, ⟨⟨ys, s13 _ _ el, tr.mono (Tk.of s13)⟩, srt, okr, hN2⟩, by omega, tv1.mono (Tk.of s3), ar, lr, fun c H4 s4 ht => ?_⟩
      have s14 : Same H H4 := s13.trans s4
      have b4 := b.up s14 (Nat.le_refl _)
      have lys : ys.length = rs.length := by rw [tr.length, List.length_map]
      cases c with
      | true =>
        obtain ⟨hp, ep⟩ := ht.mp rfl
        refine ⟨_, rfl, iteT ?_⟩
        have m0 : ((Sum.inr nm : Key), V.ref l) ∈ kf := (mem_val f1).mp e2
        have b5 := set_rows (its' := takeI its (keyI (.fact nm row))) (rs := rs.eraseIdx at_) (ys := ys.eraseIdx at_) b4 m0 e4 ⟨ys, s14 _ _ el⟩ ?_ (List.Pairwise.sublist (List.eraseIdx_sublist _ _) srt) (fun r0 h0 => okr r0 (List.mem_of_mem_eraseIdx h0)) ?_ (fun ds => rows_del b.ok oi e6 srt (fun r hr => (okr r hr).1) hp ep ds) ?_ (fun x n => take_other b.ok oi (by show (0 : Int) ≠ 1; decide)) (fun x a c e => take_other b.ok oi (by show (2 : Int) ≠ 1; decide)) (fun x e => take_other b.ok oi (by show (3 : Int) ≠ 1; decide)) (sorted_takeI b.srt) (ok_takeI b.ok)
        · refine ⟨.ref l, rfl, .int (at_ : Nat), rfl, l, ys, at_, at_, rfl, rfl, s14 _ _ el, by omega, by omega, ?_, ?_⟩
          · rw [seqIndex_of (by omega) (by omega), Int.toNat_natCast]
          · refine ⟨.ref s, rfl, s, dx, _, rfl, b5.hs, fl_no _ _ _ _ (by decide +kernel) (by decide +kernel) (by decide +kernel) (by decide +kernel), .str nm, rfl, s, nm, takeI its (keyI (.fact nm row)), F, N + 1, hasNm its, rfl, ⟨dx, r, f, u, d, kr, kf, ku, kd, b5⟩, by omega, fun y n => ?_, fun h => ?_, fun H5 o5 S5 => ?_⟩
            · unfold hasNm
              constructor
              · rintro (⟨n1, h⟩ | ⟨ds, h⟩)
                · exact .inl ⟨n1, (take_other b.ok oi (by show (0 : Int) ≠ 1; decide)).mpr h⟩
                · exact .inr ⟨ds, (take_fact b.ok oi _ _).mpr ⟨h, fun z => n z.1⟩⟩
              · rintro (⟨n1, h⟩ | ⟨ds, h⟩)
                · exact .inl ⟨n1, (take_other b.ok oi (by show (0 : Int) ≠ 1; decide)).mp h⟩
                · exact .inr ⟨ds, ((take_fact b.ok oi _ _).mp h).1⟩
            · rcases h with ⟨n1, h⟩ | ⟨ds, h⟩
              · exact .inl ⟨n1, (take_other b.ok oi (by show (0 : Int) ≠ 1; decide)).mp h⟩
              · exact .inr ⟨ds, ((take_fact b.ok oi _ _).mp h).1⟩
            · exact q H5 F (((Out.of s14).put2 (.inl e4)).trans o5) (fun a h => .inl h) (S5.mono (Tk.refl _) (fun _ h => h) (fun _ _ _ h => h) (by omega))
        · have t4 := tr.mono (Tk.of s14)
          rw [List.eraseIdx_eq_take_drop_succ, List.eraseIdx_eq_take_drop_succ, List.map_append, List.map_take, List.map_drop]
          exact (Tps.takeN _ t4).append (Tps.dropN _ t4)
        · exact Nat.le_succ_of_le (Nat.le_trans (List.length_eraseIdx_le _ _) hN2)
        · intro x ds n
          rw [take_fact b.ok oi]
          exact ⟨fun h => h.1, fun h => ⟨h, fun z => n z.1⟩⟩
      | false =>
        refine ⟨_, rfl, iteF ?_⟩
        have hm : row ∉ rs := fun z => by
          have y := ht.mpr (sp1.mp z)
          cases y
        have ei : takeI its (keyI (.fact nm row)) = its := takeI_not b.srt b.ok oi fun j hj z => by
          cases j with
          | rel x n => injection z with z; cases z
          | fact x ds =>
            injection z with _ z
            injection z with z z2
            rw [z, z2] at hj
            exact hm ((e6 _).mpr hj)
          | rule x rl ts bd => injection z with z; cases z
          | den x bd => injection z with z; cases z
        refine ⟨.ref s, rfl, s, dx, _, rfl, b4.hs, fl_no _ _ _ _ (by decide +kernel) (by decide +kernel) (by decide +kernel) (by decide +kernel), .str nm, rfl, s, nm, its, F, N, hasNm its, rfl, ⟨dx, r, f, u, d, kr, kf, ku, kd, b4⟩, by omega, fun _ _ => Iff.rfl, id, fun H5 o5 S5 => ?_⟩
        refine q H5 F ((Out.of s14).trans o5) (fun a h => .inl h) ?_
        rw [ei]
        exact S5.mono (Tk.refl _) (fun _ h => h) (fun _ _ _ h => h) (by omega)
end
end KD

namespace KD
open PySem PySem.Spec PyProof.Rows L2 KA
theorem invK {H : Hp} {v : V} {s : Int} {nm : Str} {ds : List PyData} (t : Tp H v (kd s nm ds)) : ∃ p, v = .ref p ∧ ∃ x, H p = some (.tup [.int s, .str nm, x]) ∧ Tp H x (.tuple ds) := by
  cases t with
  | tup e r =>
    cases r with
    | cons h1 r => cases r with
      | cons h2 r => cases r with
        | cons h3 r =>
          cases r
          cases h1
          cases h2
          exact ⟨_, rfl, _, e, h3⟩
section
variable {P : Program} {w : World} {K : PySem.W.Frag} {mg : Str → Option Value} {base : Heap} {C : Addr}
abbrev mTR (P : Program) (w : World) (K : PySem.W.Frag) (mg : Str → Option Value) (base : Heap) (C : Addr) : Prop := MDef P w K mg base C "_take_row" 5 ["self", "name", "row"] (spTR C)
abbrev sTake : Stmt := inClass (topS 8) 7
theorem scTake : FnScope ["self", "key", "sort", "name", "row"] ["self", "key"] (defScope sTake) := ⟨rfl, rfl, rfl, by decide +kernel, rfl, by decide +kernel, by decide +kernel⟩
def spTake (C : Addr) : Sp := fun vs H Q _ => ∃ (s : Addr) (v : V) (i : It1) (its : List It1) (F : Addr → Prop) (N : Nat), vs = [.ref s, v] ∧ StAt C H s its F N ∧ N + 2 ≤ 1000 ∧ Tp H v (kdI i) ∧ okI i ∧ After C s H (takeI its (keyI i)) F N Q
theorem ok_take {f0 : Addr} {fd : FuncData} (F0 : Fun K "_take" "State._take" sTake f0 fd) (T : Cs K mg C) (MT : mTR P w K mg base C) (MF : mFB P w K mg base C) : FnOk P w K mg base CX0 6 f0 fd ["self", "key"] (spTake C) := by
  refine F0.ok scTake (fun vs H Q E h => ?_) (fun cdv A outer s H vs Q E hr h => ?_)
  · obtain ⟨_, _, _, _, _, _, rfl, _⟩ := h
    rfl
  · obtain ⟨s, v, i, its, F, N, rfl, S, hN, tv, oi, q⟩ := h
    have hu := hu_of hr
    have r1 : Room 1 _ := hr.mono (by decide)
    refine ⟨_, pss_cons (ps_asg (pv 1) (pg_tup rfl (pgs_cons (pg_name (i := 2) scTake.nd rfl (.inl rfl)) (pgs_cons (pg_name (i := 3) scTake.nd rfl (.inl rfl)) (pgs_cons (pg_name (i := 4) scTake.nd rfl (.inl rfl)) pgs_nil)))))
      (pss_one (ps_if (pt_cmpR op_eq (pv 2) pe_int (nomark _))
        (pss_one (ps_expr (pe_mdef MT (pv 0) T.cl hr (pa_cons (pv 3) (pa_cons (pv 4) pa_nil)))))
        (pss_one (ps_if (pt_cmpR (op_neP hr.units) (pv 4) (pe_tup pa_nil) (nomark _)) (pss_one ps_retN)
          (pss_one (ps_if (pt_cmpR op_eq (pv 2) pe_int (nomark _))
            (pss_cons (ps_expr (pe_dpop2 (pe_fld (pv 0) rfl) (pv 3) pe_non ⟨rfl, rfl, rfl, rfl⟩)) (pss_one (ps_expr (pe_mdef MF (pv 0) T.cl r1 (pa_cons (pv 3) pa_nil)))))
            (pss_one (ps_if (pt_cmpR op_eq (pv 2) pe_int (nomark _))
              (pss_one (ps_expr (pe_dpop2 (pe_fld (pv 0) rfl) (pv 3) pe_non ⟨rfl, rfl, rfl, rfl⟩)))
              (pss_one (ps_expr (pe_dpop2 (pe_fld (pv 0) rfl) (pv 3) pe_non ⟨rfl, rfl, rfl, rfl⟩))))))))))), ?_⟩
    obtain ⟨dx, r, f, u, d, kr, kf, ku, kd, b⟩ := id S
    obtain ⟨p, rfl, x, e, tx⟩ := invK tv
    refine ⟨.ref p, rfl, p, _, rfl, SqT.of e, rfl, _, _, rfl, _, _, rfl, _, _, rfl, rfl, ?_⟩
    have ne0 : PyData.eqv (.tuple []) (.tuple []) = true := rfl
    -- () against the row of a key that has none
    have emp : ∀ {t : Addr} {H1 : Hp} {Q1 : Bool → Prop}, Tp H x (.tuple []) → H t = none → H1 = upd H t (.tup []) → True := fun _ _ _ => trivial
    have d1 : ∀ {Ht : Hp} {t : Addr}, Same H Ht → Ht t = none → Same H (upd Ht t (.tup [])) := fun a n => same_add a n
    cases i with
    | fact nm ds =>
      refine ⟨.int 1, rfl, rfl, _, rfl, yes_if ?_⟩
      refine ⟨.ref s, rfl, s, dx, _, rfl, b.hs, fl_no _ _ _ _ (by decide +kernel) (by decide +kernel) (by decide +kernel) (by decide +kernel), .str nm, rfl, x, rfl, ?_⟩
      exact ⟨s, nm, x, ds, its, F, N, rfl, S, hN, tx, oi.1, oi.2, q⟩
    | rel nm n =>
      refine ⟨.int 0, rfl, rfl, _, rfl, no_if (by decide +kernel) ?_⟩
      refine ⟨x, rfl, Nat.zero_le _, fun t nt => ?_⟩
      have st1 : Same H (upd H t (.tup [])) := same_new nt
      have b1 := b.up st1 (Nat.le_refl _)
      refine ⟨.tuple [], .tuple [], tx.mono (Tk.of st1), .tup upd_same .nil, (by show 1 ≤ 64; decide), ?_⟩
      rw [ne0]
      refine ⟨_, rfl, iteF ?_⟩
      refine ⟨.int 0, rfl, rfl, _, rfl, yes_if ?_⟩
      refine ⟨.ref s, rfl, s, C, dx, _, _, rfl, b1.hs, T.cl, T.nR, fl_rel _ _ _ _, r, rfl, .inl ⟨kr, .of b1.hr⟩, .str nm, rfl, kr, Sum.inr nm, b1.hr, rfl, ?_⟩
      have m1 : ∀ x ds, It1.fact x ds ∈ takeI its (keyI (.rel nm n)) ↔ It1.fact x ds ∈ its := fun x ds => take_other b.ok oi (by show (1 : Int) ≠ 0; decide)
      have hnm : ∀ y, y ≠ nm → (hasNm its y ↔ hasNm (takeI its (keyI (.rel nm n))) y) := fun y c => by
        unfold hasNm
        constructor
        · rintro (⟨m, h⟩ | ⟨ds, h⟩)
          · exact .inl ⟨m, (take_mem b.ok oi _).mpr ⟨h, fun z => c (by injection z with _ z; injection z)⟩⟩
          · exact .inr ⟨ds, (m1 _ _).mpr h⟩
        · rintro (⟨m, h⟩ | ⟨ds, h⟩)
          · exact .inl ⟨m, ((take_mem b.ok oi _).mp h).1⟩
          · exact .inr ⟨ds, (m1 _ _).mp h⟩
      have hnm2 : hasNm (takeI its (keyI (.rel nm n))) nm → hasNm its nm := by
        rintro (⟨m, h⟩ | ⟨ds, h⟩)
        · exact .inl ⟨m, ((take_mem b.ok oi _).mp h).1⟩
        · exact .inr ⟨ds, (m1 _ _).mp h⟩
      refine ⟨fun v hv => ?_, fun hn => ?_⟩
      · have b2 := set_rel (its' := takeI its (keyI (.rel nm n))) b1 (b1.rel.take b.ok nm n) m1 (fun x a c e => take_other b.ok oi (by show (2 : Int) ≠ 0; decide)) (fun x e => take_other b.ok oi (by show (3 : Int) ≠ 0; decide)) (sorted_takeI b.srt) (ok_takeI b.ok)
        refine ⟨.ref s, rfl, s, dx, _, rfl, b2.hs, fl_no _ _ _ _ (by decide +kernel) (by decide +kernel) (by decide +kernel) (by decide +kernel), .str nm, rfl, ?_⟩
        exact ⟨s, nm, _, F, N + 1, hasNm its, rfl, ⟨dx, r, f, u, d, _, kf, ku, kd, b2⟩, by omega, hnm, hnm2, fun H5 o5 S5 => q H5 F (((Out.of st1).put2 (.inl b.fr)).trans o5) (fun a h => .inl h) (S5.mono (Tk.refl _) (fun _ h => h) (fun _ _ _ h => h) (by omega))⟩
      · have ei : takeI its (keyI (.rel nm n)) = its := takeI_not b.srt b.ok oi fun j hj z => by
          cases j with
          | rel y m =>
            injection z with _ z
            injection z with z
            rw [z] at hj
            exact (val_none b.rel.1).mp hn _ ((b.rel.2.2 _ _).mpr ⟨nm, m, rfl, rfl, hj⟩)
          | fact y ds => injection z with z; cases z
          | rule y rl ts bd => injection z with z; cases z
          | den y bd => injection z with z; cases z
        refine ⟨.ref s, rfl, s, dx, _, rfl, b1.hs, fl_no _ _ _ _ (by decide +kernel) (by decide +kernel) (by decide +kernel) (by decide +kernel), .str nm, rfl, ?_⟩
        refine ⟨s, nm, its, F, N, hasNm its, rfl, ⟨dx, r, f, u, d, kr, kf, ku, kd, b1⟩, by omega, fun _ _ => Iff.rfl, id, fun H5 o5 S5 => q H5 F ((Out.of st1).trans o5) (fun a h => .inl h) ?_⟩
        rw [ei]
        exact S5.mono (Tk.refl _) (fun _ h => h) (fun _ _ _ h => h) (by omega)
    | rule nm rl ts bd =>
      refine ⟨.int 2, rfl, rfl, _, rfl, no_if (by decide +kernel) ?_⟩
      refine ⟨x, rfl, Nat.zero_le _, fun t nt => ?_⟩
      have st1 : Same H (upd H t (.tup [])) := same_new nt
      have b1 := b.up st1 (Nat.le_refl _)
      refine ⟨.tuple [], .tuple [], tx.mono (Tk.of st1), .tup upd_same .nil, (by show 1 ≤ 64; decide), ?_⟩
      rw [ne0]
      refine ⟨_, rfl, iteF ?_⟩
      refine ⟨.int 2, rfl, rfl, _, rfl, no_if (by decide +kernel) ?_⟩
      refine ⟨.int 2, rfl, rfl, _, rfl, yes_if ?_⟩
      refine ⟨.ref s, rfl, s, C, dx, _, _, rfl, b1.hs, T.cl, T.nU, fl_rul _ _ _ _, u, rfl, .inl ⟨ku, .of b1.hu⟩, .str nm, rfl, ku, Sum.inr nm, b1.hu, rfl, ?_⟩
      have m1 : ∀ x ds, It1.fact x ds ∈ takeI its (keyI (.rule nm rl ts bd)) ↔ It1.fact x ds ∈ its := fun x ds => take_other b.ok oi (by show (1 : Int) ≠ 2; decide)
      have m3 : ∀ x n, It1.rel x n ∈ takeI its (keyI (.rule nm rl ts bd)) ↔ It1.rel x n ∈ its := fun x n => take_other b.ok oi (by show (0 : Int) ≠ 2; decide)
      refine ⟨fun v hv => ?_, fun hn => ?_⟩
      · have b2 := set_rul (its' := takeI its (keyI (.rule nm rl ts bd))) b1 (b1.rul.take b.ok oi) m1 m3 (fun x e => take_other b.ok oi (by show (3 : Int) ≠ 2; decide)) (sorted_takeI b.srt) (ok_takeI b.ok)
        exact q _ F ((Out.of st1).put2 (.inl b.fu)) (fun a h => .inl h) ⟨dx, r, f, u, d, _, _, _, _, (b2.up (Same.refl _) (Nat.le_succ _)).nameB (nm_same m3 m1)⟩
      · have ei : takeI its (keyI (.rule nm rl ts bd)) = its := takeI_not b.srt b.ok oi fun j hj z => by
          cases j with
          | rel y m => injection z with z; cases z
          | fact y ds => injection z with z; cases z
          | rule y rl ts bd =>
            injection z with _ z
            injection z with z
            rw [z] at hj
            obtain ⟨v, m⟩ := b.rul.2.2.2 _ _ _ _ hj
            exact (val_none b.rul.1).mp hn _ m
          | den y bd => injection z with z; cases z
        refine q _ F (Out.of st1) (fun a h => .inl h) ?_
        rw [ei]
        exact S.mono (Tk.of st1) (fun o h => st1 _ _ h) (fun a o _ h => st1 a o h) (by omega)
    | den nm bd =>
      refine ⟨.int 3, rfl, rfl, _, rfl, no_if (by decide +kernel) ?_⟩
      refine ⟨x, rfl, Nat.zero_le _, fun t nt => ?_⟩
      have st1 : Same H (upd H t (.tup [])) := same_new nt
      have b1 := b.up st1 (Nat.le_refl _)
      refine ⟨.tuple [], .tuple [], tx.mono (Tk.of st1), .tup upd_same .nil, (by show 1 ≤ 64; decide), ?_⟩
      rw [ne0]
      refine ⟨_, rfl, iteF ?_⟩
      refine ⟨.int 3, rfl, rfl, _, rfl, no_if (by decide +kernel) ?_⟩
      refine ⟨.int 3, rfl, rfl, _, rfl, no_if (by decide +kernel) ?_⟩
      refine ⟨.ref s, rfl, s, C, dx, _, _, rfl, b1.hs, T.cl, T.nD, fl_den _ _ _ _, d, rfl, .inl ⟨kd, .of b1.hd⟩, .str nm, rfl, kd, Sum.inr nm, b1.hd, rfl, ?_⟩
      have m1 : ∀ x ds, It1.fact x ds ∈ takeI its (keyI (.den nm bd)) ↔ It1.fact x ds ∈ its := fun x ds => take_other b.ok oi (by show (1 : Int) ≠ 3; decide)
      have m3 : ∀ x n, It1.rel x n ∈ takeI its (keyI (.den nm bd)) ↔ It1.rel x n ∈ its := fun x n => take_other b.ok oi (by show (0 : Int) ≠ 3; decide)
      refine ⟨fun v hv => ?_, fun hn => ?_⟩
      · have b2 := set_den (its' := takeI its (keyI (.den nm bd))) b1 (b1.den.take b.ok oi) m1 m3 (fun x a c e => take_other b.ok oi (by show (2 : Int) ≠ 3; decide)) (sorted_takeI b.srt) (ok_takeI b.ok)
        exact q _ F ((Out.of st1).put2 (.inl b.fd)) (fun a h => .inl h) ⟨dx, r, f, u, d, _, _, _, _, (b2.up (Same.refl _) (Nat.le_succ _)).nameB (nm_same m3 m1)⟩
      · have ei : takeI its (keyI (.den nm bd)) = its := takeI_not b.srt b.ok oi fun j hj z => by
          cases j with
          | rel y m => injection z with z; cases z
          | fact y ds => injection z with z; cases z
          | rule y rl ts bd => injection z with z; cases z
          | den y bd =>
            injection z with _ z
            injection z with z
            rw [z] at hj
            obtain ⟨v, m⟩ := b.den.2.2.2 _ _ hj
            exact (val_none b.den.1).mp hn _ m
        refine q _ F (Out.of st1) (fun a h => .inl h) ?_
        rw [ei]
        exact S.mono (Tk.of st1) (fun o h => st1 _ _ h) (fun a o _ h => st1 a o h) (by omega)
end
end KD

namespace KD
open PySem PySem.Spec PyProof.Rows L2 KA
theorem nox_ex {X : Cx} {body : List Stmt} {R : TS → Prop} (h : ∃ t, PSs X.nox body t ∧ R t) : ∃ t, PSs X body t ∧ R t := let ⟨t, a, b⟩ := h; ⟨t, a.nox, b⟩
theorem KT0.sq {K : PySem.W.Frag} {T : Addr} (h : ∃ (o : Obj) (its : Array Value) (n : Nat), K.lookup T = some o ∧ o.cls = .type "tuple" ∧ o.data = .seq its n ∧ its.size ≤ sizeLine ∧ Vals [] its.toList) (H : Hp) : SqT K H T [] := .inr h
/-- a thing of K alone: a tuple that the module holds -/
def KT0 (K : PySem.W.Frag) (T : Addr) : Prop := ∃ (o : Obj) (its : Array Value) (n : Nat), K.lookup T = some o ∧ o.cls = .type "tuple" ∧ o.data = .seq its n ∧ its.size ≤ sizeLine ∧ Vals [] its.toList
def puts (its : List It1) (js : List It1) : List It1 := js.foldl putI its
/-- all that was there, but the thing at s, stays; F is new -/
def Kept (s : Addr) (H H' : Hp) : Prop := ∀ a o, H a = some o → a ≠ s → H' a = some o
theorem putF4 (r f u d : Addr) : putF "denials" (.ref d) (putF "rules" (.ref u) (putF "facts" (.ref f) (putF "relations" (.ref r) []))) = flds r f u d := by
  have e1 : ¬ (("relations" : Str) = "facts") := by decide +kernel
  have e2 : ¬ (("relations" : Str) = "rules") := by decide +kernel
  have e3 : ¬ (("relations" : Str) = "denials") := by decide +kernel
  have e4 : ¬ (("facts" : Str) = "rules") := by decide +kernel
  have e5 : ¬ (("facts" : Str) = "denials") := by decide +kernel
  have e6 : ¬ (("rules" : Str) = "denials") := by decide +kernel
  have p0 : ∀ (f : Str) (v : V), putF f v [] = [(f, v)] := fun _ _ => rfl
  have p1 : ∀ (f g : Str) (v x : V) (l : List (Str × V)), ¬ g = f → putF f v ((g, x) :: l) = (g, x) :: putF f v l := fun f g v x l n => if_neg n
  rw [p0, p1 _ _ _ _ _ e1, p0, p1 _ _ _ _ _ e2, p1 _ _ _ _ _ e4, p0, p1 _ _ _ _ _ e3, p1 _ _ _ _ _ e5, p1 _ _ _ _ _ e6, p0]
  rfl
theorem st_empty {C : Addr} {H : Hp} {s dx r f u d : Addr} (hs : H s = some (.ins C dx (flds r f u d))) (hr : H r = some (.dK [])) (hf : H f = some (.dK [])) (hu : H u = some (.dK [])) (hd : H d = some (.dK [])) (rf : r ≠ f) (ru : r ≠ u) (rd : r ≠ d) (fu : f ≠ u) (fd : f ≠ d) (ud : u ≠ d) :
    StAt C H s [] (fun a => a = r ∨ a = f ∨ a = u ∨ a = d) 0 := by
  have nil0 : nd ([] : List (Key × V)) := List.nodup_nil
  refine ⟨dx, r, f, u, d, [], [], [], [], hs, hr, hf, hu, hd, .inl rfl, .inr (.inl rfl), .inr (.inr (.inl rfl)), .inr (.inr (.inr rfl)), rf, ru, rd, fu, fd, ud, ⟨nil0, Nat.le_refl _, fun k v => ⟨fun h => (by cases h), fun ⟨_, _, _, _, h⟩ => (by cases h)⟩⟩, ⟨nil0, Nat.le_refl _, fun k v h => (by cases h), fun nm => ⟨fun ⟨_, h⟩ => (by cases h), fun h => ?_⟩, fun k k' v h => (by cases h)⟩,
    ⟨nil0, Nat.le_refl _, fun k v h => (by cases h), fun _ _ _ _ h => (by cases h)⟩, ⟨nil0, Nat.le_refl _, fun k v h => (by cases h), fun _ _ h => (by cases h)⟩, List.Pairwise.nil, fun i h => (by cases h), ?_, ?_⟩
  · rcases h with ⟨_, h⟩ | ⟨_, h⟩ <;> cases h
  · rintro (z | z | z | z)
    · rw [z, hr] at hs
      cases hs
    · rw [z, hf] at hs
      cases hs
    · rw [z, hu] at hs
      cases hs
    · rw [z, hd] at hs
      cases hs
  · rintro a (rfl | rfl | rfl | rfl)
    · exact .inl ⟨_, hr⟩
    · exact .inl ⟨_, hf⟩
    · exact .inl ⟨_, hu⟩
    · exact .inl ⟨_, hd⟩
section
variable {P : Program} {w : World} {K : PySem.W.Frag} {mg : Str → Option Value} {base : Heap} {C : Addr}
abbrev mPut (P : Program) (w : World) (K : PySem.W.Frag) (mg : Str → Option Value) (base : Heap) (C : Addr) : Prop := MDef P w K mg base C "_put" 6 ["self", "item"] (spPut C)
abbrev mTake (P : Program) (w : World) (K : PySem.W.Frag) (mg : Str → Option Value) (base : Heap) (C : Addr) : Prop := MDef P w K mg base C "_take" 6 ["self", "key"] (spTake C)
abbrev sInit : Stmt := inClass (topS 8) 0
theorem scInit : FnScope ["self", "items", "item"] ["self", "items"] (defScope sInit) := ⟨rfl, rfl, rfl, by decide +kernel, rfl, by decide +kernel, by decide +kernel⟩
def spInit (K : PySem.W.Frag) (C : Addr) : Sp := fun vs H Q _ => ∃ (s dx a : Addr) (js : List It1), vs = [.ref s, .ref a] ∧ H s = some (.ins C dx []) ∧ ((KT0 K a ∧ js = []) ∨ ∃ xs, H a = some (.lst xs) ∧ Tps H xs (js.map itD)) ∧ OkL js ∧ js.length ≤ 400 ∧
  ∀ H' F, Kept s H H' → (∀ a, F a → H a = none) → StAt C H' s (puts [] js) F (2 * js.length) → Q .non H'
theorem ok_init {f0 : Addr} {fd : FuncData} {dvs : List V} (F0 : FunD K "__init__" "State.__init__" (defArgs sInit) (defBody sInit) (defScope sInit) dvs [] f0 fd) (T : Cs K mg C) (MP : mPut P w K mg base C) : FnOk P w K mg base CX0 7 f0 fd ["self", "items"] (spInit K C) := by
  refine F0.ok scInit (fun vs H Q E h => ?_) (fun cdv A outer s H vs Q E hr h => ?_)
  · obtain ⟨_, _, _, _, rfl, _⟩ := h
    rfl
  · obtain ⟨s, dx, a, js, rfl, hs, hv, oj, lj, q⟩ := h
    have step : ∀ {H0 H1 : Hp} {fs : List (Str × V)} {x : Str} {p : Addr}, Kept s H H0 → H0 s = some (.ins C dx fs) → H0 p = none → H1 = upd (upd H0 p (.dK [])) s (.ins C dx (putF x (.ref p) fs)) → Kept s H H1 ∧ H1 s = some (.ins C dx (putF x (.ref p) fs)) ∧ H1 p = some (.dK []) ∧ (∀ b o, H0 b = some o → b ≠ s → H1 b = some o) ∧ H p = none ∧ (upd H0 p (.dK [])) s = some (.ins C dx fs) := fun {H0 H1 fs x p} k e n z => by
      have nsp : s ≠ p := fun y => by
        rw [y, n] at e
        cases e
      have k1 : ∀ b o, H0 b = some o → b ≠ s → H1 b = some o := fun b o hb nb => by
        rw [z, upd_ne nb, upd_ne (fun y => by rw [y, n] at hb; cases hb)]
        exact hb
      refine ⟨fun b o hb nb => k1 b o (k b o hb nb) nb, by rw [z]; exact upd_same, by rw [z, upd_ne nsp.symm]; exact upd_same, k1, ?_, by rw [upd_ne nsp]; exact e⟩
      cases c : H p with
      | none => rfl
      | some o =>
        have := k p o c nsp.symm
        rw [n] at this
        cases this
    -- the end of the four, then the loop
    have fin : ∀ (H4 : Hp) (r f u d : Addr), Kept s H H4 → H4 s = some (.ins C dx (flds r f u d)) → H4 r = some (.dK []) → H4 f = some (.dK []) → H4 u = some (.dK []) → H4 d = some (.dK []) → r ≠ f → r ≠ u → r ≠ d → f ≠ u → f ≠ d → u ≠ d → H r = none → H f = none → H u = none → H d = none →
        ∃ F0 : Addr → Prop, (∀ a, F0 a → H a = none) ∧ StAt C H4 s [] F0 0 := fun H4 r f u d k h1 h2 h3 h4 h5 a1 a2 a3 a4 a5 a6 b1 b2 b3 b4 =>
      ⟨fun a => a = r ∨ a = f ∨ a = u ∨ a = d, (by rintro a (rfl | rfl | rfl | rfl) <;> assumption), st_empty h1 h2 h3 h4 h5 a1 a2 a3 a4 a5 a6⟩
    have nT : ∀ {H' : Hp}, Kept s H H' → Tk H H' := fun k a xs e => k a _ e (fun z => by rw [z, hs] at e; cases e)
    refine nox_ex ?_
    rcases hv with ⟨kt, rfl⟩ | ⟨xs, ea, tx⟩
    · refine ⟨_, pss_cons (ps_fld (pv 0) pe_dnewK rfl) (pss_cons (ps_fld (pv 0) pe_dnewK rfl) (pss_cons (ps_fld (pv 0) pe_dnewK rfl) (pss_cons (ps_fld (pv 0) pe_dnewK rfl)
        (pss_one (ps_for PassesOwn.never rfl (pi_tup (pv 1)) (pg_name (i := 2) scInit.nd rfl (.inl rfl)) (pss_one (ps_expr (pe_mdef MP (pv 0) T.cl hr (pa_cons (pv 2) pa_nil))))))))), ?_⟩
      intro r nr
      obtain ⟨k1, e1, r1, c1, n1, y1⟩ := step (x := "relations") (fun _ _ h _ => h) hs nr rfl
      refine ⟨.ref s, rfl, s, C, dx, _, rfl, y1, T.cl, T.nR, (by show 0 < 1000; decide), ?_⟩
      intro f nf
      obtain ⟨k2, e2, f2, c2, n2, y2⟩ := step (x := "facts") k1 e1 nf rfl
      refine ⟨.ref s, rfl, s, C, dx, _, rfl, y2, T.cl, T.nF, (by show 1 < 1000; decide), ?_⟩
      intro u nu
      obtain ⟨k3, e3, u3, c3, n3, y3⟩ := step (x := "rules") k2 e2 nu rfl
      refine ⟨.ref s, rfl, s, C, dx, _, rfl, y3, T.cl, T.nU, (by show 2 < 1000; decide), ?_⟩
      intro d nd'
      obtain ⟨k4, e4, d4, c4, n4, y4⟩ := step (x := "denials") k3 e3 nd' rfl
      refine ⟨.ref s, rfl, s, C, dx, _, rfl, y4, T.cl, T.nD, (by show 3 < 1000; decide), ?_⟩
      rw [putF4] at e4
      have ns : ∀ {p : Addr} {H0 : Hp} {fs : List (Str × V)}, H0 s = some (.ins C dx fs) → H0 p = none → p ≠ s := fun e n z => by
        rw [z, e] at n
        cases n
      have r2 := c2 _ _ r1 (ns hs nr)
      have r3 := c3 _ _ r2 (ns hs nr)
      have r4 := c4 _ _ r3 (ns hs nr)
      have f3 := c3 _ _ f2 (ns e1 nf)
      have f4 := c4 _ _ f3 (ns e1 nf)
      have u4 := c4 _ _ u3 (ns e2 nu)
      obtain ⟨F0, hF0, S0⟩ := fin _ r f u d k4 e4 r4 f4 u4 d4 (ne_of_none r1 nf) (ne_of_none r2 nu) (ne_of_none r3 nd') (ne_of_none f2 nu) (ne_of_none f3 nd') (ne_of_none u3 nd') n1 n2 n3 n4
      refine ⟨.ref a, rfl, a, rfl, ⟨[], KT0.sq kt _⟩, ?_⟩
      refine for_tup (K := K) (a := a) (xs := []) (fun _ σ H' => H' = _) rfl (fun i σ H' _ _ => KT0.sq kt _) (fun i x σ H' hx _ => by cases hx) (fun σ H' hP => ?_)
      rw [hP]
      exact q _ F0 k4 hF0 S0
    · refine ⟨_, pss_cons (ps_fld (pv 0) pe_dnewK rfl) (pss_cons (ps_fld (pv 0) pe_dnewK rfl) (pss_cons (ps_fld (pv 0) pe_dnewK rfl) (pss_cons (ps_fld (pv 0) pe_dnewK rfl)
        (pss_one (ps_for PassesOwn.never rfl (pi_list (pv 1)) (pg_name (i := 2) scInit.nd rfl (.inl rfl)) (pss_one (ps_expr (pe_mdef MP (pv 0) T.cl hr (pa_cons (pv 2) pa_nil))))))))), ?_⟩
      intro r nr
      obtain ⟨k1, e1, r1, c1, n1, y1⟩ := step (x := "relations") (fun _ _ h _ => h) hs nr rfl
      refine ⟨.ref s, rfl, s, C, dx, _, rfl, y1, T.cl, T.nR, (by show 0 < 1000; decide), ?_⟩
      intro f nf
      obtain ⟨k2, e2, f2, c2, n2, y2⟩ := step (x := "facts") k1 e1 nf rfl
      refine ⟨.ref s, rfl, s, C, dx, _, rfl, y2, T.cl, T.nF, (by show 1 < 1000; decide), ?_⟩
      intro u nu
      obtain ⟨k3, e3, u3, c3, n3, y3⟩ := step (x := "rules") k2 e2 nu rfl
      refine ⟨.ref s, rfl, s, C, dx, _, rfl, y3, T.cl, T.nU, (by show 2 < 1000; decide), ?_⟩
      intro d nd'
      obtain ⟨k4, e4, d4, c4, n4, y4⟩ := step (x := "denials") k3 e3 nd' rfl
      refine ⟨.ref s, rfl, s, C, dx, _, rfl, y4, T.cl, T.nD, (by show 3 < 1000; decide), ?_⟩
      rw [putF4] at e4
      have ns : ∀ {p : Addr} {H0 : Hp} {fs : List (Str × V)}, H0 s = some (.ins C dx fs) → H0 p = none → p ≠ s := fun e n z => by
        rw [z, e] at n
        cases n
      have r2 := c2 _ _ r1 (ns hs nr)
      have r3 := c3 _ _ r2 (ns hs nr)
      have r4 := c4 _ _ r3 (ns hs nr)
      have f3 := c3 _ _ f2 (ns e1 nf)
      have f4 := c4 _ _ f3 (ns e1 nf)
      have u4 := c4 _ _ u3 (ns e2 nu)
      obtain ⟨F0, hF0, S0⟩ := fin _ r f u d k4 e4 r4 f4 u4 d4 (ne_of_none r1 nf) (ne_of_none r2 nu) (ne_of_none r3 nd') (ne_of_none f2 nu) (ne_of_none f3 nd') (ne_of_none u3 nd') n1 n2 n3 n4
      have ae : a ≠ s := fun z => by
        rw [z, hs] at ea
        cases ea
      have lx : xs.length = js.length := by rw [tx.length, List.length_map]
      refine ⟨.ref a, rfl, a, rfl, ⟨xs, SqL.of (k4 _ _ ea ae)⟩, ?_⟩
      refine for_list (K := K) (a := a) (xs := xs) (fun i σ H' => (∃ x2, σ = [some (.ref s), some (.ref a), x2]) ∧ Kept s H H' ∧ ∃ F : Addr → Prop, (∀ a, F a → H a = none) ∧ StAt C H' s (puts [] (js.take i)) F (2 * i)) ⟨⟨none, rfl⟩, k4, F0, hF0, S0⟩ (fun i σ H' _ hP => SqL.of (hP.2.1 _ _ ea ae)) (fun i x σ H' hx hP => ?_) (fun σ H' hP => ?_)
      · obtain ⟨⟨x2, rfl⟩, kk, F, hF, S⟩ := hP
        obtain ⟨dd, ed, td⟩ := tx.get hx
        rw [List.getElem?_map] at ed
        cases ej : js[i]? with
        | none =>
          rw [ej] at ed
          cases ed
        | some j =>
          rw [ej] at ed
          have ed : itD j = dd := Option.some.inj ed
          subst ed
          have hi : i < js.length := (List.getElem?_eq_some_iff.mp ej).1
          have oj1 : okI j := oj j (List.mem_of_getElem? ej)
          obtain ⟨dx', r', f', u', d', kr', kf', ku', kd', bb⟩ := id S
          refine ⟨.ref s, rfl, s, dx', _, rfl, bb.hs, fl_no _ _ _ _ (by decide +kernel) (by decide +kernel) (by decide +kernel) (by decide +kernel), x, rfl, ?_⟩
          refine ⟨s, x, j, _, F, 2 * i, rfl, S, by omega, td.mono (nT kk), oj1, fun H5 F5 o5 c5 S5 => ?_⟩
          have e5 : puts [] (js.take (i + 1)) = putI (puts [] (js.take i)) j := by
            unfold puts
            rw [List.take_add_one, ej, List.foldl_append]
            rfl
          have hF' : ∀ a, F5 a → H a = none := fun b hb => by
            rcases c5 b hb with h | h
            · exact hF b h
            · cases c : H b with
              | none => rfl
              | some o =>
                by_cases z : b = s
                · rw [z, bb.hs] at h
                  cases h
                · rw [kk b o c z] at h
                  cases h
          refine ⟨⟨some x, rfl⟩, fun b o hb nb => o5 b o (fun hF2 => ?_) (kk b o hb nb), F5, hF', ?_⟩
          · rw [hF b hF2] at hb
            cases hb
          · rw [e5]
            exact S5
      · obtain ⟨_, kk, F, hF, S⟩ := hP
        refine q _ F kk hF ?_
        rw [lx] at S
        rw [List.take_length] at S
        exact S
end
end KD

namespace KD
open PySem PySem.Spec PyProof.Rows L2 KA
/-- a dict made by a comprehension over a walk -/
theorem dc_it {J : It} {n : Nat} {G : Hp → Prop} {Y : Nat → Hp → V → Hp → Prop} (w : Walk J n G Y) {g : TG} {tt : TT} {tk tv : TE} {vs : List Nat} {σ : L2.St} {H1 : Hp} {D : Addr} {Qd : Hp → Prop} (Pv : Nat → Hp → Prop) (h0 : Pv 0 (upd H1 D (.dK []))) (hG : ∀ i H, i ≤ n → Pv i H → G H)
    (hs : ∀ i x H H', i < n → Pv i H → Y i H x H' → g x (wipe σ vs) H' fun σ2 H2 => wipe σ2 vs = wipe σ vs ∧ tt σ2 H2 fun b H3 =>
      if b = true then tk σ2 H3 fun y H4 => tv σ2 H4 fun z H5 => ∃ kvs k, y = kV k ∧ H5 D = some (.dK kvs) ∧ kvs.length < sizeLine ∧ Pv (i + 1) (upd H5 D (.dK (putK kvs k z))) else Pv (i + 1) H3) (hd : ∀ H, Pv n H → Qd H) :
    ∃ W : Nat → Nat → Hp → Prop, (∃ m, W 0 m (upd H1 D (.dK []))) ∧ ∀ i m H, W i m H →
      (J.stop i H ∧ Qd H) ∨ (J.go i H ∧ ∃ Nx : Hp → Prop, (∀ H', Nx H' → ∃ m', m' < m ∧ W (i + 1) m' H') ∧ ∀ x H', J.yld i H x H' → g x (wipe σ vs) H' fun σ2 H2 => wipe σ2 vs = wipe σ vs ∧ tt σ2 H2 fun b H3 =>
        if b = true then tk σ2 H3 fun y H4 => tv σ2 H4 fun z H5 => ∃ kvs k, y = kV k ∧ H5 D = some (.dK kvs) ∧ kvs.length < sizeLine ∧ Nx (upd H5 D (.dK (putK kvs k z))) else Nx H3) := by
  refine ⟨fun i m H => m = n - i ∧ i ≤ n ∧ Pv i H, ⟨n, by simp, Nat.zero_le _, h0⟩, ?_⟩
  rintro i m H ⟨rfl, hi, p⟩
  have q := hG i H hi p
  by_cases hlt : i < n
  · refine .inr ⟨w.goes i H hlt q, Pv (i + 1), fun H' p' => ⟨n - (i + 1), by omega, rfl, hlt, p'⟩, fun x H' y => hs i x H H' hlt p (w.yields i H x H' hlt q y)⟩
  · have e : i = n := by omega
    subst e
    exact .inl ⟨w.stops H q, hd H p⟩
def rLstOf (K : PySem.W.Frag) : List V → Hp → VK → Prop := fun xs H Q => ∃ p ys, xs = [.ref p] ∧ (SqL K H p ys ∨ SqT K H p ys) ∧ ∀ l, H l = none → Q (.ref l) (upd H l (.lst ys))
theorem call_lstK {X : Cx} : CallR X (.type "list") (rLstOf X.K) := call_list_of
theorem putFr (r r2 f u d : Addr) : putF "relations" (.ref r2) (flds r f u d) = flds r2 f u d := if_pos rfl
theorem putF_ne {x g : Str} {v y : V} {l : List (Str × V)} (n : ¬ g = x) : putF x v ((g, y) :: l) = (g, y) :: putF x v l := if_neg n
theorem putF_eq {x : Str} {v y : V} {l : List (Str × V)} : putF x v ((x, y) :: l) = (x, v) :: l := if_pos rfl
theorem putFf (r f f2 u d : Addr) : putF "facts" (.ref f2) (flds r f u d) = flds r f2 u d := by
  unfold flds
  rw [putF_ne (by decide +kernel), putF_eq]
theorem putFu (r f u u2 d : Addr) : putF "rules" (.ref u2) (flds r f u d) = flds r f u2 d := by
  unfold flds
  rw [putF_ne (by decide +kernel), putF_ne (by decide +kernel), putF_eq]
theorem putFd (r f u d d2 : Addr) : putF "denials" (.ref d2) (flds r f u d) = flds r f u d2 := by
  unfold flds
  rw [putF_ne (by decide +kernel), putF_ne (by decide +kernel), putF_ne (by decide +kernel), putF_eq]
/-- the lists of facts copied -/
structure Cop (H0 H : Hp) (kf kvs : List (Key × V)) (i : Nat) : Prop where
  ks : kvs.map (·.1) = (kf.take i).map (·.1)
  at_ : ∀ k v, (k, v) ∈ kvs → ∃ l' l xs, v = .ref l' ∧ (k, V.ref l) ∈ kf ∧ H0 l = some (.lst xs) ∧ H l' = some (.lst xs) ∧ H0 l' = none
  inj : ∀ k k' v, (k, v) ∈ kvs → (k', v) ∈ kvs → k = k'
/-- State() as its callers know it -/
structure MkSt (P : Program) (w : World) (K : PySem.W.Frag) (mg : Str → Option Value) (base : Heap) (C : Addr) : Prop where
  ex : ∃ (f : Addr) (fd : FuncData) (T : Addr) (ds : List Value), Mk K C f ∧ FnOk P w K mg base CX0 7 f fd ["self", "items"] (spInit K C) ∧ Binds K fd ["self", "items"] [] ∧ Binds K fd ["self", "items"] ds ∧ Vals [V.ref T] ds ∧ KT0 K T
section
variable {X : Cx} {C : Addr} {p pos : Pos} {e : Expr} {es : List Expr} {t : TA}
def spMk (K : PySem.W.Frag) (C : Addr) : TE := fun _ H Q => ∀ x dx, H x = none → H dx = none → dx ≠ x → ∀ H' F, Kept x (upd (upd H dx (.own x)) x (.ins C dx [])) H' → (∀ a, F a → (upd (upd H dx (.own x)) x (.ins C dx [])) a = none) → StAt C H' x [] F 0 → Q (.ref x) H'
theorem pe_mk0 (M : MkSt X.prog X.w X.K X.mg X.base C) (hr : Room 8 X.A) (hg : Gl X "State") (hm : X.mg "State" = some (.ref C)) : PE X (.Call (.Name "State" p) [] [] pos) (spMk X.K C) := by
  obtain ⟨f, fd, T, ds, m, F, b0, b1, hv, kt⟩ := M.ex
  refine ⟨fun pins s σ H Q I h => ?_⟩
  refine (pe_make0 (E := E0) m F hr hg hm b1 hv pass0).run pins s σ H Q I fun x dx nx ndx nex => ?_
  refine ⟨x, dx, T, [], rfl, upd_same, .inl ⟨kt, rfl⟩, (fun i hi => by cases hi), Nat.zero_le _, fun H' F' k c S => ⟨rfl, h x dx nx ndx nex H' F' k c S⟩⟩
theorem pe_mk1 (M : MkSt X.prog X.w X.K X.mg X.base C) (hr : Room 8 X.A) (hg : Gl X "State") (hm : X.mg "State" = some (.ref C)) (ha : PA X (e :: es) t)
    (he : starEach (e :: es) X.env = (false, eval e X.env) :: starEach es X.env := by rfl) (hpl : (backTo pos (starEach es X.env)).any (·.1) = false := by rfl) :
    PE X (.Call (.Name "State" p) (e :: es) [] pos) (tMake C (spInit X.K C) [] E0 t) := by
  obtain ⟨f, fd, T, ds, m, F, b0, b1, hv, kt⟩ := M.ex
  exact pe_make m F hr hg hm b0 .nil pass0 ha (by decide) he hpl
end
section
variable {P : Program} {w : World} {K : PySem.W.Frag} {mg : Str → Option Value} {base : Heap} {C : Addr}
abbrev sCopy : Stmt := inClass (topS 8) 3
theorem scCopy : FnScope ["self", "made", "name", "rows"] ["self"] (defScope sCopy) := ⟨rfl, rfl, rfl, by decide +kernel, rfl, by decide +kernel, by decide +kernel⟩
def spCopy (C : Addr) : Sp := fun vs H Q _ => ∃ (s : Addr) (its : List It1) (F : Addr → Prop) (N : Nat), vs = [.ref s] ∧ StAt C H s its F N ∧ N ≤ 1000 ∧ ∀ m F' H', Same H H' → H m = none → (∀ a, F' a → H a = none) → StAt C H' m its F' N → Q (.ref m) H'
theorem ok_copy {f0 : Addr} {fd : FuncData} (F0 : Fun K "copy" "State.copy" sCopy f0 fd) (T : Cs K mg C) (B : Bt mg) (hdi : mg "dict" = none) (M : MkSt P w K mg base C) : FnOk P w K mg base CX0 9 f0 fd ["self"] (spCopy C) := by
  refine F0.ok scCopy (fun vs H Q E h => ?_) (fun cdv A outer s H vs Q E hr h => ?_)
  · obtain ⟨_, _, _, _, rfl, _⟩ := h
    rfl
  · obtain ⟨s, its, F, N, rfl, S, hN, q⟩ := h
    refine ⟨_, pss_cons (ps_set (i := 1) scCopy.nd rfl (.inl rfl) (pe_mk0 M hr (by rfl) T.mgC))
      (pss_cons (ps_fld (pv 1) (pe_callTy call_dictD (by rfl) hdi (by decide +kernel) (pa_cons (pe_fld (pv 0) rfl) pa_nil)) rfl)
      (pss_cons (ps_fld (pv 1) (pe_lock (pe_dc (own := [("name", 2), ("rows", 3)]) (g := gTup K 2 (gCons (gName 2) (gCons (gName 3) gNil))) (tt := tYes) rfl scCopy.nd (pi_items (pe_fld (pv 0) rfl)) (blkOk_by (own := [("name", 2), ("rows", 3)]) (N := ["self", "made", "name", "rows"]) (sc := defScope sCopy) (by decide +kernel))
        (fun _ _ _ _ _ => pg_tup rfl (pgs_cons (pg_name (i := 2) scCopy.nd rfl (Or.inl rfl)) (pgs_cons (pg_name (i := 3) scCopy.nd rfl (Or.inl rfl)) pgs_nil))) (fun _ _ _ _ _ => pts_nil)
        (fun _ _ _ _ _ => pv 2) (fun _ _ _ _ _ => pe_callTy (r := rLstOf K) (T := "list") call_lstK (by rfl) B.lst (by decide +kernel) (pa_cons (pv 3) pa_nil)))) rfl)
      (pss_cons (ps_fld (pv 1) (pe_callTy call_dictD (by rfl) hdi (by decide +kernel) (pa_cons (pe_fld (pv 0) rfl) pa_nil)) rfl)
      (pss_cons (ps_fld (pv 1) (pe_callTy call_dictD (by rfl) hdi (by decide +kernel) (pa_cons (pe_fld (pv 0) rfl) pa_nil)) rfl)
      (pss_one (ps_ret (pv 1))))))), ?_⟩
    obtain ⟨dx, r, f, u, d, kr, kf, ku, kd, b⟩ := id S
    intro x dx1 nx ndx nex H1 F1 k1 c1 S1
    have sm1 : Same H H1 := fun a o e => by
      have n1 : a ≠ x := fun z => by rw [z, nx] at e; cases e
      refine k1 a o ?_ n1
      rw [upd_ne n1, upd_ne (fun z => by rw [z, ndx] at e; cases e)]
      exact e
    obtain ⟨dx', r0, f0', u0, d0, _, _, _, _, b0⟩ := S1
    have e1 := b0.hs
    have step : ∀ {G1 Gc : Hp} {fs fs' : List (Str × V)} {p : Addr} {o : HO}, Same H G1 → G1 x = some (.ins C dx' fs) → Same G1 Gc → Gc p = some o → G1 p = none → Same H (upd Gc x (.ins C dx' fs')) ∧ (upd Gc x (.ins C dx' fs')) x = some (.ins C dx' fs') ∧ (upd Gc x (.ins C dx' fs')) p = some o ∧ (∀ a o, G1 a = some o → a ≠ x → (upd Gc x (.ins C dx' fs')) a = some o) ∧ Gc x = some (.ins C dx' fs) ∧ p ≠ x ∧ H p = none := fun {G1 Gc fs fs' p o} sm e sc ep np => by
      have npx : p ≠ x := fun z => by rw [z, e] at np; cases np
      refine ⟨fun a o h => ?_, upd_same, by rw [upd_ne npx]; exact ep, fun a o h n => by rw [upd_ne n]; exact sc a o h, sc _ _ e, npx, ?_⟩
      · rw [upd_ne (fun z => by rw [z, nx] at h; cases h)]
        exact sc a o (sm a o h)
      · cases c : H p with
        | none => rfl
        | some o' =>
          rw [sm _ _ c] at np
          cases np
    -- relations
    refine ⟨.ref s, rfl, s, C, dx, _, _, rfl, sm1 _ _ b.hs, T.cl, T.nR, fl_rel _ _ _ _, r, kr, rfl, .of (sm1 _ _ b.hr), fun r2 nr2 => ?_⟩
    obtain ⟨sm2, e2, er2, c2, y2, n2, nr⟩ := step (fs' := putF "relations" (.ref r2) (flds r0 f0' u0 d0)) sm1 e1 (same_new nr2) upd_same nr2
    refine ⟨.ref x, rfl, x, C, dx', _, rfl, y2, T.cl, T.nR, (by show 4 < 1000; decide), ?_⟩
    rw [putFr] at e2
    revert sm2 e2 er2 c2
    rw [putFr]
    generalize upd (upd H1 r2 (.dK kr)) x (.ins C dx' (flds r2 f0' u0 d0)) = H2
    intro sm2 e2 er2 c2
    -- facts
    refine ⟨f, .dK kf, sm2 _ _ b.hf, trivial, fun od => ?_⟩
    have hfs : s ≠ f := b.ns b.ff
    have L : ∀ a o, a ≠ f → H2 a = some o → (upd H2 f (.frz od (.dK kf))) a = some o := fun a o n h => by rw [upd_ne n]; exact h
    refine ⟨.ref s, rfl, s, C, dx, _, _, rfl, L _ _ hfs (sm2 _ _ b.hs), T.cl, T.nF, fl_fac _ _ _ _, f, od, kf, rfl, upd_same, fun D nD => ?_⟩
    obtain ⟨f1, f2, f3, f4, f5⟩ := id b.fac
    have nDf : D ≠ f := fun z => by rw [z, upd_same] at nD; cases nD
    have nD2 : H2 D = none := by rw [upd_ne nDf] at nD; exact nD
    have nfx : f ≠ x := fun z => by have := b.hf; rw [z, nx] at this; cases this
    refine dc_it walk_items (fun i H' => H' f = some (.frz od (.dK kf)) ∧ (∀ a o, a ≠ f → H2 a = some o → H' a = some o) ∧ ∃ kvs, H' D = some (.dK kvs) ∧ Cop H2 H' kf kvs i) ⟨?_, ?_, [], upd_same, rfl, (fun k v h => by cases h), fun k k' v h => by cases h⟩ (fun i H' _ hP => hP.1) (fun i y H' H3 hi hP hY => ?_) (fun H' hP => ?_)
    · rw [upd_ne nDf.symm]
      exact upd_same
    · intro a o n h
      rw [upd_ne (ne_of_none h nD2)]
      exact L a o n h
    · obtain ⟨h1, h2, kvs, hD, cp⟩ := hP
      obtain ⟨t, xa, ya, rfl, nt, rfl, hx, hy⟩ := hY
      have ek : kf[i]? = some kf[i] := List.getElem?_eq_getElem hi
      have hx : (kf[i]?.map fun kv => kV kv.1) = some xa := hx
      have hy : (kf[i]?.map Prod.snd) = some ya := hy
      rw [ek] at hx hy
      have hx : kV kf[i].1 = xa := Option.some.inj hx
      have hy : kf[i].2 = ya := Option.some.inj hy
      subst hx hy
      obtain ⟨nm, l, rs, g1, g2, g3, ⟨⟨xs, el, tr⟩, _⟩, _⟩ := f3 kf[i].1 kf[i].2 (List.getElem_mem hi)
      have nlf : l ≠ f := lst_ne el b.hf
      have el3 : (upd H' t (.tup [kV kf[i].1, kf[i].2])) l = some (.lst xs) := by
        have e := h2 l _ nlf (sm2 _ _ el)
        rw [upd_ne (ne_of_none e nt)]
        exact e
      have ntD : t ≠ D := fun z => by rw [z, hD] at nt; cases nt
      have ntf : t ≠ f := fun z => by rw [z, h1] at nt; cases nt
      refine ⟨t, _, rfl, SqT.of upd_same, rfl, _, _, rfl, _, _, rfl, rfl, rfl, ?_⟩
      refine iteT (B := True) ?_
      refine ⟨kV kf[i].1, rfl, kf[i].2, rfl, l, xs, (by rw [g2]), .inl (SqL.of el3), fun l2 nl2 => ?_⟩
      have nl2t : l2 ≠ t := fun z => by rw [z, upd_same] at nl2; cases nl2
      rw [upd_ne nl2t] at nl2
      have nl2D : l2 ≠ D := fun z => by rw [z, hD] at nl2; cases nl2
      have nl2f : l2 ≠ f := fun z => by rw [z, h1] at nl2; cases nl2
      have lk : kvs.length = i := by
        have := congrArg List.length cp.ks
        rw [List.length_map, List.length_map, List.length_take] at this
        omega
      have hv : valV kvs kf[i].1 = none := by
        have hnd : nd kvs := by
          show (kvs.map (·.1)).Nodup
          rw [cp.ks, List.map_take]
          exact List.Sublist.nodup (List.take_sublist _ _) f1
        refine (val_none hnd).mpr fun v hm => ?_
        have hm2 : kf[i].1 ∈ kvs.map (·.1) := List.mem_map.mpr ⟨_, hm, rfl⟩
        rw [cp.ks] at hm2
        obtain ⟨⟨k3, v3⟩, hm3, e3⟩ := List.mem_map.mp hm2
        obtain ⟨j, hj, e4⟩ := List.getElem_of_mem hm3
        rw [List.getElem_take] at e4
        rw [List.length_take] at hj
        have e5 := (List.pairwise_iff_getElem.mp f1) j i (by rw [List.length_map]; omega) (by rw [List.length_map]; exact hi) (by omega)
        rw [List.getElem_map, List.getElem_map, e4] at e5
        exact e5 e3
      refine ⟨kvs, kf[i].1, rfl, (by rw [upd_ne nl2D.symm, upd_ne ntD.symm]; exact hD), small1000 (by omega), ?_, ?_, _, upd_same, ?_, ?_, ?_⟩
      · rw [upd_ne nDf.symm, upd_ne nl2f.symm, upd_ne ntf.symm]
        exact h1
      · intro a o n h
        rw [upd_ne (ne_of_none h nD2), upd_ne (ne_of_none (h2 a o n h) nl2), upd_ne (ne_of_none (h2 a o n h) nt)]
        exact h2 a o n h
      · rw [putK_new _ hv, List.map_append, cp.ks, List.take_add_one, ek, List.map_append]
        rfl
      · have keep : ∀ l' xs', H' l' = some (.lst xs') → (upd (upd (upd H' t (.tup [kV kf[i].1, kf[i].2])) l2 (.lst xs)) D (.dK (putK kvs kf[i].1 (.ref l2)))) l' = some (.lst xs') := fun l' xs' h => by
          rw [upd_ne (lst_ne h hD), upd_ne (ne_of_none h nl2), upd_ne (ne_of_none h nt)]
          exact h
        intro k v hm
        rw [putK_new _ hv] at hm
        rcases List.mem_append.mp hm with hm | hm
        · obtain ⟨l', l0, xs', w1, w2, w3, w4, w5⟩ := cp.at_ k v hm
          exact ⟨l', l0, xs', w1, w2, w3, keep _ _ w4, w5⟩
        · obtain ⟨rfl, rfl⟩ : k = kf[i].1 ∧ v = .ref l2 := by
            have := List.mem_singleton.mp hm
            exact ⟨congrArg Prod.fst this, congrArg Prod.snd this⟩
          refine ⟨l2, l, xs, rfl, (by rw [← g2]; exact List.getElem_mem hi), sm2 _ _ el, (by rw [upd_ne nl2D]; exact upd_same), ?_⟩
          cases c : H2 l2 with
          | none => rfl
          | some o =>
            rw [h2 l2 o nl2f c] at nl2
            cases nl2
      · intro k k' v hm hm'
        rw [putK_new _ hv] at hm hm'
        have no : ∀ k, (k, V.ref l2) ∉ kvs := fun k h => by
          obtain ⟨l', l0, xs', w1, w2, w3, w4, w5⟩ := cp.at_ k _ h
          injection w1 with w1
          rw [← w1, nl2] at w4
          cases w4
        rcases List.mem_append.mp hm with hm | hm
        · rcases List.mem_append.mp hm' with hm' | hm'
          · exact cp.inj _ _ _ hm hm'
          · have := congrArg Prod.snd (List.mem_singleton.mp hm')
            rw [show v = V.ref l2 from this] at hm
            exact absurd hm (no _)
        · rcases List.mem_append.mp hm' with hm' | hm'
          · have := congrArg Prod.snd (List.mem_singleton.mp hm)
            rw [show v = V.ref l2 from this] at hm'
            exact absurd hm' (no _)
          · exact (congrArg Prod.fst (List.mem_singleton.mp hm)).trans (congrArg Prod.fst (List.mem_singleton.mp hm')).symm
    · obtain ⟨h1, h2, kvs, hD, cp⟩ := hP
      refine ⟨h1, ?_⟩
      have smc : Same H2 (upd H' f (.dK kf)) := fun a o h => by
        by_cases z : a = f
        · rw [z, sm2 _ _ b.hf] at h
          rw [z, upd_same, ← h]
        · rw [upd_ne z]
          exact h2 a o z h
      have cpD : (upd H' f (.dK kf)) D = some (.dK kvs) := by
        rw [upd_ne nDf]
        exact hD
      have cp2 : ∀ k v, (k, v) ∈ kvs → ∃ l' l xs, v = .ref l' ∧ (k, V.ref l) ∈ kf ∧ H2 l = some (.lst xs) ∧ (upd H' f (.dK kf)) l' = some (.lst xs) ∧ H2 l' = none := fun k v hm => by
        obtain ⟨l', l0, xs', w1, w2, w3, w4, w5⟩ := cp.at_ k v hm
        exact ⟨l', l0, xs', w1, w2, w3, (by rw [upd_ne (fun z => by rw [z, h1] at w4; cases w4)]; exact w4), w5⟩
      have cks := cp.ks
      have cin := cp.inj
      revert smc cpD cp2
      generalize upd H' f (.dK kf) = Hc
      intro smc cpD cp2
      obtain ⟨sm3, e3, er3, c3, y3, n3, nf2⟩ := step (fs' := putF "facts" (.ref D) (flds r2 f0' u0 d0)) sm2 e2 smc cpD nD2
      refine ⟨.ref x, rfl, x, C, dx', _, rfl, y3, T.cl, T.nF, (by show 4 < 1000; decide), ?_⟩
      have cl3 : ∀ l' xs, Hc l' = some (.lst xs) → (upd Hc x (.ins C dx' (flds r2 D u0 d0))) l' = some (.lst xs) := fun l' xs h => by
        rw [upd_ne (fun z => by rw [z, y3] at h; cases h)]
        exact h
      revert sm3 e3 er3 c3
      rw [putFf]
      revert cl3
      generalize upd Hc x (.ins C dx' (flds r2 D u0 d0)) = H3
      intro cl3 sm3 e3 er3 c3
      -- rules
      refine ⟨.ref s, rfl, s, C, dx, _, _, rfl, sm3 _ _ b.hs, T.cl, T.nU, fl_rul _ _ _ _, u, ku, rfl, .of (sm3 _ _ b.hu), fun u2 nu2 => ?_⟩
      obtain ⟨sm4, e4, er4, c4, y4, n4, nu⟩ := step (fs' := putF "rules" (.ref u2) (flds r2 D u0 d0)) sm3 e3 (same_new nu2) upd_same nu2
      refine ⟨.ref x, rfl, x, C, dx', _, rfl, y4, T.cl, T.nU, (by show 4 < 1000; decide), ?_⟩
      revert sm4 e4 er4 c4
      rw [putFu]
      generalize upd (upd H3 u2 (.dK ku)) x (.ins C dx' (flds r2 D u2 d0)) = H4
      intro sm4 e4 er4 c4
      -- denials
      refine ⟨.ref s, rfl, s, C, dx, _, _, rfl, sm4 _ _ b.hs, T.cl, T.nD, fl_den _ _ _ _, d, kd, rfl, .of (sm4 _ _ b.hd), fun d2 nd2 => ?_⟩
      obtain ⟨sm5, e5, er5, c5, y5, n5, nd'⟩ := step (fs' := putF "denials" (.ref d2) (flds r2 D u2 d0)) sm4 e4 (same_new nd2) upd_same nd2
      refine ⟨.ref x, rfl, x, C, dx', _, rfl, y5, T.cl, T.nD, (by show 4 < 1000; decide), ?_⟩
      revert sm5 e5 er5 c5
      rw [putFd]
      generalize upd (upd H4 d2 (.dK kd)) x (.ins C dx' (flds r2 D u2 d2)) = H5
      intro sm5 e5 er5 c5
      refine ⟨.ref x, rfl, ?_⟩
      have r3 := c3 _ _ er2 n2
      have r4 := c4 _ _ r3 n2
      have r5 := c5 _ _ r4 n2
      have D4 := c4 _ _ er3 n3
      have D5 := c5 _ _ D4 n3
      have u5 := c5 _ _ er4 n4
      have tk5 : Tk H H5 := Tk.of sm5
      have l5 : ∀ l' xs, Hc l' = some (.lst xs) → H5 l' = some (.lst xs) := fun l' xs h => by
        have nl : l' ≠ x := fun z => by rw [z, y3] at h; cases h
        exact c5 _ _ (c4 _ _ (cl3 _ _ h) nl) nl
      have h2n : ∀ l', H2 l' = none → H l' = none := fun l' h => by
        cases c : H l' with
        | none => rfl
        | some o =>
          rw [sm2 _ _ c] at h
          cases h
      have hks : kvs.map (·.1) = kf.map (·.1) := by rw [cks, List.take_length]
      have hne : r2 ≠ D := ne_of_none er2 nD2
      refine q x (fun a => a = r2 ∨ a = D ∨ a = u2 ∨ a = d2 ∨ ∃ k, (k, V.ref a) ∈ kvs) H5 sm5 nx ?_ ⟨dx', r2, D, u2, d2, kr, kvs, ku, kd, e5, r5, D5, u5, er5, .inl rfl, .inr (.inl rfl), .inr (.inr (.inl rfl)), .inr (.inr (.inr (.inl rfl))), hne, ne_of_none r3 nu2, ne_of_none r4 nd2, ne_of_none er3 nu2, ne_of_none D4 nd2, ne_of_none er4 nd2, b.rel, ⟨?_, ?_, ?_, ?_, cin⟩,
        b.rul.to tk5 (Nat.le_refl _) (fun _ _ _ _ => Iff.rfl), b.den.to tk5 (Nat.le_refl _) (fun _ _ => Iff.rfl), b.srt, b.ok, ?_, ?_⟩
      · rintro a (rfl | rfl | rfl | rfl | ⟨k, h⟩)
        · exact nr
        · exact h2n _ nD2
        · exact nu
        · exact nd'
        · obtain ⟨l', l0, xs', w1, w2, w3, w4, w5⟩ := cp2 k _ h
          injection w1 with w1
          rw [w1]
          exact h2n _ w5
      · show (kvs.map (·.1)).Nodup
        rw [hks]
        exact f1
      · have := congrArg List.length hks
        rw [List.length_map, List.length_map] at this
        omega
      · intro k v hm
        obtain ⟨l', l0, xs', w1, w2, w3, w4, w5⟩ := cp2 k v hm
        obtain ⟨nm, l, rs, g1, g2, g3, ⟨⟨xs, el, tr⟩, a1, a2, a3⟩, g5⟩ := f3 _ _ w2
        injection g2 with g2
        rw [g2, sm2 _ _ el] at w3
        injection w3 with w3
        injection w3 with w3
        exact ⟨nm, l', rs, g1, w1, .inr (.inr (.inr (.inr ⟨k, by rw [← w1]; exact hm⟩))), ⟨⟨xs, (by rw [w3]; exact l5 _ _ w4), tr.mono tk5⟩, a1, a2, a3⟩, g5⟩
      · intro nm
        rw [← f4 nm]
        constructor
        · rintro ⟨v, h⟩
          have h2 : (Sum.inr nm : Key) ∈ kvs.map (·.1) := List.mem_map.mpr ⟨_, h, rfl⟩
          rw [hks] at h2
          obtain ⟨⟨k3, v3⟩, h3, h4⟩ := List.mem_map.mp h2
          exact ⟨v3, by rw [← h4]; exact h3⟩
        · rintro ⟨v, h⟩
          have h2 : (Sum.inr nm : Key) ∈ kf.map (·.1) := List.mem_map.mpr ⟨_, h, rfl⟩
          rw [← hks] at h2
          obtain ⟨⟨k3, v3⟩, h3, h4⟩ := List.mem_map.mp h2
          exact ⟨v3, by rw [← h4]; exact h3⟩
      · rintro (z | z | z | z | ⟨k, h⟩)
        · exact n2 z.symm
        · exact n3 z.symm
        · exact n4 z.symm
        · exact n5 z.symm
        · obtain ⟨l', l0, xs', w1, w2, w3, w4, w5⟩ := cp2 k _ h
          injection w1 with w1
          rw [← w1, e2] at w5
          cases w5
      · rintro a (rfl | rfl | rfl | rfl | ⟨k, h⟩)
        · exact .inl ⟨_, r5⟩
        · exact .inl ⟨_, D5⟩
        · exact .inl ⟨_, u5⟩
        · exact .inl ⟨_, er5⟩
        · obtain ⟨l', l0, xs', w1, w2, w3, w4, w5⟩ := cp2 k _ h
          injection w1 with w1
          rw [w1]
          exact .inr ⟨_, l5 _ _ w4⟩
end
end KD

namespace KD
open PySem PySem.Spec PyProof.Rows L2 KA
inductive Ch where
  | comes (i : It1)
  | goes (i : It1)
def chD : Ch → PyData
  | .comes i => .tuple [.str "comes", itD i]
  | .goes i => .tuple [.str "goes", kdI i]
def chI : Ch → It1
  | .comes i => i
  | .goes i => i
def apC (its : List It1) : Ch → List It1
  | .comes i => putI its i
  | .goes i => takeI its (keyI i)
def apply (its : List It1) (cs : List Ch) : List It1 := cs.foldl apC its
def OkC (cs : List Ch) : Prop := ∀ c ∈ cs, okI (chI c)
theorem inv2 {H : Hp} {v : V} {a : Str} {d : PyData} (t : Tp H v (.tuple [.str a, d])) : ∃ p, v = .ref p ∧ ∃ x, H p = some (.tup [.str a, x]) ∧ Tp H x d := by
  cases t with
  | tup e r =>
    cases r with
    | cons h1 r => cases r with
      | cons h2 r =>
        cases r
        cases h1
        exact ⟨_, rfl, _, e, h2⟩
section
variable {X : Cx} {k : Nat} {m : Str} {C : Addr} {ps : List Str} {sp : Sp} {o : Expr} {ta : TE} {pos apos : Pos}
theorem pe_mdef0 (D : MDef X.prog X.w X.K X.mg X.base C m k ps sp) (he : PE X o ta) (c : Cls X.K C) (hr : Room k X.A) {pl : Sem Bool}
    (ht : eval (.Call (.Attribute o m apos) [] [] pos) X.env = (do
      let ov ← eval o X.env
      standAt apos.atName
      let (f, first) ← holding [ov] (getMethod ov m pl)
      callWith pos f first (backTo pos (starEach [] X.env)) (backToKw pos (keywordEach [] X.env))) := by rfl) : PE X (.Call (.Attribute o m apos) [] [] pos) (tMeth C m sp [] E0 ta tNil) := by
  obtain ⟨f, fd, F, M, hb⟩ := D.ex
  exact pe_meth0 he c M F hr hb .nil pass0 ht
end
section
variable {P : Program} {w : World} {K : PySem.W.Frag} {mg : Str → Option Value} {base : Heap} {C : Addr}
abbrev mCopy (P : Program) (w : World) (K : PySem.W.Frag) (mg : Str → Option Value) (base : Heap) (C : Addr) : Prop := MDef P w K mg base C "copy" 9 ["self"] (spCopy C)
abbrev sChange : Stmt := inClass (topS 8) 4
theorem scChange : FnScope ["self", "changes", "made", "kind", "what"] ["self", "changes"] (defScope sChange) := ⟨rfl, rfl, rfl, by decide +kernel, rfl, by decide +kernel, by decide +kernel⟩
def spChange (C : Addr) : Sp := fun vs H Q _ => ∃ (s a : Addr) (its : List It1) (cs : List Ch) (xs : List V) (F : Addr → Prop) (N : Nat), vs = [.ref s, .ref a] ∧ StAt C H s its F N ∧ H a = some (.lst xs) ∧ Tps H xs (cs.map chD) ∧ OkC cs ∧ N + 2 * cs.length ≤ 1000 ∧
  ∀ m F' H', Same H H' → H m = none → (∀ a, F' a → H a = none) → StAt C H' m (apply its cs) F' (N + 2 * cs.length) → Q (.ref m) H'
theorem ok_change {f0 : Addr} {fd : FuncData} (F0 : Fun K "change" "State.change" sChange f0 fd) (T : Cs K mg C) (MC : mCopy P w K mg base C) (MP : mPut P w K mg base C) (MT : mTake P w K mg base C) : FnOk P w K mg base CX0 10 f0 fd ["self", "changes"] (spChange C) := by
  refine F0.ok scChange (fun vs H Q E h => ?_) (fun cdv A outer s H vs Q E hr h => ?_)
  · obtain ⟨_, _, _, _, _, _, _, rfl, _⟩ := h
    rfl
  · obtain ⟨s, a, its, cs, xs, F, N, rfl, S, ea, tx, oc, hN, q⟩ := h
    have r6 : Room 6 _ := hr.mono (by decide)
    refine ⟨_, pss_cons (ps_set (i := 2) scChange.nd rfl (.inl rfl) (pe_mdef0 MC (pv 0) T.cl hr))
      (pss_cons (ps_for PassesOwn.never rfl (pi_list (pv 1)) (pg_tup rfl (pgs_cons (pg_name (i := 3) scChange.nd rfl (.inl rfl)) (pgs_cons (pg_name (i := 4) scChange.nd rfl (.inl rfl)) pgs_nil)))
        (pss_one (ps_if (pt_cmpR op_eq (pv 3) pe_str (nomark _))
          (pss_one (ps_expr (pe_mdef MP (pv 2) T.cl r6 (pa_cons (pv 4) pa_nil))))
          (pss_one (ps_expr (pe_mdef MT (pv 2) T.cl r6 (pa_cons (pv 4) pa_nil)))))))
      (pss_one (ps_ret (pv 2)))), ?_⟩
    obtain ⟨dx, r, f, u, d, kr, kf, ku, kd, b⟩ := id S
    refine ⟨.ref s, rfl, s, dx, _, rfl, b.hs, fl_no _ _ _ _ (by decide +kernel) (by decide +kernel) (by decide +kernel) (by decide +kernel), ?_⟩
    refine ⟨s, its, F, N, rfl, S, by omega, fun m F1 H1 sm1 nm c1 S1 => ?_⟩
    have lx : xs.length = cs.length := by rw [tx.length, List.length_map]
    refine ⟨.ref a, rfl, a, rfl, ⟨xs, SqL.of (sm1 _ _ ea)⟩, ?_⟩
    refine for_list (K := K) (a := a) (xs := xs) (fun i σ H' => (∃ x3 x4, σ = [some (.ref s), some (.ref a), some (.ref m), x3, x4]) ∧ Same H H' ∧ ∃ F' : Addr → Prop, (∀ a, F' a → H a = none) ∧ StAt C H' m (apply its (cs.take i)) F' (N + 2 * i)) ⟨⟨none, none, rfl⟩, sm1, F1, c1, S1⟩ (fun i σ H' _ hP => SqL.of (hP.2.1 _ _ ea)) (fun i x σ H' hx hP => ?_) (fun σ H' hP => ?_)
    · obtain ⟨⟨x3, x4, rfl⟩, sm, F', hF, S'⟩ := hP
      obtain ⟨dd, ed, td⟩ := tx.get hx
      rw [List.getElem?_map] at ed
      cases ec : cs[i]? with
      | none =>
        rw [ec] at ed
        cases ed
      | some c =>
        rw [ec] at ed
        have ed : chD c = dd := Option.some.inj ed
        subst ed
        have hi : i < cs.length := (List.getElem?_eq_some_iff.mp ec).1
        have oc1 : okI (chI c) := oc c (List.mem_of_getElem? ec)
        have td := td.mono (Tk.of sm)
        obtain ⟨dx', r', f', u', d', kr', kf', ku', kd', bb⟩ := id S'
        have e5 : apply its (cs.take (i + 1)) = apC (apply its (cs.take i)) c := by
          unfold apply
          rw [List.take_add_one, ec, List.foldl_append]
          rfl
        have back : ∀ (H5 : Hp) (F5 : Addr → Prop), Out F' H' H5 → (∀ a, F5 a → F' a ∨ H' a = none) → Same H H5 ∧ ∀ a, F5 a → H a = none := fun H5 F5 o5 c5 => by
          refine ⟨fun b o hb => o5 b o (fun z => by rw [hF b z] at hb; cases hb) (sm b o hb), fun b hb => ?_⟩
          rcases c5 b hb with h | h
          · exact hF b h
          · exact sm.free h
        cases c with
        | comes j =>
          obtain ⟨p, rfl, y, ep, ty⟩ := inv2 td
          refine ⟨p, _, rfl, SqT.of ep, rfl, _, _, rfl, _, _, rfl, rfl, ?_⟩
          refine ⟨.str "comes", rfl, rfl, _, rfl, yes_if ?_⟩
          refine ⟨.ref m, rfl, m, dx', _, rfl, bb.hs, fl_no _ _ _ _ (by decide +kernel) (by decide +kernel) (by decide +kernel) (by decide +kernel), y, rfl, ?_⟩
          refine ⟨m, y, j, _, F', N + 2 * i, rfl, S', by omega, ty, oc1, fun H5 F5 o5 c5 S5 => ?_⟩
          obtain ⟨w1, w2⟩ := back H5 F5 o5 c5
          refine ⟨⟨_, _, rfl⟩, w1, F5, w2, ?_⟩
          rw [e5]
          exact S5
        | goes j =>
          obtain ⟨p, rfl, y, ep, ty⟩ := inv2 td
          refine ⟨p, _, rfl, SqT.of ep, rfl, _, _, rfl, _, _, rfl, rfl, ?_⟩
          refine ⟨.str "goes", rfl, rfl, _, rfl, no_if (by decide +kernel) ?_⟩
          refine ⟨.ref m, rfl, m, dx', _, rfl, bb.hs, fl_no _ _ _ _ (by decide +kernel) (by decide +kernel) (by decide +kernel) (by decide +kernel), y, rfl, ?_⟩
          refine ⟨m, y, j, _, F', N + 2 * i, rfl, S', by omega, ty, oc1, fun H5 F5 o5 c5 S5 => ?_⟩
          obtain ⟨w1, w2⟩ := back H5 F5 o5 c5
          refine ⟨⟨_, _, rfl⟩, w1, F5, w2, ?_⟩
          rw [e5]
          exact S5
    · obtain ⟨⟨x3, x4, rfl⟩, sm, F', hF, S'⟩ := hP
      refine ⟨.ref m, rfl, q m F' H' sm nm hF ?_⟩
      rw [lx, List.take_length] at S'
      exact S'
end
end KD

namespace KD
open PySem PySem.Spec PyProof.Rows L2 KA
theorem nodup_le {α : Type} [DecidableEq α] : ∀ {l m : List α}, l.Nodup → (∀ x ∈ l, x ∈ m) → l.length ≤ m.length
  | [], _, _, _ => Nat.zero_le _
  | a :: l, m, h, s => by
    have h1 := List.nodup_cons.mp h
    have ha : a ∈ m := s a List.mem_cons_self
    have h2 : ∀ x ∈ l, x ∈ m.erase a := fun x hx => (List.mem_erase_of_ne (fun z => h1.1 (by rw [← z]; exact hx))).mpr (s x (List.mem_cons_of_mem _ hx))
    have h3 := nodup_le h1.2 h2
    rw [List.length_erase_of_mem ha] at h3
    have h4 : 0 < m.length := List.length_pos_of_mem ha
    rw [List.length_cons]
    omega
theorem key_ne {a b : Ky} (h : kc a b < 0) (hb : okK b) (e : a = b) : False := by
  rw [e] at h
  rcases kc_cases hb hb with ⟨_, _, n⟩ | ⟨_, _, n⟩ | ⟨z, _, _⟩
  · exact n rfl
  · exact n rfl
  · omega
theorem sorted_keys {l : List It1} (s : SortedI l) (o : OkL l) : (l.map keyI).Nodup := by
  rw [List.Nodup, List.pairwise_map]
  exact List.Pairwise.imp_of_mem (fun {a b} ha hb h z => key_ne h (okK_of (o b hb)) z) s
noncomputable instance : DecidableEq It1 := fun a b => Classical.propDecidable _
theorem sort_in : ∀ x : It1, 0 ≤ (keyI x).1 ∧ (keyI x).1 < 4
  | .rel _ _ => ⟨(by decide : (0 : Int) ≤ 0), (by decide : (0 : Int) < 4)⟩
  | .fact _ _ => ⟨(by decide : (0 : Int) ≤ 1), (by decide : (1 : Int) < 4)⟩
  | .rule _ _ _ _ => ⟨(by decide : (0 : Int) ≤ 2), (by decide : (2 : Int) < 4)⟩
  | .den _ _ => ⟨(by decide : (0 : Int) ≤ 3), (by decide : (3 : Int) < 4)⟩
/-- so far: the items whose sort is below k, or is k with a name among ns -/
structure Cov (its : List It1) (k : Int) (ns : List Str) (out : List It1) : Prop where
  srt : SortedI out
  ok : OkL out
  mem : ∀ x, x ∈ out ↔ x ∈ its ∧ ((keyI x).1 < k ∨ ((keyI x).1 = k ∧ (keyI x).2.1 ∈ ns))
theorem Cov.len {its out : List It1} {k : Int} {ns : List Str} (c : Cov its k ns out) : out.length ≤ its.length := by
  refine nodup_le ?_ (fun x hx => ((c.mem x).mp hx).1)
  exact List.Pairwise.imp_of_mem (fun {a b} ha hb h z => key_ne h (okK_of (c.ok b hb)) (by rw [z])) c.srt
theorem Cov.start {its : List It1} : Cov its 0 [] [] := ⟨List.Pairwise.nil, (fun i h => by cases h), fun x => ⟨fun h => (by cases h), fun ⟨_, h⟩ => by
  rcases h with h | ⟨_, h⟩
  · have := (sort_in x).1
    omega
  · cases h⟩⟩
theorem Cov.next {its out : List It1} {k : Int} {ns : List Str} (c : Cov its k ns out) (h : ∀ x ∈ its, (keyI x).1 = k → (keyI x).2.1 ∈ ns) : Cov its (k + 1) [] out := ⟨c.srt, c.ok, fun x => by
  rw [c.mem x]
  constructor
  · rintro ⟨a, b | ⟨b, _⟩⟩
    · exact ⟨a, .inl (by omega)⟩
    · exact ⟨a, .inl (by omega)⟩
  · rintro ⟨a, b | ⟨_, b⟩⟩
    · refine ⟨a, ?_⟩
      by_cases z : (keyI x).1 = k
      · exact .inr ⟨z, h x a z⟩
      · exact .inl (by omega)
    · cases b⟩
theorem Cov.step {its out blk : List It1} {k : Int} {ns : List Str} {nm : Str} (c : Cov its k ns out) (h : ∀ n ∈ ns, n.cps.toList < nm.cps.toList) (sb : SortedI blk) (ob : OkL blk) (mb : ∀ x, x ∈ blk ↔ x ∈ its ∧ (keyI x).1 = k ∧ (keyI x).2.1 = nm) : Cov its k (ns ++ [nm]) (out ++ blk) := by
  refine ⟨?_, fun x hx => (List.mem_append.mp hx).elim (c.ok x) (ob x), fun x => ?_⟩
  · unfold SortedI
    rw [List.pairwise_append]
    refine ⟨c.srt, sb, fun a ha b hb => ?_⟩
    obtain ⟨_, w⟩ := (c.mem a).mp ha
    obtain ⟨_, v1, v2⟩ := (mb b).mp hb
    show kc (keyI a) (keyI b) < 0
    rw [kc_lt_iff]
    rcases w with w | ⟨w1, w2⟩
    · exact .inl (by omega)
    · refine .inr ⟨by omega, .inl ?_⟩
      rw [v2]
      exact h _ w2
  · rw [List.mem_append, c.mem x, mb x, List.mem_append, List.mem_singleton]
    constructor
    · rintro (⟨a, b | ⟨b, e⟩⟩ | ⟨a, b, e⟩)
      · exact ⟨a, .inl b⟩
      · exact ⟨a, .inr ⟨b, .inl e⟩⟩
      · exact ⟨a, .inr ⟨b, .inr e⟩⟩
    · rintro ⟨a, b | ⟨b, e | e⟩⟩
      · exact .inl ⟨a, .inl b⟩
      · exact .inl ⟨a, .inr ⟨b, e⟩⟩
      · exact .inr ⟨a, b, e⟩
theorem Cov.one {its out : List It1} {k : Int} {ns : List Str} {nm : Str} {i : It1} (c : Cov its k ns out) (h : ∀ n ∈ ns, n.cps.toList < nm.cps.toList) (si : SortedI its) (oi : OkL its) (hi : i ∈ its) (k1 : (keyI i).1 = k) (k2 : (keyI i).2.1 = nm) (k3 : k ≠ 1) : Cov its k (ns ++ [nm]) (out ++ [i]) := by
  refine c.step h (List.pairwise_singleton _ _) (fun x hx => by rw [List.mem_singleton.mp hx]; exact oi i hi) fun x => ?_
  rw [List.mem_singleton]
  constructor
  · rintro rfl
    exact ⟨hi, k1, k2⟩
  · rintro ⟨hx, e1, e2⟩
    refine sorted_key si oi hx hi ?_
    have e3 : ∀ y : It1, (keyI y).1 ≠ 1 → (keyI y).2.2 = [] := fun y hy => by
      cases y with
      | rel a b => rfl
      | fact a b => exact absurd rfl hy
      | rule a b c d => rfl
      | den a b => rfl
    refine Prod.ext (e1.trans k1.symm) (Prod.ext (e2.trans k2.symm) ?_)
    rw [e3 x (by rw [e1]; exact k3), e3 i (by rw [k1]; exact k3)]
theorem Cov.all {its out : List It1} (c : Cov its 4 [] out) (si : SortedI its) (oi : OkL its) : out = its := by
  refine sorted_ext c.srt si c.ok oi fun x => ?_
  rw [c.mem x]
  exact ⟨fun h => h.1, fun h => ⟨h, .inl (sort_in x).2⟩⟩
/-! ### sorted names -/
theorem str_lt {x y : Str} (h : ltCps x.cps.toList y.cps.toList = false) (n : x ≠ y) : y.cps.toList < x.cps.toList := by
  rw [ltCps_eq] at h
  have h1 := of_decide_eq_false h
  rcases Classical.em (y.cps.toList < x.cps.toList) with z | z
  · exact z
  · refine absurd ?_ n
    have e : y.cps.toList = x.cps.toList := List.le_antisymm h1 z
    obtain ⟨⟨a⟩⟩ := x
    obtain ⟨⟨b⟩⟩ := y
    have e : b = a := e
    rw [e]
theorem rising_pw : ∀ {r : List Str} {x : Str}, risingS x r = true → (x :: r).Nodup → (x :: r).Pairwise fun a b => a.cps.toList < b.cps.toList
  | [], x, _, _ => List.pairwise_singleton _ _
  | y :: r, x, h, n => by
    have h1 : (!ltCps y.cps.toList x.cps.toList && risingS y r) = true := h
    rw [Bool.and_eq_true] at h1
    obtain ⟨n1, n2⟩ := List.nodup_cons.mp n
    have ih := rising_pw h1.2 n2
    have xy : x.cps.toList < y.cps.toList := str_lt (by simpa using h1.1) (fun z => n1 (by rw [z]; exact List.mem_cons_self))
    rw [List.pairwise_cons]
    refine ⟨fun z hz => ?_, ih⟩
    rcases List.mem_cons.mp hz with e | hz
    · rw [e]
      exact xy
    · exact List.lt_trans xy ((List.pairwise_cons.mp ih).1 z hz)
theorem sorted_pw {ys : List Str} (h : sortedS ys = true) (n : ys.Nodup) : ys.Pairwise fun a b => a.cps.toList < b.cps.toList := by
  cases ys with
  | nil => exact List.Pairwise.nil
  | cons x r => exact rising_pw h n
/-- the names of a dict, sorted: what call_sortedD asks, and what it gives -/
theorem names_of {kvs : List (Key × V)} (h : ∀ k v, (k, v) ∈ kvs → ∃ nm : Str, k = Sum.inr nm) : ∃ ks : List Str, kvs.map (·.1) = ks.map Sum.inr := by
  induction kvs with
  | nil => exact ⟨[], rfl⟩
  | cons p r ih =>
    obtain ⟨ks, e⟩ := ih fun k v m => h k v (List.mem_cons_of_mem _ m)
    obtain ⟨nm, e1⟩ := h p.1 p.2 List.mem_cons_self
    exact ⟨nm :: ks, by rw [List.map_cons, List.map_cons, e, e1]⟩
theorem names_len {kvs : List (Key × V)} {ks : List Str} {its : List It1} (h : kvs.map (·.1) = ks.map Sum.inr) (n : nd kvs) (c : ∀ nm ∈ ks, ∃ x ∈ its, (keyI x).2.1 = nm) : ks.length ≤ its.length ∧ ks.Nodup := by
  have n2 : ks.Nodup := by
    have n1 : (ks.map (Sum.inr : Str → Key)).Nodup := by
      rw [← h]
      exact n
    exact (List.pairwise_map.mp n1).imp fun {a b} h z => h (by rw [z])
  refine ⟨?_, n2⟩
  have := nodup_le (m := its.map fun x => (keyI x).2.1) n2 fun x hx => by
    obtain ⟨y, hy, e⟩ := c x hx
    exact List.mem_map.mpr ⟨y, hy, e⟩
  rwa [List.length_map] at this
theorem pw_take {ns : List Str} (h : ns.Pairwise fun a b => a.cps.toList < b.cps.toList) {i : Nat} {nm : Str} (e : ns[i]? = some nm) : ∀ n ∈ ns.take i, n.cps.toList < nm.cps.toList := fun n hn => by
  obtain ⟨j, hj, e2⟩ := List.getElem_of_mem hn
  rw [List.length_take] at hj
  rw [List.getElem_take] at e2
  obtain ⟨hi, e3⟩ := List.getElem?_eq_some_iff.mp e
  rw [← e2, ← e3]
  exact List.pairwise_iff_getElem.mp h j i (by omega) hi (by omega)
theorem take_next {α : Type} {ns : List α} {i : Nat} {x : α} (e : ns[i]? = some x) : ns.take (i + 1) = ns.take i ++ [x] := by
  rw [List.take_add_one, e]
  rfl
end KD

namespace KD
open PySem PySem.Spec PyProof.Rows L2 KA
theorem inv3r {H : Hp} {v : V} {c : Str} {d f : PyData} (t : Tp H v (.tuple [.str c, d, f])) : ∃ p, v = .ref p ∧ ∃ y z, H p = some (.tup [.str c, y, z]) ∧ Tp H y d ∧ Tp H z f := by
  cases t with
  | tup e r =>
    cases r with
    | cons h1 r => cases r with
      | cons h2 r => cases r with
        | cons h3 r =>
          cases r
          cases h1
          exact ⟨_, rfl, _, _, e, h2, h3⟩
section
variable {P : Program} {w : World} {K : PySem.W.Frag} {mg : Str → Option Value} {base : Heap} {C : Addr}
abbrev sAll : Stmt := inClass (topS 8) 1
theorem scAll : FnScope ["self", "name", "found", "relation", "terms", "body", "row"] ["self"] (defScope sAll) := ⟨rfl, rfl, rfl, by decide +kernel, rfl, by decide +kernel, by decide +kernel⟩
def spAll (C : Addr) : Sp := fun vs H Q _ => ∃ (s : Addr) (its : List It1) (F : Addr → Prop) (N : Nat), vs = [.ref s] ∧ StAt C H s its F N ∧ N ≤ 1000 ∧ its.length < 64 ∧ ∀ L ys H', Same H H' → H L = none → H' L = some (.lst ys) → Tps H' ys (its.map itD) → Q (.ref L) H'
theorem ok_all {f0 : Addr} {fd : FuncData} (F0 : Fun K "all_items" "State.all_items" sAll f0 fd) (T : Cs K mg C) (hso : mg "sorted" = none) : FnOk P w K mg base CX0 1 f0 fd ["self"] (spAll C) := by
  refine F0.ok scAll (fun vs H Q E h => ?_) (fun cdv A outer s H vs Q E hr h => ?_)
  · obtain ⟨_, _, _, _, rfl, _⟩ := h
    rfl
  · obtain ⟨s, its, F, N, rfl, S, hN, h64, q⟩ := h
    have hu := hu_of hr
    refine ⟨_, pss_cons (ps_setLc (i := 2) (own := [("name", 1)]) (g := gName 1) (tt := tYes) (te := tTup (tCons (tC (.str "relation")) (tCons (tVar 1) (tCons (tDGet (tFld K (tVar 0) "relations") (tVar 1)) tNil)))) (by rfl) scAll.nd rfl rfl (sw_true rfl rfl rfl (by decide +kernel))
        (pi_list (pe_callB (call_sortedD rfl) (by rfl) hso boot_sorted (pa_cons (pe_fld (pv 0) rfl) pa_nil))) (blkOk_by (own := [("name", 1)]) (N := ["self", "name", "found", "relation", "terms", "body", "row"]) (sc := defScope sAll) (by decide +kernel))
        (fun _ _ _ _ _ => pg_name (i := 1) scAll.nd rfl (Or.inl rfl)) (fun _ _ _ _ _ => pts_nil) (fun _ _ _ _ _ => pe_tup (pa_cons pe_str (pa_cons (pv 1) (pa_cons (pe_dget hu (pe_fld (pv 0) rfl) (pv 1) (fun _ _ => rfl)) pa_nil)))))
      (C8.pss_cut (ps_for PassesOwn.never rfl (pi_list (pe_callB (call_sortedD rfl) (by rfl) hso boot_sorted (pa_cons (pe_fld (pv 0) rfl) pa_nil))) (pg_name (i := 1) scAll.nd rfl (.inr rfl))
        (pss_one (ps_expr (pe_bm PySem.F.plainAttrs_list PySem.F.slot_list_extend PySem.F.type_list_extend mt_extend (pv 2) (pa_cons (pe_lc (own := [("row", 6)]) (g := gName 6) (tt := tYes) (te := tTup (tCons (tC (.str "fact")) (tCons (tVar 1) (tCons (tVar 6) tNil)))) rfl scAll.nd
          (pi_list (pe_dget hu (pe_fld (pv 0) rfl) (pv 1) (fun _ _ => rfl))) (blkOk_by (own := [("row", 6)]) (N := ["self", "name", "found", "relation", "terms", "body", "row"]) (sc := defScope sAll) (by decide +kernel))
          (fun _ _ _ _ _ => pg_name (i := 6) scAll.nd rfl (Or.inl rfl)) (fun _ _ _ _ _ => pts_nil) (fun _ _ _ _ _ => pe_tup (pa_cons pe_str (pa_cons (pv 1) (pa_cons (pv 6) pa_nil))))) pa_nil)))))
      (C8.pss_cut (ps_for PassesOwn.never rfl (pi_list (pe_callB (call_sortedD rfl) (by rfl) hso boot_sorted (pa_cons (pe_fld (pv 0) rfl) pa_nil))) (pg_name (i := 1) scAll.nd rfl (.inr rfl))
        (pss_cons (ps_asg (pe_dget hu (pe_fld (pv 0) rfl) (pv 1) (fun _ _ => rfl)) (pg_tup rfl (pgs_cons (pg_name (i := 3) scAll.nd rfl (.inl rfl)) (pgs_cons (pg_name (i := 4) scAll.nd rfl (.inl rfl)) (pgs_cons (pg_name (i := 5) scAll.nd rfl (.inl rfl)) pgs_nil)))))
        (pss_one (ps_expr (pe_bm PySem.F.plainAttrs_list PySem.F.slot_list_append PySem.F.type_list_append mt_append (pv 2) (pa_cons (pe_tup (pa_cons pe_str (pa_cons (pv 1) (pa_cons (pv 3) (pa_cons (pv 4) (pa_cons (pv 5) pa_nil)))))) pa_nil))))))
      (C8.pss_cut (ps_for PassesOwn.never rfl (pi_list (pe_callB (call_sortedD rfl) (by rfl) hso boot_sorted (pa_cons (pe_fld (pv 0) rfl) pa_nil))) (pg_name (i := 1) scAll.nd rfl (.inr rfl))
        (pss_one (ps_expr (pe_bm PySem.F.plainAttrs_list PySem.F.slot_list_append PySem.F.type_list_append mt_append (pv 2) (pa_cons (pe_tup (pa_cons pe_str (pa_cons (pv 1) (pa_cons (pe_dget hu (pe_fld (pv 0) rfl) (pv 1) (fun _ _ => rfl)) pa_nil)))) pa_nil)))))
      (pss_one (ps_ret (pv 2)))))), ?_⟩
    obtain ⟨dx, r, f, u, d, kr, kf, ku, kd, b⟩ := id S
    obtain ⟨r1, r2, r3⟩ := id b.rel
    obtain ⟨f1, f2, f3, f4, f5⟩ := id b.fac
    obtain ⟨u1, u2, u3, u4⟩ := id b.rul
    obtain ⟨d1, d2, d3, d4⟩ := id b.den
    -- the keys
    obtain ⟨kn, ekn⟩ := names_of (kvs := kr) fun k v m => let ⟨nm, _, e, _⟩ := (r3 k v).mp m; ⟨nm, e⟩
    obtain ⟨fn, efn⟩ := names_of (kvs := kf) fun k v m => let ⟨nm, _, _, e, _⟩ := f3 k v m; ⟨nm, e⟩
    obtain ⟨un, eun⟩ := names_of (kvs := ku) fun k v m => let ⟨nm, _, _, _, e, _⟩ := u3 k v m; ⟨nm, e⟩
    obtain ⟨dn, edn⟩ := names_of (kvs := kd) fun k v m => let ⟨nm, _, e, _⟩ := d3 k v m; ⟨nm, e⟩
    have inK : ∀ {kvs : List (Key × V)} {ks : List Str} {nm : Str}, kvs.map (·.1) = ks.map Sum.inr → (nm ∈ ks ↔ ∃ v, ((Sum.inr nm : Key), v) ∈ kvs) := fun {kvs ks nm} e => by
      constructor
      · intro h
        have h1 : (Sum.inr nm : Key) ∈ kvs.map (·.1) := by
          rw [e]
          exact List.mem_map.mpr ⟨nm, h, rfl⟩
        obtain ⟨⟨k, v⟩, h2, h3⟩ := List.mem_map.mp h1
        exact ⟨v, by rw [← h3]; exact h2⟩
      · rintro ⟨v, h⟩
        have h1 : (Sum.inr nm : Key) ∈ kvs.map (·.1) := List.mem_map.mpr ⟨_, h, rfl⟩
        rw [e] at h1
        obtain ⟨x, h2, h3⟩ := List.mem_map.mp h1
        injection h3 with h3
        rw [← h3]
        exact h2
    obtain ⟨lk, nk⟩ := names_len (its := its) ekn r1 fun nm h => by
      obtain ⟨v, m⟩ := (inK ekn).mp h
      obtain ⟨x, n, e, _, hi⟩ := (r3 _ _).mp m
      injection e with e
      exact ⟨_, hi, e.symm⟩
    obtain ⟨lf, nf⟩ := names_len (its := its) efn f1 fun nm h => by
      rcases (f4 nm).mp ((inK efn).mp h) with ⟨n, hi⟩ | ⟨ds, hi⟩
      · exact ⟨_, hi, rfl⟩
      · exact ⟨_, hi, rfl⟩
    obtain ⟨lu, nu⟩ := names_len (its := its) eun u1 fun nm h => by
      obtain ⟨v, m⟩ := (inK eun).mp h
      obtain ⟨x, rl, ts, bd, e, _, hi⟩ := u3 _ _ m
      injection e with e
      exact ⟨_, hi, e.symm⟩
    obtain ⟨ld, nd'⟩ := names_len (its := its) edn d1 fun nm h => by
      obtain ⟨v, m⟩ := (inK edn).mp h
      obtain ⟨x, bd, e, _, hi⟩ := d3 _ _ m
      injection e with e
      exact ⟨_, hi, e.symm⟩
    have s3 : 3 ≤ sizeLine := by decide
    have s5 : 5 ≤ sizeLine := by decide
    have szs : its.length + its.length ≤ 1000 := by omega
    -- relations
    refine ⟨.ref s, rfl, s, C, dx, _, _, rfl, b.hs, T.cl, T.nR, fl_rel _ _ _ _, r, kr, kn, rfl, .of b.hr, ekn, by omega, fun zs zp per srt nzp => ?_⟩
    have pz := sorted_pw srt (per.nodup_iff.mpr nk)
    have sm1 : Same H (upd H zp (.lst (zs.map V.str))) := same_new nzp
    refine ⟨zp, rfl, ⟨_, SqL.of upd_same⟩, fun L nL => ?_⟩
    have nLH : H L = none := sm1.free nL
    refine lc_it walk_list (fun i H' => (∀ a o, (upd H zp (.lst (zs.map V.str))) a = some o → H' a = some o) ∧ ∃ ys out, H' L = some (.lst ys) ∧ Tps H' ys (out.map itD) ∧ Cov its 0 (zs.take i) out) ⟨same_new nL, [], [], upd_same, .nil, by exact Cov.start⟩ (fun i H' _ hP => SqL.of (hP.1 _ _ upd_same)) (fun i x H' H2 hi hP hY => ?_) (fun H' hP => ?_)
    · obtain ⟨rfl, hx⟩ := hY
      obtain ⟨sm, ys, out, eL, tp, cv⟩ := hP
      have smH : Same H H2 := sm1.trans sm
      rw [List.getElem?_map] at hx
      cases ez : zs[i]? with
      | none =>
        rw [ez] at hx
        cases hx
      | some nm =>
        rw [ez] at hx
        have hx : V.str nm = x := Option.some.inj hx
        subst hx
        obtain ⟨v, hm⟩ := (inK ekn).mp (per.mem_iff.mp (List.mem_of_getElem? ez))
        obtain ⟨x', n, e1, e2, hit⟩ := (r3 _ _).mp hm
        injection e1 with e1
        subst e1
        subst e2
        refine ⟨rfl, ?_⟩
        refine iteT (B := True) ?_
        refine ⟨.str nm, rfl, .ref s, rfl, s, C, dx, _, _, rfl, smH _ _ b.hs, T.cl, T.nR, fl_rel _ _ _ _, .str nm, rfl, r, .int n, rfl, (by rw [← (mem_val r1).mpr hm]; exact DGet.k (k := Sum.inr nm) (smH _ _ b.hr)), s3, fun p np => ?_⟩
        have npL : L ≠ p := fun z => by rw [← z, eL] at np; cases np
        have eL' : (upd H2 p (.tup [.str "relation", .str nm, .int n])) L = some (.lst ys) := by
          rw [upd_ne npL]
          exact eL
        have ly : ys.length = out.length := by rw [tp.length, List.length_map]
        have lo := cv.len
        refine ⟨ys, eL', small1000 (by omega), fun a o h => ?_, ys ++ [.ref p], out ++ [.rel nm n], upd_same, ?_, ?_⟩
        · rw [upd_ne (ne_of_none h nL), upd_ne (ne_of_none (sm a o h) np)]
          exact sm a o h
        · rw [List.map_append]
          have tk1 : Tk H2 (upd (upd H2 p (.tup [.str "relation", .str nm, .int n])) L (.lst (ys ++ [.ref p]))) := (Tk.new np).trans (Tk.lst eL')
          refine (tp.mono tk1).append (.cons (.tup (by rw [upd_ne npL.symm]; exact upd_same) (.cons (.str _) (.cons (.str _) (.cons (.int _) .nil)))) .nil)
        · rw [take_next ez]
          exact cv.one (pw_take pz ez) b.srt b.ok hit rfl rfl (by decide)
    obtain ⟨sm, ys, out, eL, tp, cv⟩ := hP
    rw [List.length_map, List.take_length] at cv
    have cv1 := cv.next fun x hx k => by
      cases x with
      | rel nm n => exact per.mem_iff.mpr ((inK ekn).mpr ⟨_, (r3 _ _).mpr ⟨nm, n, rfl, rfl, hx⟩⟩)
      | fact nm ds => exact absurd (show (1 : Int) = 0 from k) (by decide)
      | rule nm a c e => exact absurd (show (2 : Int) = 0 from k) (by decide)
      | den nm a => exact absurd (show (3 : Int) = 0 from k) (by decide)
    have smH : Same H H' := sm1.trans sm
    clear cv sm sm1 pz
    -- the loops: what stands behind each
    refine ⟨fun σ H' => (∃ x1 x3 x4 x5, σ = [some (.ref s), x1, some (.ref L), x3, x4, x5, none]) ∧ Same H H' ∧ ∃ ys out, H' L = some (.lst ys) ∧ Tps H' ys (out.map itD) ∧ Cov its 2 [] out, ?_, ?_⟩
    · -- facts
      refine ⟨.ref s, rfl, s, C, dx, _, _, rfl, smH _ _ b.hs, T.cl, T.nF, fl_fac _ _ _ _, f, kf, fn, rfl, .of (smH _ _ b.hf), efn, by omega, fun zs zp per srt nzp => ?_⟩
      have pz := sorted_pw srt (per.nodup_iff.mpr nf)
      have sm1 : Same H' (upd H' zp (.lst (zs.map V.str))) := same_new nzp
      have nzL : zp ≠ L := fun z => by rw [z, eL] at nzp; cases nzp
      have eL1 := sm1 _ _ eL
      have tp1 := tp.mono (Tk.of sm1)
      have smH1 := smH.trans sm1
      have ezp : (upd H' zp (.lst (zs.map V.str))) zp = some (.lst (zs.map V.str)) := upd_same
      revert eL1 tp1 smH1 ezp
      generalize upd H' zp (.lst (zs.map V.str)) = H1
      intro eL1 tp1 smH1 ezp
      refine ⟨zp, rfl, ⟨_, SqL.of ezp⟩, ?_⟩
      refine for_list (K := K) (a := zp) (xs := zs.map V.str) (fun i σ H2 => (∃ x1 x3 x4 x5, σ = [some (.ref s), x1, some (.ref L), x3, x4, x5, none]) ∧ Same H H2 ∧ H2 zp = some (.lst (zs.map V.str)) ∧ ∃ ys out, H2 L = some (.lst ys) ∧ Tps H2 ys (out.map itD) ∧ Cov its 1 (zs.take i) out) ⟨⟨_, _, _, _, rfl⟩, smH1, ezp, ys, out, eL1, tp1, cv1⟩ (fun i σ H2 _ hP => SqL.of hP.2.2.1) (fun i x σ H2 hx hP => ?_) (fun σ H2 hP => ?_)
      · obtain ⟨⟨x1, x3, x4, x5, rfl⟩, smq, eq, ys, out, eL, tp, cv⟩ := hP
        rw [List.getElem?_map] at hx
        cases ez : zs[i]? with
        | none =>
          rw [ez] at hx
          cases hx
        | some nm =>
          rw [ez] at hx
          have hx : V.str nm = x := Option.some.inj hx
          subst hx
          obtain ⟨v, hm⟩ := (inK efn).mp (per.mem_iff.mp (List.mem_of_getElem? ez))
          obtain ⟨x', l, rs, e1, rfl, hF, ⟨⟨xs, el, tr⟩, rsr, rok, rln⟩, rmm⟩ := f3 _ _ hm
          injection e1 with e1
          subst e1
          have nlL : l ≠ L := fun z => by rw [z, nLH] at el; cases el
          have el2 := smq _ _ el
          refine ⟨.ref L, rfl, .inl ⟨rfl, _, SqL.of eL⟩, .ref s, rfl, s, C, dx, _, _, rfl, smq _ _ b.hs, T.cl, T.nF, fl_fac _ _ _ _, .str nm, rfl, f, .ref l, rfl, (by rw [← (mem_val f1).mpr hm]; exact DGet.k (k := Sum.inr nm) (smq _ _ b.hf)), l, rfl, ⟨xs, SqL.of el2⟩, fun D nD => ?_⟩
          have lxs : xs.length = rs.length := by rw [tr.length, List.length_map]
          refine lc_it walk_list (fun j H3 => (∀ a o, H2 a = some o → H3 a = some o) ∧ ∃ zs2, H3 D = some (.lst zs2) ∧ Tps H3 zs2 (((rs.take j).map (It1.fact nm)).map itD)) ⟨same_new nD, [], upd_same, .nil⟩ (fun j H3 _ hQ => SqL.of (hQ.1 _ _ el2)) (fun j y H3 H4 hj hQ hY => ?_) (fun H3 hQ => ?_)
          · obtain ⟨rfl, hy⟩ := hY
            obtain ⟨sm3, zs2, eD, tz⟩ := hQ
            obtain ⟨dd, ed, ty⟩ := tr.get hy
            rw [List.getElem?_map] at ed
            cases er : rs[j]? with
            | none =>
              rw [er] at ed
              cases ed
            | some row =>
              rw [er] at ed
              have ed : PyData.tuple row = dd := Option.some.inj ed
              subst ed
              refine ⟨rfl, ?_⟩
              refine iteT (B := True) ?_
              refine ⟨.str nm, rfl, y, rfl, s3, fun p np => ?_⟩
              have npD : D ≠ p := fun z => by rw [← z, eD] at np; cases np
              have eD' : (upd H4 p (.tup [.str "fact", .str nm, y])) D = some (.lst zs2) := by
                rw [upd_ne npD]
                exact eD
              have lz : zs2.length = (rs.take j).length := by rw [tz.length, List.length_map, List.length_map]
              rw [List.length_take] at lz
              refine ⟨zs2, eD', small1000 (by omega), fun a o h => ?_, zs2 ++ [.ref p], upd_same, ?_⟩
              · rw [upd_ne (ne_of_none h nD), upd_ne (ne_of_none (sm3 a o h) np)]
                exact sm3 a o h
              · rw [take_next er, List.map_append, List.map_append]
                have tk1 : Tk H4 (upd (upd H4 p (.tup [.str "fact", .str nm, y])) D (.lst (zs2 ++ [.ref p]))) := (Tk.new np).trans (Tk.lst eD')
                exact (tz.mono tk1).append (.cons (.tup (by rw [upd_ne npD.symm]; exact upd_same) (.cons (.str _) (.cons (.str _) (.cons ((ty.mono (Tk.of (smq.trans sm3))).mono tk1) .nil)))) .nil)
          · obtain ⟨sm3, zs2, eD, tz⟩ := hQ
            rw [lxs, List.take_length] at tz
            have eL3 := sm3 _ _ eL
            have tp3 := tp.mono (Tk.of sm3)
            have ly : ys.length = out.length := by rw [tp.length, List.length_map]
            have lz : zs2.length = rs.length := by rw [tz.length, List.length_map, List.length_map]
            have lo := cv.len
            have cvn := cv.step (nm := nm) (blk := rs.map (It1.fact nm)) (pw_take pz ez) (by
              unfold SortedI
              rw [List.pairwise_map]
              exact List.Pairwise.imp (R := fun a c => rord a c < 0) (fun {a c} (h : rord a c < 0) => (kc_lt_iff (a := (1, nm, a)) (b := (1, nm, c))).mpr (.inr ⟨rfl, .inr ⟨rfl, h⟩⟩)) rsr) (fun x hx => by
              obtain ⟨ds, h1, h2⟩ := List.mem_map.mp hx
              rw [← h2]
              exact rok ds h1) (fun x => by
              rw [List.mem_map]
              constructor
              · rintro ⟨ds, h1, rfl⟩
                exact ⟨(rmm ds).mp h1, rfl, rfl⟩
              · rintro ⟨h1, h2, h3⟩
                cases x with
                | rel a c => exact absurd (show (0 : Int) = 1 from h2) (by decide)
                | fact a ds =>
                  have h3 : a = nm := h3
                  subst h3
                  exact ⟨ds, (rmm ds).mpr h1, rfl⟩
                | rule a c e g => exact absurd (show (2 : Int) = 1 from h2) (by decide)
                | den a c => exact absurd (show (3 : Int) = 1 from h2) (by decide))
            have hb := cvn.len
            rw [List.length_append, List.length_map] at hb
            refine ⟨L, D, ys, zs2, rfl, rfl, eL3, eD, Nat.le_of_lt (small1000 (by omega)), ?_⟩
            have smf : Same H (upd H3 L (.lst (ys ++ zs2))) := fun a o h => by
              rw [upd_ne (ne_of_none h nLH)]
              exact sm3 a o (smq a o h)
            refine ⟨⟨_, _, _, _, rfl⟩, smf, ?_, ys ++ zs2, out ++ rs.map (It1.fact nm), upd_same, ?_, ?_⟩
            · have hz : zp ≠ L := fun z => by
                rw [z, eL] at eq
                injection eq with eq
                injection eq with eq
                exact nzL z
              rw [upd_ne hz]
              exact sm3 _ _ eq
            · rw [List.map_append]
              exact (tp3.append tz).mono (Tk.lst eL3)
            · rw [take_next ez]
              exact cvn
      · obtain ⟨w1, w2, w3, ys, out, eL, tp, cv⟩ := hP
        rw [List.length_map, List.take_length] at cv
        refine ⟨w1, w2, ys, out, eL, tp, cv.next fun x hx k => ?_⟩
        cases x with
        | rel nm n => exact absurd (show (0 : Int) = 1 from k) (by decide)
        | fact nm ds => exact per.mem_iff.mpr ((inK efn).mpr ((f4 nm).mpr (.inr ⟨ds, hx⟩)))
        | rule nm a c e => exact absurd (show (2 : Int) = 1 from k) (by decide)
        | den nm a => exact absurd (show (3 : Int) = 1 from k) (by decide)
    · -- rules
      rintro σ H2 ⟨⟨x1, x3, x4, x5, rfl⟩, smH, ys, out, eL, tp, cv1⟩
      refine ⟨fun σ H' => (∃ x1 x3 x4 x5, σ = [some (.ref s), x1, some (.ref L), x3, x4, x5, none]) ∧ Same H H' ∧ ∃ ys out, H' L = some (.lst ys) ∧ Tps H' ys (out.map itD) ∧ Cov its 3 [] out, ?_, ?_⟩
      · refine ⟨.ref s, rfl, s, C, dx, _, _, rfl, smH _ _ b.hs, T.cl, T.nU, fl_rul _ _ _ _, u, ku, un, rfl, .of (smH _ _ b.hu), eun, by omega, fun zs zp per srt nzp => ?_⟩
        have pz := sorted_pw srt (per.nodup_iff.mpr nu)
        have sm1 : Same H2 (upd H2 zp (.lst (zs.map V.str))) := same_new nzp
        have nzL : zp ≠ L := fun z => by rw [z, eL] at nzp; cases nzp
        have eL1 := sm1 _ _ eL
        have tp1 := tp.mono (Tk.of sm1)
        have smH1 := smH.trans sm1
        have ezp : (upd H2 zp (.lst (zs.map V.str))) zp = some (.lst (zs.map V.str)) := upd_same
        revert eL1 tp1 smH1 ezp
        generalize upd H2 zp (.lst (zs.map V.str)) = H1
        intro eL1 tp1 smH1 ezp
        refine ⟨zp, rfl, ⟨_, SqL.of ezp⟩, ?_⟩
        refine for_list (K := K) (a := zp) (xs := zs.map V.str) (fun i σ H2 => (∃ x1 x3 x4 x5, σ = [some (.ref s), x1, some (.ref L), x3, x4, x5, none]) ∧ Same H H2 ∧ H2 zp = some (.lst (zs.map V.str)) ∧ ∃ ys out, H2 L = some (.lst ys) ∧ Tps H2 ys (out.map itD) ∧ Cov its 2 (zs.take i) out) ⟨⟨_, _, _, _, rfl⟩, smH1, ezp, ys, out, eL1, tp1, cv1⟩ (fun i σ H2 _ hP => SqL.of hP.2.2.1) (fun i x σ H2 hx hP => ?_) (fun σ H2 hP => ?_)
        · obtain ⟨⟨x1, x3, x4, x5, rfl⟩, smq, eq, ys, out, eL, tp, cv⟩ := hP
          rw [List.getElem?_map] at hx
          cases ez : zs[i]? with
          | none =>
            rw [ez] at hx
            cases hx
          | some nm =>
            rw [ez] at hx
            have hx : V.str nm = x := Option.some.inj hx
            subst hx
            obtain ⟨v, hm⟩ := (inK eun).mp (per.mem_iff.mp (List.mem_of_getElem? ez))
            obtain ⟨x', rl, ts, bd, e1, tv, hit⟩ := u3 _ _ hm
            injection e1 with e1
            subst e1
            obtain ⟨pv0, rfl, y, z, ev, ty, tz⟩ := inv3r (tv.mono (Tk.of smq))
            refine ⟨.ref s, rfl, s, C, dx, _, _, rfl, smq _ _ b.hs, T.cl, T.nU, fl_rul _ _ _ _, .str nm, rfl, u, .ref pv0, rfl, (by rw [← (mem_val u1).mpr hm]; exact DGet.k (k := Sum.inr nm) (smq _ _ b.hu)), pv0, _, rfl, SqT.of ev, rfl, _, _, rfl, _, _, rfl, _, _, rfl, rfl, ?_⟩
            have ly : ys.length = out.length := by rw [tp.length, List.length_map]
            have lo := cv.len
            refine ⟨.ref L, rfl, .inl ⟨rfl, _, SqL.of eL⟩, .str nm, rfl, .str rl, rfl, y, rfl, z, rfl, s5, fun p np => ?_⟩
            have npL : L ≠ p := fun z => by rw [← z, eL] at np; cases np
            have eL' : (upd H2 p (.tup [.str "rule", .str nm, .str rl, y, z])) L = some (.lst ys) := by
              rw [upd_ne npL]
              exact eL
            have tk1 : Tk H2 (upd (upd H2 p (.tup [.str "rule", .str nm, .str rl, y, z])) L (.lst (ys ++ [.ref p]))) := (Tk.new np).trans (Tk.lst eL')
            refine ⟨L, ys, .ref p, rfl, rfl, eL', small1000 (by omega), ⟨_, _, _, _, rfl⟩, fun a o h => ?_, ?_, ys ++ [.ref p], out ++ [.rule nm rl ts bd], upd_same, ?_, ?_⟩
            · rw [upd_ne (ne_of_none h nLH), upd_ne (ne_of_none (smq a o h) np)]
              exact smq a o h
            · rw [upd_ne nzL, upd_ne (ne_of_none eq np)]
              exact eq
            · rw [List.map_append]
              exact (tp.mono tk1).append (.cons (.tup (by rw [upd_ne npL.symm]; exact upd_same) (.cons (.str _) (.cons (.str _) (.cons (.str _) (.cons (ty.mono tk1) (.cons (tz.mono tk1) .nil)))))) .nil)
            · rw [take_next ez]
              exact cv.one (pw_take pz ez) b.srt b.ok hit rfl rfl (by decide)
        · obtain ⟨w1, w2, w3, ys, out, eL, tp, cv⟩ := hP
          rw [List.length_map, List.take_length] at cv
          refine ⟨w1, w2, ys, out, eL, tp, cv.next fun x hx k => ?_⟩
          cases x with
          | rel nm n => exact absurd (show (0 : Int) = 2 from k) (by decide)
          | fact nm ds => exact absurd (show (1 : Int) = 2 from k) (by decide)
          | rule nm a c e => exact per.mem_iff.mpr ((inK eun).mpr (u4 _ _ _ _ hx))
          | den nm a => exact absurd (show (3 : Int) = 2 from k) (by decide)
      · -- denials
        rintro σ H2 ⟨⟨x1, x3, x4, x5, rfl⟩, smH, ys, out, eL, tp, cv1⟩
        refine ⟨fun σ H' => (∃ x1 x3 x4 x5, σ = [some (.ref s), x1, some (.ref L), x3, x4, x5, none]) ∧ Same H H' ∧ ∃ ys out, H' L = some (.lst ys) ∧ Tps H' ys (out.map itD) ∧ Cov its 4 [] out, ?_, ?_⟩
        · refine ⟨.ref s, rfl, s, C, dx, _, _, rfl, smH _ _ b.hs, T.cl, T.nD, fl_den _ _ _ _, d, kd, dn, rfl, .of (smH _ _ b.hd), edn, by omega, fun zs zp per srt nzp => ?_⟩
          have pz := sorted_pw srt (per.nodup_iff.mpr nd')
          have sm1 : Same H2 (upd H2 zp (.lst (zs.map V.str))) := same_new nzp
          have nzL : zp ≠ L := fun z => by rw [z, eL] at nzp; cases nzp
          have eL1 := sm1 _ _ eL
          have tp1 := tp.mono (Tk.of sm1)
          have smH1 := smH.trans sm1
          have ezp : (upd H2 zp (.lst (zs.map V.str))) zp = some (.lst (zs.map V.str)) := upd_same
          revert eL1 tp1 smH1 ezp
          generalize upd H2 zp (.lst (zs.map V.str)) = H1
          intro eL1 tp1 smH1 ezp
          refine ⟨zp, rfl, ⟨_, SqL.of ezp⟩, ?_⟩
          refine for_list (K := K) (a := zp) (xs := zs.map V.str) (fun i σ H2 => (∃ x1 x3 x4 x5, σ = [some (.ref s), x1, some (.ref L), x3, x4, x5, none]) ∧ Same H H2 ∧ H2 zp = some (.lst (zs.map V.str)) ∧ ∃ ys out, H2 L = some (.lst ys) ∧ Tps H2 ys (out.map itD) ∧ Cov its 3 (zs.take i) out) ⟨⟨_, _, _, _, rfl⟩, smH1, ezp, ys, out, eL1, tp1, cv1⟩ (fun i σ H2 _ hP => SqL.of hP.2.2.1) (fun i x σ H2 hx hP => ?_) (fun σ H2 hP => ?_)
          · obtain ⟨⟨x1, x3, x4, x5, rfl⟩, smq, eq, ys, out, eL, tp, cv⟩ := hP
            rw [List.getElem?_map] at hx
            cases ez : zs[i]? with
            | none =>
              rw [ez] at hx
              cases hx
            | some nm =>
              rw [ez] at hx
              have hx : V.str nm = x := Option.some.inj hx
              subst hx
              obtain ⟨v, hm⟩ := (inK edn).mp (per.mem_iff.mp (List.mem_of_getElem? ez))
              obtain ⟨x', bd, e1, tv, hit⟩ := d3 _ _ hm
              injection e1 with e1
              subst e1
              have ly : ys.length = out.length := by rw [tp.length, List.length_map]
              have lo := cv.len
              refine ⟨.ref L, rfl, .inl ⟨rfl, _, SqL.of eL⟩, .str nm, rfl, .ref s, rfl, s, C, dx, _, _, rfl, smq _ _ b.hs, T.cl, T.nD, fl_den _ _ _ _, .str nm, rfl, d, v, rfl, (by rw [← (mem_val d1).mpr hm]; exact DGet.k (k := Sum.inr nm) (smq _ _ b.hd)), s3, fun p np => ?_⟩
              have npL : L ≠ p := fun z => by rw [← z, eL] at np; cases np
              have eL' : (upd H2 p (.tup [.str "denial", .str nm, v])) L = some (.lst ys) := by
                rw [upd_ne npL]
                exact eL
              have tk1 : Tk H2 (upd (upd H2 p (.tup [.str "denial", .str nm, v])) L (.lst (ys ++ [.ref p]))) := (Tk.new np).trans (Tk.lst eL')
              refine ⟨L, ys, .ref p, rfl, rfl, eL', small1000 (by omega), ⟨_, _, _, _, rfl⟩, fun a o h => ?_, ?_, ys ++ [.ref p], out ++ [.den nm bd], upd_same, ?_, ?_⟩
              · rw [upd_ne (ne_of_none h nLH), upd_ne (ne_of_none (smq a o h) np)]
                exact smq a o h
              · rw [upd_ne nzL, upd_ne (ne_of_none eq np)]
                exact eq
              · rw [List.map_append]
                exact (tp.mono tk1).append (.cons (.tup (by rw [upd_ne npL.symm]; exact upd_same) (.cons (.str _) (.cons (.str _) (.cons ((tv.mono (Tk.of smq)).mono tk1) .nil)))) .nil)
              · rw [take_next ez]
                exact cv.one (pw_take pz ez) b.srt b.ok hit rfl rfl (by decide)
          · obtain ⟨w1, w2, w3, ys, out, eL, tp, cv⟩ := hP
            rw [List.length_map, List.take_length] at cv
            refine ⟨w1, w2, ys, out, eL, tp, cv.next fun x hx k => ?_⟩
            cases x with
            | rel nm n => exact absurd (show (0 : Int) = 3 from k) (by decide)
            | fact nm ds => exact absurd (show (1 : Int) = 3 from k) (by decide)
            | rule nm a c e => exact absurd (show (2 : Int) = 3 from k) (by decide)
            | den nm a => exact per.mem_iff.mpr ((inK edn).mpr (d4 _ _ hx))
        · rintro σ H2 ⟨⟨x1, x3, x4, x5, rfl⟩, smH, ys, out, eL, tp, cv1⟩
          have eo := cv1.all b.srt b.ok
          rw [eo] at tp
          exact ⟨.ref L, rfl, q L ys H2 smH nLH eL tp⟩
end
end KD

/-! Dicts keyed by a sort, a name and a row: rules over the layer. -/
namespace KD
open PySem PySem.Spec PyProof.Rows L2 KA
mutual
/-- data as a key -/
def nkD : PyData → NestedKey
  | .none => .none
  | .bool b => .num (if b = true then 1 else 0)
  | .int i => .num i
  | .str x => .text x
  | .tuple ds => .tup (nkA ds)
  | .list _ => .none
  | .dict _ => .none
def nkA : List PyData → List NestedKey
  | [] => []
  | d :: ds => nkD d :: nkA ds
end
section
variable {X : Cx} {pins : List (Addr × Obj)} {σ : L2.St} {H : Hp} {s : Shared}
mutual
theorem tp_nest (ok : HOk X.prog X.w H s.heap) : ∀ {d : PyData} {v : V} {u : Value}, Tp H v d → RelV v u → NestedIs s.heap (nkD d) u
  | .none, _, _, h, r => by
    cases h
    have r : _ = Value.none := r
    rw [r]
    exact .none
  | .bool b, _, _, h, r => by
    cases h
    have r : _ = Value.bool b := r
    rw [r]
    exact .bool rfl
  | .int i, _, _, h, r => by
    cases h
    obtain ⟨t, r⟩ := (r : ∃ t, _ = Value.int i t)
    rw [r]
    exact .int i t
  | .str x, _, _, h, r => by
    cases h
    obtain ⟨t, r⟩ := (r : ∃ t, _ = Value.str x t)
    rw [r]
    exact .text x t
  | .tuple ds, _, _, h, r => by
    cases h with
    | @tup a xs _ e q =>
      have r : _ = Value.ref a := r
      obtain ⟨_, its, rv, o, h1, h2, n, h3⟩ := (show ObjOk X.prog X.w H s.heap a (.tup xs) from ok a _ e)
      rw [r]
      exact .tup h1 h2 h3 (by simpa using tps_nest ok q rv)
  | .list _, _, _, h, _ => nomatch h
  | .dict _, _, _, h, _ => nomatch h
theorem tps_nest (ok : HOk X.prog X.w H s.heap) : ∀ {ds : List PyData} {vs : List V} {us : List Value}, Tps H vs ds → Vals vs us → NestedAll s.heap (nkA ds) us
  | [], _, _, h, r => by
    cases h
    cases r
    exact .nil
  | d :: ds, _, _, h, r => by
    cases h with
    | cons a b =>
      cases r with
      | cons c d => exact .cons (tp_nest ok a c) (tps_nest ok b d)
end
end
/-- a key as the dict holds it -/
def keyN (k : Ky) : NestedKey := nkD (kd k.1 k.2.1 k.2.2)
theorem atoms_nk : ∀ {ds : List PyData}, Atoms ds → NestedKey.depthAll (nkA ds) = 0
  | [], _ => rfl
  | d :: ds, h => by
    have h1 := h d List.mem_cons_self
    have h2 := atoms_nk (ds := ds) fun x hx => h x (List.mem_cons_of_mem _ hx)
    show max (nkD d).depth (NestedKey.depthAll (nkA ds)) = 0
    rw [h2]
    cases d with
    | int i => rfl
    | str x => rfl
    | none => exact h1.elim
    | bool b => exact h1.elim
    | list l => exact h1.elim
    | tuple l => exact h1.elim
    | dict l => exact h1.elim
theorem atoms_inj : ∀ {ds es : List PyData}, Atoms ds → Atoms es → nkA ds = nkA es → ds = es
  | [], [], _, _, _ => rfl
  | [], _ :: _, _, _, h => nomatch h
  | _ :: _, [], _, _, h => nomatch h
  | d :: ds, e :: es, hd, he, h => by
    have h1 := hd d List.mem_cons_self
    have h2 := he e List.mem_cons_self
    have h : nkD d :: nkA ds = nkD e :: nkA es := h
    injection h with h3 h4
    rw [atoms_inj (fun x hx => hd x (List.mem_cons_of_mem _ hx)) (fun x hx => he x (List.mem_cons_of_mem _ hx)) h4]
    have : d = e := by
      cases d with
      | int i =>
        cases e with
        | int j => injection h3 with h3; rw [h3]
        | str y => exact nomatch h3
        | none => exact h2.elim
        | bool b => exact h2.elim
        | list l => exact h2.elim
        | tuple l => exact h2.elim
        | dict l => exact h2.elim
      | str x =>
        cases e with
        | str y => injection h3 with h3; rw [h3]
        | int j => exact nomatch h3
        | none => exact h2.elim
        | bool b => exact h2.elim
        | list l => exact h2.elim
        | tuple l => exact h2.elim
        | dict l => exact h2.elim
      | none => exact h1.elim
      | bool b => exact h1.elim
      | list l => exact h1.elim
      | tuple l => exact h1.elim
      | dict l => exact h1.elim
    rw [this]
theorem keyN_inj {a b : Ky} (ha : okK a) (hb : okK b) (h : keyN a = keyN b) : a = b := by
  obtain ⟨s, n, ds⟩ := a
  obtain ⟨t, m, es⟩ := b
  have h : NestedKey.tup [.num s, .text n, .tup (nkA ds)] = NestedKey.tup [.num t, .text m, .tup (nkA es)] := h
  injection h with h
  injection h with h1 h
  injection h with h2 h
  injection h with h3 h
  injection h1 with h1
  injection h2 with h2
  injection h3 with h3
  have e : ds = es := atoms_inj ha hb h3
  rw [h1, h2, e]
theorem keyN_depth {k : Ky} (h : okK k) : (keyN k).depth ≤ 8 := by
  show NestedKey.depthAll [NestedKey.num k.1, NestedKey.text k.2.1, NestedKey.tup (nkA k.2.2)] + 1 ≤ 8
  have e : NestedKey.depthAll (nkA k.2.2) = 0 := atoms_nk h
  show max 0 (max 0 (max (NestedKey.depthAll (nkA k.2.2) + 1) 0)) + 1 ≤ 8
  rw [e]
  decide
abbrev NEnt := Ky × Addr × V
/-- such a dict at d -/
def DN (P : Program) (w : World) (d : Addr) (kvs : List NEnt) : HO := .ext fun h => (d == sysModules) = false ∧ kvs.length ≤ sizeLine ∧ ∃ ys : List (NestedKey × Addr × Value),
  Paired (fun (p : NEnt) q => q.1 = keyN p.1 ∧ q.2.1 = p.2.1 ∧ RelV p.2.2 q.2.2) kvs ys ∧ ∃ o es ep, h.get? d = some o ∧ o.ExactDict ∧ o.data = .dict es ep ∧ es.toList = ys.map (entryOfKey (nestedKind P w)) ∧ (ys.map (·.1)).Nodup
def KeysAt (H : Hp) (kvs : List NEnt) : Prop := ∀ e ∈ kvs, okK e.1 ∧ Tp H (.ref e.2.1) (kd e.1.1 e.1.2.1 e.1.2.2)
theorem KeysAt.mono {H H' : Hp} {kvs : List NEnt} (h : KeysAt H kvs) (k : Tk H H') : KeysAt H' kvs := fun e he => ⟨(h e he).1, (h e he).2.mono k⟩
section
variable {X : Cx} {pins : List (Addr × Obj)} {σ : L2.St} {H : Hp} {s : Shared} {d : Addr} {kvs : List NEnt}
theorem key_is (ok : HOk X.prog X.w H s.heap) {b : Addr} {k : Ky} (hk : okK k) (t : Tp H (.ref b) (kd k.1 k.2.1 k.2.2)) : (nestedKind X.prog X.w).is s.heap (keyN k) b := ⟨tp_nest ok t rfl, keyN_depth hk⟩
theorem dn_rd (ok : HOk X.prog X.w H s.heap) (e : Rd H d (DN X.prog X.w d kvs)) (ka : KeysAt H kvs) : (d == sysModules) = false ∧ kvs.length ≤ sizeLine ∧ ∃ ys : List (NestedKey × Addr × Value),
    Paired (fun (p : NEnt) q => q.1 = keyN p.1 ∧ q.2.1 = p.2.1 ∧ RelV p.2.2 q.2.2) kvs ys ∧ s.heap.DictOfH (nestedKind X.prog X.w) d ys := by
  obtain ⟨⟨h1, h2, ys, pr, o, es, ep, g1, g2, g3, g4, g5⟩, xt⟩ := e.ok ok
  refine ⟨h1, h2, ys, pr, o, es, ep, g1, g2, g3, g4, ?_, g5⟩
  clear g4 g5 h2 e xt
  induction pr with
  | nil => intro x hx; cases hx
  | @cons p q ps qs hq t ih =>
    intro x hx
    rcases List.mem_cons.mp hx with rfl | hx
    · rw [hq.1, hq.2.1]
      exact key_is ok (ka p List.mem_cons_self).1 (ka p List.mem_cons_self).2
    · exact ih (fun e he => ka e (List.mem_cons_of_mem _ he)) x hx
theorem dn_some {ys : List (NestedKey × Addr × Value)} (pr : Paired (fun (p : NEnt) q => q.1 = keyN p.1 ∧ q.2.1 = p.2.1 ∧ RelV p.2.2 q.2.2) kvs ys) (n : (ys.map (·.1)).Nodup) {k : Ky} {b : Addr} {v : V} (m : (k, b, v) ∈ kvs) : ∃ u, atKey ys (keyN k) = some (b, u) ∧ RelV v u := by
  induction pr with
  | nil => cases m
  | @cons p q ps qs hq t ih =>
    have n1 : q.1 ∉ qs.map (·.1) ∧ (qs.map (·.1)).Nodup := List.nodup_cons.mp n
    rcases List.mem_cons.mp m with e | m
    · subst e
      refine ⟨q.2.2, ?_, hq.2.2⟩
      unfold atKey
      rw [List.find?_cons, decide_eq_true hq.1]
      show some q.2 = some (b, q.2.2)
      have e2 : q.2.1 = b := hq.2.1
      rw [← e2]
    · obtain ⟨u, h1, h2⟩ := ih n1.2 m
      refine ⟨u, ?_, h2⟩
      have hne : ¬ q.1 = keyN k := fun z => by
        refine n1.1 ?_
        rw [z]
        unfold atKey at h1
        cases c : qs.find? (fun x => decide (x.1 = keyN k)) with
        | none => rw [c] at h1; cases h1
        | some y => exact List.mem_map.mpr ⟨y, List.mem_of_find?_eq_some c, of_decide_eq_true (p := y.1 = keyN k) (by have := List.find?_some c; exact this)⟩
      unfold atKey
      rw [List.find?_cons, decide_eq_false hne]
      exact h1
theorem dn_none {ys : List (NestedKey × Addr × Value)} (pr : Paired (fun (p : NEnt) q => q.1 = keyN p.1 ∧ q.2.1 = p.2.1 ∧ RelV p.2.2 q.2.2) kvs ys) (ok : ∀ e ∈ kvs, okK e.1) {k : Ky} (hk : okK k) (m : ∀ b v, (k, b, v) ∉ kvs) : atKey ys (keyN k) = none := by
  induction pr with
  | nil => rfl
  | @cons p q ps qs hq t ih =>
    have h1 := ih (fun e he => ok e (List.mem_cons_of_mem _ he)) fun b v z => m b v (List.mem_cons_of_mem _ z)
    have hne : ¬ q.1 = keyN k := fun z => by
      have e := keyN_inj (ok p List.mem_cons_self) hk (hq.1.symm.trans z)
      exact m p.2.1 p.2.2 (by rw [← e]; exact List.mem_cons_self)
    unfold atKey at h1 ⊢
    rw [List.find?_cons, decide_eq_false hne]
    exact h1
/-- what the dict at a holds at the key y -/
def NGet (P : Program) (w : World) (H : Hp) (a : Addr) (y : V) (r : Option V) : Prop := ∃ kvs b k, Rd H a (DN P w a kvs) ∧ KeysAt H kvs ∧ y = .ref b ∧ okK k ∧ Tp H (.ref b) (kd k.1 k.2.1 k.2.2) ∧ ((∃ c v, (k, c, v) ∈ kvs ∧ r = some v) ∨ ((∀ c v, (k, c, v) ∉ kvs) ∧ r = none))
theorem room8 {A : Around} (hu : A.units + 64 < cLine) : (nestedKind X.prog X.w).room A.in1 := by
  show A.units + 1 + 8 < cLine
  omega
theorem ng_at {a : Addr} {y : V} {r : Option V} (ok : HOk X.prog X.w H s.heap) (g : NGet X.prog X.w H a y r) : (a == sysModules) = false ∧ ∃ b k ys, y = .ref b ∧ (nestedKind X.prog X.w).is s.heap (keyN k) b ∧ s.heap.DictOfH (nestedKind X.prog X.w) a ys ∧ RelO r ((atKey ys (keyN k)).map (·.2)) := by
  obtain ⟨kvs, b, k, rd, ka, rfl, hk, t, q⟩ := g
  obtain ⟨h1, h2, ys, pr, dd⟩ := dn_rd ok rd ka
  refine ⟨h1, b, k, ys, rfl, key_is ok hk t, dd, ?_⟩
  rcases q with ⟨c, v, m, rfl⟩ | ⟨m, rfl⟩
  · obtain ⟨u, e1, e2⟩ := dn_some pr dd.choose_spec.choose_spec.choose_spec.2.2.2.2.2 m
    rw [e1]
    exact e2
  · rw [dn_none pr (fun e he => (ka e he).1) hk m]
    trivial
end
/-- d[y], y not in d, d.get(y) -/
def tNGet (P : Program) (w : World) (td ty : TE) : TE := fun σ H Q => td σ H fun x H1 => ty σ H1 fun y H2 => ∃ a v, x = .ref a ∧ NGet P w H2 a y (some v) ∧ Q v H2
def tNNotIn (P : Program) (w : World) (ty td : TE) : TE := fun σ H Q => ty σ H fun y H1 => td σ H1 fun x H2 => ∃ a o, x = .ref a ∧ NGet P w H2 a y o ∧ Q (.bl (!o.isSome)) H2
def tNGet1 (P : Program) (w : World) (td ty : TE) : TE := fun σ H Q => td σ H fun x H1 => ∃ a kvs, x = .ref a ∧ Rd H1 a (DN P w a kvs) ∧ KeysAt H1 kvs ∧ ty σ H1 fun y H2 => ∃ o, NGet P w H2 a y o ∧ Q (o.getD .non) H2
section
variable {X : Cx} {o i e value : Expr} {pos pos' apos cpos : Pos} {td ty tv : TE}
theorem pe_nget (hu : X.A.units + 64 < cLine) (ho : PE X o td) (hi : PE X i ty) (hs : NoSl i) : PE X (.Subscript o i pos) (tNGet X.prog X.w td ty) := by
  refine ⟨fun pins s σ H Q I h => ?_⟩
  refine subD_of PySem.F.slot_dict_getitem.lookup hs (thn (ho.run pins s σ H _ I h) fun u s1 ⟨x, H1, I1, rx, q1⟩ => thn (hi.run pins s1 σ H1 _ I1 q1) fun iv s2 ⟨y, H2, I2, ry, a, v, ex, g, q2⟩ => ?_)
  subst ex
  obtain rfl : u = Value.ref a := rx
  obtain ⟨h1, b, k, ys, rfl, hk, dd, rel⟩ := ng_at I2.hok g
  cases (show iv = Value.ref b from ry)
  refine ⟨dd.typeIs, ?_⟩
  cases c : atKey ys (keyN k) with
  | none => rw [c] at rel; exact rel.elim
  | some p =>
    rw [c] at rel
    exact wpAny_getItem_heap (room8 hu) hk dd c ⟨v, H2, I2.tok _, rel, q2⟩
theorem pc_nnotin (hu : X.A.units + 64 < cLine) (hi : PE X i ty) (ho : PE X o td) : PC X .NotIn i o (tNNotIn X.prog X.w ty td) := by
  refine ⟨fun pins s σ H Q I h => ?_⟩
  refine thn (hi.run pins s σ H _ I h) fun iv s1 ⟨y, H1, I1, ry, q1⟩ => thn (ho.run pins s1 σ H1 _ I1 q1) fun u s2 ⟨x, H2, I2, rx, a, ov, ex, g, q2⟩ => ?_
  subst ex
  obtain rfl : u = Value.ref a := rx
  obtain ⟨h1, b, k, ys, rfl, hk, dd, rel⟩ := ng_at I2.hok g
  cases (show iv = Value.ref b from ry)
  refine wpAny_notIn_heap (room8 hu) hk h1 dd ?_
  have e := rel.isSome_eq
  rw [Option.isSome_map] at e
  rw [← e]
  exact ⟨.bl (!ov.isSome), H2, I2.tok _, rfl, q2⟩
theorem pe_nget1 (hu : X.A.units + 64 < cLine) (ho : PE X o td) (he : PE X e ty) (m : M1 X o "get" apos e cpos) : PE X (.Call (.Attribute o "get" apos) [e] [] cpos) (tNGet1 X.prog X.w td ty) := by
  refine ⟨fun pins s σ H Q I h => ?_⟩
  refine wpAny_Call_method m.base m.few m.line PySem.F.plainAttrs_dict PySem.F.slot_dict_get PySem.F.type_dict_get (thn (ho.run pins s σ H _ I h) fun u s1 ⟨x, H1, I1, rx, a, kvs, ex, rd, ka, q1⟩ => ?_)
  subst ex
  obtain rfl : u = Value.ref a := rx
  obtain ⟨h1, h2, ys, pr, dd⟩ := dn_rd I1.hok rd ka
  refine ⟨dd.typeIs, fun b q => ?_, ?_⟩
  · cases q
    obtain ⟨ob, es, ep, g1, g2, _⟩ := dd
    exact ⟨ob, g1, g2.2.1⟩
  rw [m.trees]
  refine Calls.callWith_builtin rfl (Calls.evalArgs_plain (Calls.spliced_cons (thn (he.run pins s1 σ H1 _ I1 q1) fun iv s2 ⟨y, H2, I2, ry, ov, g, q2⟩ => Calls.spliced_nil ?_)))
  obtain ⟨h1, b, k, zs, rfl, hk, dd2, rel⟩ := ng_at I2.hok g
  cases (show iv = Value.ref b from ry)
  exact call_meetsIn PySem.F.slot_dict_get dd2.typeIs PySem.F.entry_dict_get (PySem.F.args_dict_get_2 _ _) (meetsH_dict_get (nestedKind X.prog X.w) a b h1) ⟨room8 hu, keyN k, zs, hk, dd2, ⟨_, H2, I2.tok _, rel.getD (d := .non) rfl, q2⟩⟩
end
end KD

/-! Such dicts walked and made. -/
namespace KD
open PySem PySem.Spec PyProof.Rows L2 KA
section
variable {X : Cx} {pins : List (Addr × Obj)} {σ : L2.St} {H : Hp} {s : Shared} {d : Addr} {o : Obj} {kvs : List NEnt}
theorem frzN (I : Inv X pins σ H s) (h : H d = some (.frz o (DN X.prog X.w d kvs))) : (d == sysModules) = false ∧ s.heap.get? d = some o ∧ o.ExactDict ∧ ∃ (es : Array DictEntry) (ep : Nat), o.data = .dict es ep ∧ es.size = kvs.length ∧
    ∀ (i : Nat) (e : NEnt), kvs[i]? = some e → ∃ en : DictEntry, es[i]? = some en ∧ en.key = .ref e.2.1 := by
  obtain ⟨hd, ⟨h1, h2, ys, pr, o', es, ep, g1, g2, g3, g4, g5⟩, _⟩ := I.hok d _ h
  rw [hd] at g1
  cases g1
  refine ⟨h1, hd, g2, es, ep, g3, ?_, fun i e he => ?_⟩
  · rw [size_of_entries g4]
    exact (Paired.length pr).symm
  · obtain ⟨y, hy, e1, e2, e3⟩ := paired_get pr he
    have q := entry_at g4 i
    rw [hy] at q
    refine ⟨_, q, ?_⟩
    show Value.ref y.2.1 = .ref e.2.1
    rw [e2]
end
/-- the keys of the locked dict at d, each the key's own tuple -/
def ItN (P : Program) (w : World) (d : Addr) (o : Obj) (kvs : List NEnt) : It :=
  ⟨fun i H => H d = some (.frz o (DN P w d kvs)) ∧ i < kvs.length, fun i H x H' => H' = H ∧ ∃ e, kvs[i]? = some e ∧ x = .ref e.2.1, fun i H => H d = some (.frz o (DN P w d kvs)) ∧ kvs.length ≤ i⟩
theorem turnN {P : Program} {w : World} {K : PySem.W.Frag} {tg : Expr} {d : Addr} {o : Obj} {es : Array DictEntry} {ep : Nat} {kvs : List NEnt} (it : Addr) (hod : o.data = .dict es ep) : Turn P w K tg (ItN P w d o kvs) [it] it (fun i h => h.IsKeyIter it d i kvs.length ep) where
  mem := List.mem_singleton.mpr rfl
  obj := fun i h st b hb => by
    rw [List.mem_singleton.mp hb]
    obtain ⟨oi, e, c, dd⟩ := st
    exact ⟨oi, e, fun v z => by rw [dd] at z; cases z⟩
  keep := fun i h h' st k => st.at fun oi e => k it (List.mem_singleton.mpr rfl) oi e
  item := by
    intro X hP hw hK hc i pins s σ H E I hf st hg
    subst hP hw hK
    obtain ⟨f0, f1, f2, f3, f4, f5⟩ := hf it (List.mem_singleton.mpr rfl)
    obtain ⟨hs, hgd, hx, es', ep', hdt, hsz, ent⟩ := frzN I hg.1
    obtain ⟨e1, e2⟩ := dict_ep hod hdt
    subst e1 e2
    obtain ⟨en, hen, hkey⟩ := ent i _ (List.getElem?_eq_getElem hg.2)
    refine next_key_item st hgd hdt hsz hen fun h' st' sb => ?_
    obtain ⟨oi, e, c, dd⟩ := id st'
    exact ⟨en.key, rfl, go_of (s := { s with heap := h' }) e c dd (by decide) ⟨.ref (kvs[i]'hg.2).2.1, H, I.turned (t' := s.toks) (fun b ob hb e => (sb.2 b hb).trans e) f0 f1 f3 f4 f5, hkey, ⟨rfl, _, List.getElem?_eq_getElem hg.2, rfl⟩, st', fun b hb => (hf b hb).1⟩⟩
  done := by
    intro X hP hw hK hc i pins s σ H E I hf st hg
    subst hP hw hK
    obtain ⟨f0, f1, f2, f3, f4, f5⟩ := hf it (List.mem_singleton.mpr rfl)
    obtain ⟨hs, hgd, hx, es', ep', hdt, hsz, ent⟩ := frzN I hg.1
    obtain ⟨e1, e2⟩ := dict_ep hod hdt
    subst e1 e2
    exact next_key_end (I.ok.hd hc) st hgd hdt hsz hg.2 fun h' eb => ⟨rfl, I.turned (t' := s.toks) (fun b ob hb e => eb b ob hb e) f0 f1 f3 f4 f5⟩
  self := fun A i s Q E st h => wpAny_pyIter_keyiter st h
def iNKeys (P : Program) (w : World) (td : TE) : TI := fun σ H R => td σ H fun x H1 => ∃ d o kvs, x = .ref d ∧ H1 d = some (.frz o (DN P w d kvs)) ∧ R (ItN P w d o kvs) H1
theorem pi_nkeys {X : Cx} {tg e : Expr} {td : TE} (he : PE X e td) : PI X tg e (iNKeys X.prog X.w td) := by
  refine ⟨fun pins s σ H R I h => ?_⟩
  refine thn (he.run pins s σ H _ I h) fun u s1 ⟨x, H1, I1, rx, d, o, kvs, ex, hd, q⟩ => ?_
  subst ex
  cases (show u = Value.ref d from rx)
  obtain ⟨hs, hgd, hx, es, ep, hdt, hsz, ent⟩ := frzN I1 hd
  refine iter_keys hs hgd hx hdt (pi_one (tk := s1.toks) I1 _ (turnN _ hdt) ⟨_, Heap.get?_push_size _ rfl, rfl, ?_⟩ q)
  rw [hsz] <;> rfl
theorem walk_nkeys {P : Program} {w : World} {d : Addr} {o : Obj} {kvs : List NEnt} : Walk (ItN P w d o kvs) kvs.length (fun H => H d = some (.frz o (DN P w d kvs))) (fun i H x H' => H' = H ∧ ∃ e, kvs[i]? = some e ∧ x = .ref e.2.1) :=
  ⟨fun _ _ hi q => ⟨q, hi⟩, fun _ q => ⟨q, Nat.le_refl _⟩, fun _ _ _ _ _ _ y => y⟩
end KD

/-! {k: v for ..} with such keys. -/
namespace KD
open PySem PySem.Spec PyProof.Rows L2 KA
theorem pair_snoc {α β : Type} {F : α → β → Prop} {a : α} {b : β} (h : F a b) : ∀ {l : List α} {m : List β}, Paired F l m → Paired F (l ++ [a]) (m ++ [b])
  | _, _, .nil => .cons h .nil
  | _, _, .cons r t => .cons r (pair_snoc h t)
theorem dn_ext {P : Program} {w : World} {d : Addr} {kvs : List NEnt} {H : Hp} {h : Heap} (h1 : (d == sysModules) = false) (h2 : kvs.length ≤ sizeLine) {ys : List (NestedKey × Addr × Value)} (pr : Paired (fun (p : NEnt) q => q.1 = keyN p.1 ∧ q.2.1 = p.2.1 ∧ RelV p.2.2 q.2.2) kvs ys)
    (dd : ∃ o es ep, h.get? d = some o ∧ o.ExactDict ∧ o.data = .dict es ep ∧ es.toList = ys.map (entryOfKey (nestedKind P w)) ∧ (ys.map (·.1)).Nodup) : ObjOk P w H h d (DN P w d kvs) := by
  refine ⟨⟨h1, h2, ys, pr, dd⟩, let ⟨o, _, _, g, _⟩ := dd; ⟨o, g⟩, fun a b pa k => ?_⟩
  obtain ⟨q1, q2, zs, q3, o, es, ep, q4, q5⟩ := pa
  exact ⟨q1, q2, zs, q3, o, es, ep, k _ q4, q5⟩
theorem dn_empty {P : Program} {w : World} {H : Hp} (h : Heap) (hb : sysModules < h.objs.size) : ObjOk P w H (h.push { cls := .type "dict", data := .dict #[] }) h.objs.size (DN P w h.objs.size []) :=
  dn_ext (beq_eq_false_iff_ne.mpr (Nat.ne_of_gt hb)) (Nat.zero_le _) .nil ⟨_, #[], _, Heap.get?_push_size _ rfl, ⟨rfl, rfl, rfl⟩, rfl, rfl, List.nodup_nil⟩
theorem d_putN {X : Cx} {pins : List (Addr × Obj)} {σ : L2.St} {H : Hp} {s : Shared} {E : Value → Shared → Prop} {D b : Addr} {kvs : List NEnt} {k : Ky} {v : V} {r : Value} {Q : Unit → Shared → Prop} (hu : X.A.units + 64 < cLine) (I : Inv X pins σ H s) (hD : H D = some (DN X.prog X.w D kvs)) (ka : KeysAt H kvs) (hz : kvs.length < sizeLine)
    (hk : okK k) (t : Tp H (.ref b) (kd k.1 k.2.1 k.2.2)) (nw : ∀ c v, (k, c, v) ∉ kvs) (rv : RelV v r) (h : ∀ s', Inv X pins σ (upd H D (DN X.prog X.w D (kvs ++ [(k, b, v)]))) s' → Q () s') : wpAny (model X.prog X.w) X.A (dictSet D (.ref b) r) Q E s := by
  obtain ⟨h1, h2, ys, pr, dd⟩ := dn_rd I.hok (.inl hD) ka
  have hno := dn_none pr (fun e he => (ka e he).1) hk nw
  have hl : ys.length = kvs.length := (Paired.length pr).symm
  refine wpAny_dictSet_heap (hsz := by omega) (show (nestedKind X.prog X.w).room X.A from by show X.A.units + 8 < cLine; omega) (key_is I.hok hk t) dd fun h' dd' hs => h _ ?_
  rw [storedH_new hno] at dd'
  obtain ⟨o, es, ep, g1, g2, g3, g4, _, g5⟩ := dd'
  refine d_write I (by rw [hD]; exact True.intro) hs ⟨o, g1⟩ (dn_ext h1 (by rw [List.length_append]; exact hz) (ys := ys ++ [(keyN k, b, r)]) ?_ ⟨o, es, ep, g1, g2, g3, g4, g5⟩)
  exact pair_snoc ⟨rfl, rfl, rv⟩ pr
/-- {k: v for target in iter if ..}: each key a new one -/
def tDcN (P : Program) (w : World) (wi : TI) (g : TG) (tt : TT) (tk tv : TE) (vs : List Nat) : TE := fun σ H Q => wi σ H fun J H1 => ∀ D, H1 D = none → ∃ W : Nat → Nat → Hp → Prop, (∃ m, W 0 m (upd H1 D (DN P w D []))) ∧ ∀ i m H, W i m H →
  (J.stop i H ∧ Q (.ref D) H) ∨ (J.go i H ∧ ∃ Nx : Hp → Prop, (∀ H', Nx H' → ∃ m', m' < m ∧ W (i + 1) m' H') ∧ ∀ x H', J.yld i H x H' → g x (wipe σ vs) H' fun σ2 H2 => wipe σ2 vs = wipe σ vs ∧ tt σ2 H2 fun b H3 =>
    if b = true then tk σ2 H3 fun y H4 => tv σ2 H4 fun z H5 => ∃ kvs c k, y = .ref c ∧ okK k ∧ Tp H5 (.ref c) (kd k.1 k.2.1 k.2.2) ∧ KeysAt H5 kvs ∧ H5 D = some (DN P w D kvs) ∧ kvs.length < sizeLine ∧ (∀ c v, (k, c, v) ∉ kvs) ∧ Nx (upd H5 D (DN P w D (kvs ++ [(k, c, z)]))) else Nx H3)
section
variable {X : Cx}
theorem pe_dcN {kx vx tg iter : Expr} {ifs : List Expr} {scope : Scope} {own : List (Str × Nat)} {pos : Pos} {wi : TI} {g : TG} {tt : TT} {tk tv : TE} (hc : X.calm = true) (hu : X.A.units + 64 < cLine) (hN : X.N.Nodup) (hi : PI X tg iter wi) (ok : BlkOk X.N X.env.scope scope own)
    (hg : ∀ (s : Shared) (H : Hp) (C : Addr) (cl : List (Str × Addr)) (fp : List Addr), PG (X.blk s H scope (compEnvC scope cl C X.env) fp) tg g) (ht : ∀ (s : Shared) (H : Hp) (C : Addr) (cl : List (Str × Addr)) (fp : List Addr), PTs (X.blk s H scope (compEnvC scope cl C X.env) fp) ifs tt)
    (hk : ∀ (s : Shared) (H : Hp) (C : Addr) (cl : List (Str × Addr)) (fp : List Addr), PE (X.blk s H scope (compEnvC scope cl C X.env) fp) kx tk)
    (he : ∀ (s : Shared) (H : Hp) (C : Addr) (cl : List (Str × Addr)) (fp : List Addr), PE (X.blk s H scope (compEnvC scope cl C X.env) fp) vx tv) (hs : ∀ x, foldedSetIterable iter X.env x = pure x := by intro _; rfl) :
    PE X (.DictComp kx vx [⟨tg, iter, ifs, 0⟩] scope pos) (tDcN X.prog X.w wi g tt tk tv (own.map (·.2))) := by
  refine ⟨fun pins s σ H Q I h => ?_⟩
  rw [arm_eval_DictComp]
  -- the block's own context, and its first state
  have cell : ∀ y ∈ scope.names, y.2 = .free → ∃ c, X.env.cells.lookup y.1 = some c := fun y hy e => (ok.free y hy e).elim (fun k => I.ok.has _ (.inl k)) fun k => I.ok.has _ (.inr k)
  refine wpAny_comprehension_free (use := none) rfl hs (closure_ok cell) ok.kind (fun y hy e => by rw [ok.uniq y hy, e]) (thn (hi.run pins s σ H _ I h) fun xv s1 hx => thn hx fun itv s2 h2 => ?_)
  obtain ⟨it, fp, tn, J, H2, e, I2, T, st2, f2, q⟩ := h2
  subst e
  refine wpAny_newObj_type (newEnv_comp ?_)
  have hfree : H2 s2.heap.objs.size = none := I2.hok.fresh (Nat.le_refl _)
  obtain ⟨W, ⟨m0, w0⟩, turn⟩ := q _ hfree
  have low : ∀ b ∈ fp, b < s2.heap.objs.size := fun b hb => let ⟨_, e, _⟩ := T.obj _ _ st2 b hb; Heap.lt_size e
  have push2 : ∀ b o, s2.heap.get? b = some o → (s2.heap.push { cls := .type "dict", data := .dict #[] }).get? b = some o := fun b o e => Heap.get?_push_of_some _ e
  have I3 : Inv X pins σ (upd H2 s2.heap.objs.size (DN X.prog X.w s2.heap.objs.size [])) { s2 with heap := s2.heap.push { cls := .type "dict", data := .dict #[] } } := I2.laid (t' := s2.toks) push2 (Nat.le_refl _) (dn_empty s2.heap I2.big)
  have f3 : ∀ b ∈ fp, FpOk X pins (upd H2 s2.heap.objs.size (DN X.prog X.w s2.heap.objs.size [])) b ∧ b < (s2.heap.push { cls := .type "dict", data := .dict #[] }).objs.size := fun b hb =>
    ⟨⟨(upd_ne (Nat.ne_of_lt (low b hb))).trans (f2 b hb).1, (f2 b hb).2⟩, by rw [Heap.size_push]; exact Nat.lt_succ_of_lt (low b hb)⟩
  have st3 := T.keep _ _ _ st2 fun b _ o e => push2 b o e
  revert I3 f3 st3 w0 turn
  generalize s2.heap.objs.size = D
  generalize hs3 : ({ s2 with heap := s2.heap.push { cls := .type "dict", data := .dict #[] } } : Shared) = s3
  have hh3 : s2.heap.push { cls := .type "dict", data := .dict #[] } = s3.heap := by rw [← hs3]
  rw [hh3]
  generalize upd H2 D (DN X.prog X.w D []) = H3
  intro turn w0 I3 f3 st3
  have I4 := block_start I3 ok hN f3
  revert I4
  have eL : (compEnvC scope (cellsFrom (s3.heap.objs.size + 1) scope.names (cloFrom X.env.cells scope.names [])) s3.heap.objs.size X.env).locals = s3.heap.objs.size := rfl
  have pg := hg s3 H3 s3.heap.objs.size (cellsFrom (s3.heap.objs.size + 1) scope.names (cloFrom X.env.cells scope.names [])) fp
  have pt := ht s3 H3 s3.heap.objs.size (cellsFrom (s3.heap.objs.size + 1) scope.names (cloFrom X.env.cells scope.names [])) fp
  have pk := hk s3 H3 s3.heap.objs.size (cellsFrom (s3.heap.objs.size + 1) scope.names (cloFrom X.env.cells scope.names [])) fp
  have pe := he s3 H3 s3.heap.objs.size (cellsFrom (s3.heap.objs.size + 1) scope.names (cloFrom X.env.cells scope.names [])) fp
  have st4 : tn 0 ({ s3 with heap := pushCells (s3.heap.push { cls := .type "dict", data := .dict #[] }) scope.names } : Shared).heap := T.keep _ _ _ st3 fun b _ o e => pushCells_keeps _ _ _ _ (Heap.get?_push_of_some _ e)
  intro I4
  generalize hce : compEnvC scope (cellsFrom (s3.heap.objs.size + 1) scope.names (cloFrom X.env.cells scope.names [])) s3.heap.objs.size X.env = ce at I4 pg pt pk pe eL
  show codeAny _ _ (.compStart (.DictComp kx vx [⟨tg, iter, ifs, 0⟩] scope pos) 0 (.ref it) (.ref D) (compEnvC scope (cellsFrom (s3.heap.objs.size + 1) scope.names (cloFrom X.env.cells scope.names [])) s3.heap.objs.size X.env)) (compPost (model X.prog X.w) X.A X.xe none (EP X pins σ Q) (.ref D) s3.heap.objs.size) { s3 with heap := pushCells (s3.heap.push { cls := .type "dict", data := .dict #[] }) scope.names }
  rw [hce]
  have nofp : ∀ b ∈ fp, H3 b = none := fun b hb => (f3 b hb).1.1
  revert I4 st4
  generalize ({ s3 with heap := pushCells (s3.heap.push { cls := .type "dict", data := .dict #[] }) scope.names } : Shared) = s4
  intro st4 I4
  have here : ∀ {σ' : L2.St} {H' : Hp} {s' : Shared}, Inv (X.blk s3 H3 scope ce fp) [] σ' H' s' → (∀ b ∈ fp, H' b = none) → ∀ b ∈ fp, FpOk (X.blk s3 H3 scope ce fp) [] H' b := fun {σ' H' s'} I' hn b hb =>
    ⟨hn b hb, (I'.ok.exf b hb).1, I'.ok.exfs b hb, .inl hb, fun x c e => (I'.ok.exf b hb).2 x c e, fun p hp => nomatch (show p ∈ ([] : List (Addr × Obj)) from hp)⟩
  have loop : codeAny (model X.prog X.w) X.A (.compLoop (.DictComp kx vx [⟨tg, iter, ifs, 0⟩] scope pos) 0 (.ref it) (.ref D) ce) (compPost (model X.prog X.w) X.A X.xe none (EP X pins σ Q) (.ref D) s3.heap.objs.size) s4 := by
    refine compLoop_anyD (fun n s' => ∃ i H', Inv (X.blk s3 H3 scope ce fp) [] (wipe σ (own.map (·.2))) H' s' ∧ tn i s'.heap ∧ (∀ b ∈ fp, H' b = none) ∧ W i n H') ?_ m0 ⟨0, H3, I4, st4, nofp, w0⟩
    rintro n s5 ⟨i, H5, I5, st5, n5, w5⟩
    rcases turn i n H5 w5 with ⟨stop, qq⟩ | ⟨go, Nx, hNx, step⟩
    · refine thnF (T.done (X.blk s3 H3 scope ce fp) rfl rfl rfl hc i [] s5 _ H5 (fun _ _ => False) I5 (here I5 n5) st5 stop) fun r s6 ⟨hr, I6⟩ => ?_
      subst hr
      have I7 : Inv X pins σ H5 s6 := I3.call' (ch := fp) I6.os I6.base I6.hok I6.bare fun b hb => let f := (f3 b hb).1; ⟨f.2.2.2.1, f.2.1, f.2.2.2.2.1, f.2.2.2.2.2⟩
      have z : H5 ce.locals = none := I6.free
      obtain ⟨m, hn, _⟩ := I6.loc
      have hn : s6.heap.Ns ce.locals m := hn
      rw [eL] at hn z
      obtain ⟨f0, f1, f2', f3', f4, f5⟩ := I3.fpOk (Nat.le_refl _) z
      exact ⟨m, hn, fun h'' sb => ⟨.ref D, H5, I7.turned (t' := s6.toks) (fun b o hb e => (sb.2 b hb).trans e) f0 f1 f3' f4 f5, rfl, qq⟩⟩
    · refine thnF (T.item (X.blk s3 H3 scope ce fp) rfl rfl rfl hc i [] s5 _ H5 (fun _ _ => False) I5 (here I5 n5) st5 go) fun r s6 ⟨u, hr, h6⟩ => ?_
      subst hr
      refine thnF h6 fun _ s7 ⟨x, H7, I7, r7, y7, st7, n7⟩ => ?_
      refine thnF (pg.run _ s7 _ H7 x u _ (I7.pinned (here I7 n7) (T.obj _ _ st7)) r7 (step x H7 y7)) fun _ s8 ⟨σ8, H8, I8, hw8, q8⟩ => ?_
      refine thnF (pt.run _ s8 σ8 H8 _ I8 q8) fun b s9 ⟨H9, I9, q9⟩ => ?_
      have wrap : ∀ {s' : Shared} {H' : Hp}, Inv (X.blk s3 H3 scope ce fp) ([] ++ pinsAt fp s7.heap) σ8 H' s' → Nx H' → ∃ m, m < n ∧ ∃ i H', Inv (X.blk s3 H3 scope ce fp) [] (wipe σ (own.map (·.2))) H' s' ∧ tn i s'.heap ∧ (∀ b ∈ fp, H' b = none) ∧ W i m H' := fun {s' H'} I' nx => by
        obtain ⟨m', hm, w'⟩ := hNx H' nx
        have kept : ∀ b ∈ fp, ∀ o, s7.heap.get? b = some o → s'.heap.get? b = some o ∧ H' b = none := fun b hb o e =>
          have z := I'.pin (b, o) (List.mem_append_right _ (List.mem_append_right _ (mem_pinsAt hb e)))
          ⟨z.1, z.2.1⟩
        refine ⟨m', hm, i + 1, H', (I'.unpinned (pins := [])).weak (by rw [← hw8, wipe_length]) (fun j v e => (wipe_some (hw8 ▸ e)).1), T.keep _ _ _ st7 fun b hb o e => (kept b hb o e).1, fun b hb => ?_, w'⟩
        obtain ⟨o, e, _⟩ := T.obj _ _ st7 b hb
        exact (kept b hb o e).2
      cases b with
      | false =>
        simp only [Bool.false_eq_true, if_false] at q9 ⊢
        exact wrap I9 q9
      | true =>
        simp only [if_true] at q9 ⊢
        refine thnF (pk.run _ s9 σ8 H9 _ I9 q9) fun z s10 ⟨yk, H10, I10, r10, q10⟩ => ?_
        refine thnF (pe.run _ s10 σ8 H10 _ I10 q10) fun z2 s11 ⟨yv, H11, I11, r11, kvs, c, k, ek, hk1, tk1, ka1, hD1, hz1, nw1, nx⟩ => ?_
        subst ek
        cases (show z = Value.ref c from r10)
        exact d_putN (X := X.blk s3 H3 scope ce fp) hu I11 hD1 ka1 hz1 hk1 tk1 nw1 r11 fun s12 I12 => wrap I12 nx
  exact codeAny_compStart_dict loop (T.self X.A 0 _ _ _ st4 loop)
end
end KD

namespace KD
open PySem PySem.Spec PyProof.Rows L2 KA
def rNeL (K : PySem.W.Frag) : R2 := fun x y H Q => ∃ d e, Dp K H x d ∧ Dp K H y e ∧ d.plain = true ∧ e.plain = true ∧ small e ∧ Q (.bl (!PyData.eqv d e)) H
theorem op_neL {X : Cx} (hu : X.A.units + 64 < cLine) : OpR X (compareOp .NotEq) (rNeL X.K) := by
  intro pins s σ H x y v u Q I rx ry h
  obtain ⟨d, e, hd, he, pd, pe, se, q⟩ := h
  obtain ⟨as, r1⟩ := Dp.reads I d x v hd rx
  obtain ⟨bs, r2⟩ := Dp.reads I e y u he ry
  refine SeqAt.ne_plain r1 r2 pd pe ?_ ⟨.bl _, H, I, rfl, q⟩
  have h1 : e.depth ≤ 64 := se
  have h2 : min d.depth e.depth ≤ e.depth := Nat.min_le_right _ _
  omega
theorem itD_inj {i j : It1} (h : itD i = itD j) : i = j := by
  have tag : ∀ {a b : Str} {l m : List PyData}, PyData.tuple (.str a :: l) = .tuple (.str b :: m) → a = b := fun h => by
    injection h with h
    injection h with h
    injection h
  cases i with
  | rel a n =>
    cases j with
    | rel b m => injection h with h; injection h with _ h; injection h with h1 h; injection h with h2 _; injection h1 with h1; injection h2 with h2; rw [h1, h2]
    | fact b ds => exact absurd (tag h) (by decide +kernel)
    | rule b rl ts bd => exact absurd (tag h) (by decide +kernel)
    | den b bd => exact absurd (tag h) (by decide +kernel)
  | fact a ds =>
    cases j with
    | rel b m => exact absurd (tag h) (by decide +kernel)
    | fact b es => injection h with h; injection h with _ h; injection h with h1 h; injection h with h2 _; injection h1 with h1; injection h2 with h2; rw [h1, h2]
    | rule b rl ts bd => exact absurd (tag h) (by decide +kernel)
    | den b bd => exact absurd (tag h) (by decide +kernel)
  | rule a rl ts bd =>
    cases j with
    | rel b m => exact absurd (tag h) (by decide +kernel)
    | fact b ds => exact absurd (tag h) (by decide +kernel)
    | rule b rl' ts' bd' => injection h with h; injection h with _ h; injection h with h1 h; injection h with h2 h; injection h with h3 h; injection h with h4 _; injection h1 with h1; injection h2 with h2; rw [h1, h2, h3, h4]
    | den b bd' => exact absurd (tag h) (by decide +kernel)
  | den a bd =>
    cases j with
    | rel b m => exact absurd (tag h) (by decide +kernel)
    | fact b ds => exact absurd (tag h) (by decide +kernel)
    | rule b rl ts bd' => exact absurd (tag h) (by decide +kernel)
    | den b bd' => injection h with h; injection h with _ h; injection h with h1 h; injection h with h2 _; injection h1 with h1; rw [h1, h2]
/-- the changes that make the second of the first -/
noncomputable def gone (a b : List It1) : List It1 := a.filter fun i => @decide (∀ j ∈ b, keyI j ≠ keyI i) (Classical.propDecidable _)
noncomputable def come (a b : List It1) : List It1 := b.filter fun i => decide (i ∉ a)
noncomputable def btw (a b : List It1) : List Ch := (gone a b).map .goes ++ (come a b).map .comes
theorem gone_yes {a b : List It1} {i : It1} (h : ∀ j ∈ b, keyI j ≠ keyI i) : gone (a ++ [i]) b = gone a b ++ [i] := by
  unfold gone
  rw [List.filter_append]
  congr 1
  exact List.filter_cons_of_pos (by simpa using h)
theorem gone_no {a b : List It1} {i : It1} (h : ¬ ∀ j ∈ b, keyI j ≠ keyI i) : gone (a ++ [i]) b = gone a b := by
  unfold gone
  rw [List.filter_append, List.filter_cons_of_neg (by simpa using h), List.filter_nil, List.append_nil]
theorem come_yes {a b : List It1} {i : It1} (h : i ∉ a) : come a (b ++ [i]) = come a b ++ [i] := by
  unfold come
  rw [List.filter_append]
  congr 1
  exact List.filter_cons_of_pos (decide_eq_true h)
theorem come_no {a b : List It1} {i : It1} (h : i ∈ a) : come a (b ++ [i]) = come a b := by
  unfold come
  rw [List.filter_append, List.filter_cons_of_neg (by simpa using h), List.filter_nil, List.append_nil]
/-- the dict's entries: the items, each under its key -/
structure Ents (H : Hp) (kvs : List NEnt) (its : List It1) : Prop where
  ks : kvs.map (·.1) = its.map keyI
  vs : Tps H (kvs.map (·.2.2)) (its.map itD)
  ka : KeysAt H kvs
theorem Ents.mono {H H' : Hp} {kvs : List NEnt} {its : List It1} (h : Ents H kvs its) (k : Tk H H') : Ents H' kvs its := ⟨h.ks, h.vs.mono k, h.ka.mono k⟩
theorem Ents.len {H : Hp} {kvs : List NEnt} {its : List It1} (h : Ents H kvs its) : kvs.length = its.length := by
  have := congrArg List.length h.ks
  rwa [List.length_map, List.length_map] at this
theorem Ents.at_ {H : Hp} {kvs : List NEnt} {its : List It1} (h : Ents H kvs its) {j : Nat} {i : It1} (e : its[j]? = some i) : ∃ b v, kvs[j]? = some (keyI i, b, v) ∧ Tp H v (itD i) := by
  have hj : j < its.length := (List.getElem?_eq_some_iff.mp e).1
  have hk : j < kvs.length := by rw [h.len]; exact hj
  have ek := List.getElem?_eq_getElem hk
  have e1 : (kvs.map (·.1))[j]? = (its.map keyI)[j]? := by rw [h.ks]
  rw [List.getElem?_map, List.getElem?_map, ek, e] at e1
  have e1 : kvs[j].1 = keyI i := Option.some.inj e1
  have e2 : (kvs.map (·.2.2))[j]? = some kvs[j].2.2 := by rw [List.getElem?_map, ek]; rfl
  obtain ⟨d, e3, t⟩ := h.vs.get e2
  rw [List.getElem?_map, e] at e3
  have e3 : itD i = d := Option.some.inj e3
  exact ⟨kvs[j].2.1, kvs[j].2.2, by rw [ek, ← e1], by rw [e3]; exact t⟩
theorem Ents.some_ {H : Hp} {kvs : List NEnt} {its : List It1} (h : Ents H kvs its) {i : It1} (m : i ∈ its) : ∃ b v, (keyI i, b, v) ∈ kvs ∧ Tp H v (itD i) := by
  obtain ⟨j, hj, e⟩ := List.getElem_of_mem m
  obtain ⟨b, v, e1, t⟩ := h.at_ (by rw [List.getElem?_eq_getElem hj, e])
  exact ⟨b, v, List.mem_of_getElem? e1, t⟩
theorem Ents.none_ {H : Hp} {kvs : List NEnt} {its : List It1} (h : Ents H kvs its) {k : Ky} (m : ∀ i ∈ its, keyI i ≠ k) (b : Addr) (v : V) : (k, b, v) ∉ kvs := fun z => by
  have h1 : k ∈ kvs.map (·.1) := List.mem_map.mpr ⟨_, z, rfl⟩
  rw [h.ks] at h1
  obtain ⟨i, h2, h3⟩ := List.mem_map.mp h1
  exact m i h2 h3
theorem Ents.snoc {H : Hp} {kvs : List NEnt} {its : List It1} {i : It1} {b : Addr} {v : V} (h : Ents H kvs its) (ok : okI i) (tb : Tp H (.ref b) (kdI i)) (tv : Tp H v (itD i)) : Ents H (kvs ++ [(keyI i, b, v)]) (its ++ [i]) := by
  refine ⟨by rw [List.map_append, List.map_append, h.ks]; rfl, ?_, fun e he => ?_⟩
  · rw [List.map_append, List.map_append]
    exact h.vs.append (.cons tv .nil)
  · rcases List.mem_append.mp he with he | he
    · exact h.ka e he
    · rw [List.mem_singleton.mp he]
      exact ⟨okK_of ok, tb⟩
theorem key_new {its : List It1} (s : SortedI its) (o : OkL its) {j : Nat} {i : It1} (e : its[j]? = some i) : ∀ x ∈ its.take j, keyI x ≠ keyI i := fun x hx => by
  have h := sorted_keys s o
  obtain ⟨l, hl, e2⟩ := List.getElem_of_mem hx
  rw [List.length_take] at hl
  rw [List.getElem_take] at e2
  obtain ⟨hj, e3⟩ := List.getElem?_eq_some_iff.mp e
  have := List.pairwise_iff_getElem.mp h l j (by rw [List.length_map]; omega) (by rw [List.length_map]; exact hj) (by omega)
  rw [List.getElem_map, List.getElem_map, e2, e3] at this
  exact this
theorem Tk.ext {H : Hp} {a : Addr} {φ : Heap → Prop} {o : HO} (h : H a = some (.ext φ)) : Tk H (upd H a o) := fun b xs e => by
  rw [upd_ne (fun z => by rw [z, h] at e; cases e)]
  exact e
theorem dcn_it {P : Program} {w : World} {J : It} {n : Nat} {G : Hp → Prop} {Y : Nat → Hp → V → Hp → Prop} (wk : Walk J n G Y) {g : TG} {tt : TT} {tk tv : TE} {vs : List Nat} {σ : L2.St} {H1 : Hp} {D : Addr} {Qd : Hp → Prop} (Pv : Nat → Hp → Prop) (h0 : Pv 0 (upd H1 D (DN P w D []))) (hG : ∀ i H, i ≤ n → Pv i H → G H)
    (hs : ∀ i x H H', i < n → Pv i H → Y i H x H' → g x (wipe σ vs) H' fun σ2 H2 => wipe σ2 vs = wipe σ vs ∧ tt σ2 H2 fun b H3 =>
      if b = true then tk σ2 H3 fun y H4 => tv σ2 H4 fun z H5 => ∃ kvs c k, y = .ref c ∧ okK k ∧ Tp H5 (.ref c) (kd k.1 k.2.1 k.2.2) ∧ KeysAt H5 kvs ∧ H5 D = some (DN P w D kvs) ∧ kvs.length < sizeLine ∧ (∀ c v, (k, c, v) ∉ kvs) ∧ Pv (i + 1) (upd H5 D (DN P w D (kvs ++ [(k, c, z)]))) else Pv (i + 1) H3) (hd : ∀ H, Pv n H → Qd H) :
    ∃ W : Nat → Nat → Hp → Prop, (∃ m, W 0 m (upd H1 D (DN P w D []))) ∧ ∀ i m H, W i m H →
      (J.stop i H ∧ Qd H) ∨ (J.go i H ∧ ∃ Nx : Hp → Prop, (∀ H', Nx H' → ∃ m', m' < m ∧ W (i + 1) m' H') ∧ ∀ x H', J.yld i H x H' → g x (wipe σ vs) H' fun σ2 H2 => wipe σ2 vs = wipe σ vs ∧ tt σ2 H2 fun b H3 =>
        if b = true then tk σ2 H3 fun y H4 => tv σ2 H4 fun z H5 => ∃ kvs c k, y = .ref c ∧ okK k ∧ Tp H5 (.ref c) (kd k.1 k.2.1 k.2.2) ∧ KeysAt H5 kvs ∧ H5 D = some (DN P w D kvs) ∧ kvs.length < sizeLine ∧ (∀ c v, (k, c, v) ∉ kvs) ∧ Nx (upd H5 D (DN P w D (kvs ++ [(k, c, z)]))) else Nx H3) := by
  refine ⟨fun i m H => m = n - i ∧ i ≤ n ∧ Pv i H, ⟨n, by simp, Nat.zero_le _, h0⟩, ?_⟩
  rintro i m H ⟨rfl, hi, p⟩
  have q := hG i H hi p
  by_cases hlt : i < n
  · exact .inr ⟨wk.goes i H hlt q, Pv (i + 1), fun H' p' => ⟨n - (i + 1), by omega, rfl, hlt, p'⟩, fun x H' y => hs i x H H' hlt p (wk.yields i H x H' hlt q y)⟩
  · have e : i = n := by omega
    subst e
    exact .inl ⟨wk.stops H q, hd H p⟩
section
variable {P : Program} {w : World} {K : PySem.W.Frag} {mg : Str → Option Value} {base : Heap} {C : Addr}
abbrev mAll (P : Program) (w : World) (K : PySem.W.Frag) (mg : Str → Option Value) (base : Heap) (C : Addr) : Prop := MDef P w K mg base C "all_items" 1 ["self"] (spAll C)
abbrev dKO (P : Program) (w : World) (K : PySem.W.Frag) (mg : Str → Option Value) (base : Heap) : Prop := Def P w K mg base "key_of" 1 ["item"] spKO
abbrev sBt : Stmt := topS 9
abbrev nBt : List Str := ["first", "second", "before", "after", "gone", "come", "item", "key"]
theorem scBt : FnScope nBt ["first", "second"] (defScope sBt) := ⟨rfl, rfl, rfl, by decide +kernel, rfl, by decide +kernel, by decide +kernel⟩
def spBt (C : Addr) : Sp := fun vs H Q _ => ∃ (s1 s2 : Addr) (its1 its2 : List It1) (F1 F2 : Addr → Prop) (N1 N2 : Nat), vs = [.ref s1, .ref s2] ∧ StAt C H s1 its1 F1 N1 ∧ StAt C H s2 its2 F2 N2 ∧ N1 ≤ 1000 ∧ N2 ≤ 1000 ∧ its1.length < 64 ∧ its2.length < 64 ∧
  ∀ L ys H', Same H H' → H L = none → H' L = some (.lst ys) → Tps H' ys ((btw its1 its2).map chD) → Q (.ref L) H'
theorem ok_bt {f0 : Addr} {fd : FuncData} (F0 : Fun K "between" "between" sBt f0 fd) (T : Cs K mg C) (MA : mAll P w K mg base C) (DK : dKO P w K mg base) : FnOk P w K mg base CX0 2 f0 fd ["first", "second"] (spBt C) := by
  refine F0.ok scBt (fun vs H Q E h => ?_) (fun cdv A outer s H vs Q E hr h => ?_)
  · obtain ⟨_, _, _, _, _, _, _, _, rfl, _⟩ := h
    rfl
  · obtain ⟨s1, s2, its1, its2, F1, F2, N1, N2, rfl, S1, S2, hN1, hN2, l1, l2, q⟩ := h
    have hu := hr.units
    refine ⟨_, pss_cons (ps_set (i := 2) scBt.nd rfl (.inr rfl) (pe_dcN (own := [("item", 6)]) (g := gName 6) (tt := tYes) (tk := tCall spKO [] E0 (tCons (tVar 6) tNil)) (tv := tVar 6) rfl hu scBt.nd (pi_list (pe_mdef0 MA (pv 0) T.cl hr)) (blkOk_by (own := [("item", 6)]) (N := nBt) (sc := defScope sBt) (by decide +kernel))
        (fun _ _ _ _ _ => pg_name (i := 6) scBt.nd rfl (Or.inl rfl)) (fun _ _ _ _ _ => pts_nil) (fun _ _ _ _ _ => pe_def DK hr (by rfl) (pa_cons (pv 6) pa_nil)) (fun _ _ _ _ _ => pv 6)))
      (pss_cons (ps_set (i := 3) scBt.nd rfl (.inr rfl) (pe_dcN (own := [("item", 6)]) (g := gName 6) (tt := tYes) (tk := tCall spKO [] E0 (tCons (tVar 6) tNil)) (tv := tVar 6) rfl hu scBt.nd (pi_list (pe_mdef0 MA (pv 1) T.cl hr)) (blkOk_by (own := [("item", 6)]) (N := nBt) (sc := defScope sBt) (by decide +kernel))
        (fun _ _ _ _ _ => pg_name (i := 6) scBt.nd rfl (Or.inl rfl)) (fun _ _ _ _ _ => pts_nil) (fun _ _ _ _ _ => pe_def DK hr (by rfl) (pa_cons (pv 6) pa_nil)) (fun _ _ _ _ _ => pv 6)))
      (pss_cons (ps_lock (ps_setLc (i := 4) (own := [("key", 7)]) (g := gName 7) (tt := tTest (tNNotIn P w (tVar 7) (tVar 3))) (te := tTup (tCons (tC (.str "goes")) (tCons (tVar 7) tNil))) (by rfl) scBt.nd rfl rfl (sw_true rfl rfl rfl (by decide +kernel)) (pi_nkeys (pv 2)) (blkOk_by (own := [("key", 7)]) (N := nBt) (sc := defScope sBt) (by decide +kernel))
        (fun _ _ _ _ _ => pg_name (i := 7) scBt.nd rfl (Or.inl rfl)) (fun _ _ _ _ _ => pts_one (pt_cmp (pc_nnotin hu (pv 7) (pv 3)))) (fun _ _ _ _ _ => pe_tup (pa_cons pe_str (pa_cons (pv 7) pa_nil)))))
      (pss_cons (ps_lock (ps_setLc (i := 5) (own := [("key", 7)]) (g := gName 7) (tt := tTest (tOp (rNeL K) (tNGet1 P w (tVar 2) (tVar 7)) (tNGet P w (tVar 3) (tVar 7)))) (te := tTup (tCons (tC (.str "comes")) (tCons (tNGet P w (tVar 3) (tVar 7)) tNil))) (by rfl) scBt.nd rfl rfl (sw_true rfl rfl rfl (by decide +kernel)) (pi_nkeys (pv 3)) (blkOk_by (own := [("key", 7)]) (N := nBt) (sc := defScope sBt) (by decide +kernel))
        (fun _ _ _ _ _ => pg_name (i := 7) scBt.nd rfl (Or.inl rfl)) (fun _ _ _ _ _ => pts_one (pt_cmpR (op_neL hu) (pe_nget1 hu (pv 2) (pv 7) ⟨rfl, rfl, rfl, rfl⟩) (pe_nget hu (pv 3) (pv 7) (fun _ _ => rfl)) (nomark _))) (fun _ _ _ _ _ => pe_tup (pa_cons pe_str (pa_cons (pe_nget hu (pv 3) (pv 7) (fun _ _ => rfl)) pa_nil)))))
      (pss_one (ps_ret (pe_op op_cat (pv 4) (pv 5))))))), ?_⟩
    obtain ⟨dx1, r1, f1, u1, d1, kr1, kf1, ku1, kd1, b1⟩ := id S1
    obtain ⟨dx2, r2, f2, u2, d2, kr2, kf2, ku2, kd2, b2⟩ := id S2
    -- before
    refine ⟨.ref s1, rfl, s1, dx1, _, rfl, b1.hs, fl_no _ _ _ _ (by decide +kernel) (by decide +kernel) (by decide +kernel) (by decide +kernel), s1, its1, F1, N1, rfl, S1, hN1, l1, fun L1 ys1 H1 sm1 nL1 eL1 tp1 => ⟨L1, rfl, ⟨_, SqL.of eL1⟩, fun D1 nD1 => ?_⟩⟩
    have len1 : ys1.length = its1.length := by rw [tp1.length, List.length_map]
    refine dcn_it walk_list (fun i H' => Same H1 H' ∧ ∃ kvs, H' D1 = some (DN P w D1 kvs) ∧ Ents H' kvs (its1.take i)) ⟨same_new nD1, [], upd_same, ⟨rfl, .nil, fun e he => by cases he⟩⟩ (fun i H' _ hP => SqL.of (hP.1 _ _ eL1)) (fun i x H' H2 hi hP hY => ?_) (fun H2 hP => ?_)
    · obtain ⟨rfl, hx⟩ := hY
      obtain ⟨sm, kvs, eD, en⟩ := hP
      obtain ⟨dd, ed, td⟩ := tp1.get hx
      rw [List.getElem?_map] at ed
      cases ej : its1[i]? with
      | none =>
        rw [ej] at ed
        cases ed
      | some it =>
        rw [ej] at ed
        have ed : itD it = dd := Option.some.inj ed
        subst ed
        have oi : okI it := b1.ok it (List.mem_of_getElem? ej)
        refine ⟨rfl, iteT (B := True) ?_⟩
        refine ⟨x, rfl, x, it, rfl, td.mono (Tk.of sm), oi, fun r H3 s3 tr => ⟨x, rfl, ?_⟩⟩
        have eD3 := s3 _ _ eD
        have lk := en.len
        rw [List.length_take] at lk
        have tk2 : Tk H3 (upd H3 D1 (DN P w D1 (kvs ++ [(keyI it, r, x)]))) := Tk.ext eD3
        refine ⟨kvs, r, keyI it, rfl, okK_of oi, tr, (en.mono (Tk.of s3)).ka, eD3, small1000 (by omega), en.none_ (key_new b1.srt b1.ok ej), fun a o h => ?_, _, upd_same, ?_⟩
        · rw [upd_ne (ne_of_none h nD1)]
          exact s3 _ _ (sm _ _ h)
        · rw [take_next ej]
          exact ((en.mono (Tk.of s3)).mono tk2).snoc oi (tr.mono tk2) ((td.mono (Tk.of (sm.trans s3))).mono tk2)
    obtain ⟨sm, kv1, eD1, en1⟩ := hP
    rw [len1, List.take_length] at en1
    have smA : Same H H2 := sm1.trans sm
    have nD1H : H D1 = none := sm1.free nD1
    clear sm sm1 tp1 eL1
    -- after
    refine ⟨.ref s2, rfl, s2, dx2, _, rfl, smA _ _ b2.hs, fl_no _ _ _ _ (by decide +kernel) (by decide +kernel) (by decide +kernel) (by decide +kernel), s2, its2, F2, N2, rfl, S2.same smA, hN2, l2, fun L2 ys2 H3 sm2 nL2 eL2 tp2 => ⟨L2, rfl, ⟨_, SqL.of eL2⟩, fun D2 nD2 => ?_⟩⟩
    have len2 : ys2.length = its2.length := by rw [tp2.length, List.length_map]
    refine dcn_it walk_list (fun i H' => Same H3 H' ∧ ∃ kvs, H' D2 = some (DN P w D2 kvs) ∧ Ents H' kvs (its2.take i)) ⟨same_new nD2, [], upd_same, ⟨rfl, .nil, fun e he => by cases he⟩⟩ (fun i H' _ hP => SqL.of (hP.1 _ _ eL2)) (fun i x H' H4 hi hP hY => ?_) (fun H4 hP => ?_)
    · obtain ⟨rfl, hx⟩ := hY
      obtain ⟨sm, kvs, eD, en⟩ := hP
      obtain ⟨dd, ed, td⟩ := tp2.get hx
      rw [List.getElem?_map] at ed
      cases ej : its2[i]? with
      | none =>
        rw [ej] at ed
        cases ed
      | some it =>
        rw [ej] at ed
        have ed : itD it = dd := Option.some.inj ed
        subst ed
        have oi : okI it := b2.ok it (List.mem_of_getElem? ej)
        refine ⟨rfl, iteT (B := True) ?_⟩
        refine ⟨x, rfl, x, it, rfl, td.mono (Tk.of sm), oi, fun r H5 s5 tr => ⟨x, rfl, ?_⟩⟩
        have eD3 := s5 _ _ eD
        have lk := en.len
        rw [List.length_take] at lk
        have tk2 : Tk H5 (upd H5 D2 (DN P w D2 (kvs ++ [(keyI it, r, x)]))) := Tk.ext eD3
        refine ⟨kvs, r, keyI it, rfl, okK_of oi, tr, (en.mono (Tk.of s5)).ka, eD3, small1000 (by omega), en.none_ (key_new b2.srt b2.ok ej), fun a o h => ?_, _, upd_same, ?_⟩
        · rw [upd_ne (ne_of_none h nD2)]
          exact s5 _ _ (sm _ _ h)
        · rw [take_next ej]
          exact ((en.mono (Tk.of s5)).mono tk2).snoc oi (tr.mono tk2) ((td.mono (Tk.of (sm.trans s5))).mono tk2)
    obtain ⟨sm, kv2, eD2, en2⟩ := hP
    rw [len2, List.take_length] at en2
    have sm24 := sm2.trans sm
    have smB : Same H H4 := smA.trans sm24
    have eD1' := sm24 _ _ eD1
    have en1' := en1.mono (Tk.of sm24)
    have n12 : D1 ≠ D2 := fun z => by
      have := sm2 _ _ eD1
      rw [z, nD2] at this
      cases this
    have nD2H : H D2 = none := (smA.trans sm2).free nD2
    clear sm sm2 tp2 eL2 eD1 en1 smA sm24 nD1 nD2
    have eD1 := eD1'
    have en1 := en1'
    clear eD1' en1'
    -- gone
    refine ⟨D1, _, eD1, trivial, fun od => ?_⟩
    refine ⟨.ref D1, rfl, D1, od, kv1, rfl, upd_same, fun G nG => ?_⟩
    have tkL : Tk H4 (upd H4 D1 (.frz od (DN P w D1 kv1))) := Tk.ext eD1
    have nG1 : G ≠ D1 := fun z => by rw [z, upd_same] at nG; cases nG
    have nG4 : H4 G = none := by rw [upd_ne nG1] at nG; exact nG
    refine lc_it walk_nkeys (fun i H' => H' D1 = some (.frz od (DN P w D1 kv1)) ∧ (∀ a o, a ≠ D1 → H4 a = some o → H' a = some o) ∧ ∃ ys, H' G = some (.lst ys) ∧ Tps H' ys (((gone (its1.take i) its2).map Ch.goes).map chD)) ⟨?_, ?_, [], upd_same, .nil⟩ (fun i H' _ hP => hP.1) (fun i x H' H5 hi hP hY => ?_) (fun H5 hP => ?_)
    · rw [upd_ne nG1.symm]
      exact upd_same
    · intro a o n h
      rw [upd_ne (ne_of_none h nG4), upd_ne n]
      exact h
    · obtain ⟨rfl, e, he, rfl⟩ := hY
      obtain ⟨h1, h2, ys, eG, tp⟩ := hP
      rw [en1.len] at hi
      have ei := List.getElem?_eq_getElem hi
      obtain ⟨b, v, e1, tv⟩ := en1.at_ ei
      rw [e1] at he
      have he := Option.some.inj he
      subst he
      have oi : okI its1[i] := b1.ok _ (List.getElem_mem hi)
      have tk5 : Tk H4 H5 := fun a xs h => h2 a _ (fun z => by rw [z, eD1] at h; cases h) h
      have eD25 := h2 _ _ n12.symm eD2
      have kb : Tp H4 (.ref b) (kdI its1[i]) := (en1.ka _ (List.mem_of_getElem? e1)).2
      refine ⟨rfl, ?_⟩
      refine ⟨.ref b, rfl, .ref D2, rfl, D2, ?_⟩
      have ly : ys.length ≤ i := by
        rw [tp.length, List.length_map, List.length_map]
        refine Nat.le_trans (List.length_filter_le _ _) ?_
        rw [List.length_take]
        omega
      by_cases hin : ∀ j ∈ its2, keyI j ≠ keyI its1[i]
      · refine ⟨none, rfl, ⟨kv2, b, keyI its1[i], .of eD25, (en2.mono tk5).ka, rfl, okK_of oi, kb.mono tk5, .inr ⟨(en2.mono tk5).none_ hin, rfl⟩⟩, _, rfl, ?_⟩
        refine iteT ?_
        refine ⟨.ref b, rfl, (by show 2 ≤ sizeLine; decide), fun p np => ?_⟩
        have npG : G ≠ p := fun z => by rw [← z, eG] at np; cases np
        have eG' : (upd H5 p (.tup [.str "goes", .ref b])) G = some (.lst ys) := by
          rw [upd_ne npG]
          exact eG
        have tk1 : Tk H5 (upd (upd H5 p (.tup [.str "goes", .ref b])) G (.lst (ys ++ [.ref p]))) := (Tk.new np).trans (Tk.lst eG')
        refine ⟨ys, eG', small1000 (by omega), ?_, fun a o n h => ?_, ys ++ [.ref p], upd_same, ?_⟩
        · rw [upd_ne nG1.symm, upd_ne (ne_of_none h1 np)]
          exact h1
        · rw [upd_ne (ne_of_none h nG4), upd_ne (ne_of_none (h2 a o n h) np)]
          exact h2 a o n h
        · rw [take_next ei, gone_yes hin, List.map_append, List.map_append]
          exact (tp.mono tk1).append (.cons (.tup (by rw [upd_ne npG.symm]; exact upd_same) (.cons (.str _) (.cons ((kb.mono tk5).mono tk1) .nil))) .nil)
      · obtain ⟨j, hj, ek⟩ : ∃ j ∈ its2, keyI j = keyI its1[i] := by
          rcases Classical.em (∃ j ∈ its2, keyI j = keyI its1[i]) with z | z
          · exact z
          · exact absurd (fun j hj y => z ⟨j, hj, y⟩) hin
        obtain ⟨c, v2, m2, t2⟩ := en2.some_ hj
        rw [ek] at m2
        refine ⟨some v2, rfl, ⟨kv2, b, keyI its1[i], .of eD25, (en2.mono tk5).ka, rfl, okK_of oi, kb.mono tk5, .inl ⟨c, v2, m2, rfl⟩⟩, _, rfl, ?_⟩
        refine iteF ?_
        refine ⟨h1, h2, ys, eG, ?_⟩
        rw [take_next ei, gone_no hin]
        exact tp
    obtain ⟨h1, h2, gys, eG, gtp⟩ := hP
    rw [en1.len, List.take_length] at gtp
    refine ⟨h1, ?_⟩
    have smG : Same H4 (upd H5 D1 (DN P w D1 kv1)) := fun a o h => by
      by_cases z : a = D1
      · rw [z, eD1] at h
        rw [z, upd_same, ← h]
      · rw [upd_ne z]
        exact h2 a o z h
    have eG6 : (upd H5 D1 (DN P w D1 kv1)) G = some (.lst gys) := by
      rw [upd_ne nG1]
      exact eG
    have gtp6 : Tps (upd H5 D1 (DN P w D1 kv1)) gys (((gone its1 its2).map Ch.goes).map chD) := gtp.mono (fun a xs h => by
      rw [upd_ne (fun z => by rw [z, h1] at h; cases h)]
      exact h)
    have nGH : H G = none := smB.free nG4
    revert smG eG6 gtp6
    generalize upd H5 D1 (DN P w D1 kv1) = H6
    intro smG eG6 gtp6
    have eD16 := smG _ _ eD1
    have eD26 := smG _ _ eD2
    have en16 := en1.mono (Tk.of smG)
    have en26 := en2.mono (Tk.of smG)
    have smH6 : Same H H6 := smB.trans smG
    -- come
    refine ⟨D2, _, eD26, trivial, fun od2 => ?_⟩
    refine ⟨.ref D2, rfl, D2, od2, kv2, rfl, upd_same, fun M nM => ?_⟩
    have nM2 : M ≠ D2 := fun z => by rw [z, upd_same] at nM; cases nM
    have nM6 : H6 M = none := by rw [upd_ne nM2] at nM; exact nM
    refine lc_it walk_nkeys (fun i H' => H' D2 = some (.frz od2 (DN P w D2 kv2)) ∧ (∀ a o, a ≠ D2 → H6 a = some o → H' a = some o) ∧ ∃ ys, H' M = some (.lst ys) ∧ Tps H' ys (((come its1 (its2.take i)).map Ch.comes).map chD)) ⟨?_, ?_, [], upd_same, .nil⟩ (fun i H' _ hP => hP.1) (fun i x H' H7 hi hP hY => ?_) (fun H7 hP => ?_)
    · rw [upd_ne nM2.symm]
      exact upd_same
    · intro a o n h
      rw [upd_ne (ne_of_none h nM6), upd_ne n]
      exact h
    · obtain ⟨rfl, e, he, rfl⟩ := hY
      obtain ⟨g1, g2, ys, eM, tp⟩ := hP
      rw [en26.len] at hi
      have ei := List.getElem?_eq_getElem hi
      obtain ⟨b, v, e1, tv⟩ := en26.at_ ei
      rw [e1] at he
      have he := Option.some.inj he
      subst he
      have oi : okI its2[i] := b2.ok _ (List.getElem_mem hi)
      have tk7 : Tk H6 H7 := fun a xs h => g2 a _ (fun z => by rw [z, eD26] at h; cases h) h
      have eD17 := g2 _ _ n12 eD16
      have kb : Tp H6 (.ref b) (kdI its2[i]) := (en26.ka _ (List.mem_of_getElem? e1)).2
      have ka1 := (en16.mono tk7).ka
      have ka2 := (en26.mono tk7).ka
      have ng2 : NGet P w H7 D2 (.ref b) (some v) := ⟨kv2, b, keyI its2[i], .inr ⟨od2, g1⟩, ka2, rfl, okK_of oi, kb.mono tk7, .inl ⟨b, v, List.mem_of_getElem? e1, rfl⟩⟩
      have tv7 := tv.mono tk7
      obtain ⟨n2, dp2⟩ := okI_nice oi
      have ly : ys.length ≤ i := by
        rw [tp.length, List.length_map, List.length_map]
        refine Nat.le_trans (List.length_filter_le _ _) ?_
        rw [List.length_take]
        omega
      have sm5 : small (itD its2[i]) := Nat.le_trans dp2 (by decide)
      -- behind the test
      have yes : its2[i] ∉ its1 → ∀ p, H7 p = none → (∃ acc, (upd H7 p (.tup [.str "comes", v])) M = some (.lst acc) ∧ acc.length < sizeLine ∧
          (upd (upd H7 p (.tup [.str "comes", v])) M (.lst (acc ++ [.ref p]))) D2 = some (.frz od2 (DN P w D2 kv2)) ∧ (∀ a o, a ≠ D2 → H6 a = some o → (upd (upd H7 p (.tup [.str "comes", v])) M (.lst (acc ++ [.ref p]))) a = some o) ∧
          ∃ ys, (upd (upd H7 p (.tup [.str "comes", v])) M (.lst (acc ++ [.ref p]))) M = some (.lst ys) ∧ Tps (upd (upd H7 p (.tup [.str "comes", v])) M (.lst (acc ++ [.ref p]))) ys (((come its1 (its2.take (i + 1))).map Ch.comes).map chD)) := fun hn p np => by
        have npM : M ≠ p := fun z => by rw [← z, eM] at np; cases np
        have eM' : (upd H7 p (.tup [.str "comes", v])) M = some (.lst ys) := by
          rw [upd_ne npM]
          exact eM
        have tk1 : Tk H7 (upd (upd H7 p (.tup [.str "comes", v])) M (.lst (ys ++ [.ref p]))) := (Tk.new np).trans (Tk.lst eM')
        refine ⟨ys, eM', small1000 (by omega), ?_, fun a o n h => ?_, ys ++ [.ref p], upd_same, ?_⟩
        · rw [upd_ne nM2.symm, upd_ne (ne_of_none g1 np)]
          exact g1
        · rw [upd_ne (ne_of_none h nM6), upd_ne (ne_of_none (g2 a o n h) np)]
          exact g2 a o n h
        · rw [take_next ei, come_yes hn, List.map_append, List.map_append]
          exact (tp.mono tk1).append (.cons (.tup (by rw [upd_ne npM.symm]; exact upd_same) (.cons (.str _) (.cons (tv7.mono tk1) .nil))) .nil)
      have no : its2[i] ∈ its1 → ∃ ys, H7 M = some (.lst ys) ∧ Tps H7 ys (((come its1 (its2.take (i + 1))).map Ch.comes).map chD) := fun hn => ⟨ys, eM, by
        rw [take_next ei, come_no hn]
        exact tp⟩
      refine ⟨rfl, ?_⟩
      refine ⟨.ref D1, rfl, D1, kv1, rfl, .of eD17, ka1, .ref b, rfl, ?_⟩
      by_cases hin : ∃ j ∈ its1, keyI j = keyI its2[i]
      · obtain ⟨j, hj, ek⟩ := hin
        obtain ⟨c, v1, m1, t1⟩ := en16.some_ hj
        rw [ek] at m1
        have oj : okI j := b1.ok _ hj
        obtain ⟨n1, dp1⟩ := okI_nice oj
        refine ⟨some v1, ⟨kv1, b, keyI its2[i], .of eD17, ka1, rfl, okK_of oi, kb.mono tk7, .inl ⟨c, v1, m1, rfl⟩⟩, .ref D2, rfl, .ref b, rfl, D2, v, rfl, ng2, itD j, itD its2[i], (t1.mono tk7).dp, tv7.dp, (t1.mono tk7).plain, tv7.plain, sm5, _, rfl, ?_⟩
        by_cases eq : itD j = itD its2[i]
        · rw [(eqv_dec n1 n2).mpr eq]
          refine iteF ?_
          have hm : its2[i] ∈ its1 := by rw [← itD_inj eq]; exact hj
          exact ⟨g1, g2, no hm⟩
        · have ef : PyData.eqv (itD j) (itD its2[i]) = false := by
            cases c : PyData.eqv (itD j) (itD its2[i]) with
            | false => rfl
            | true => exact absurd ((eqv_dec n1 n2).mp c) eq
          rw [ef]
          refine iteT ?_
          have hn : its2[i] ∉ its1 := fun z => eq (by rw [sorted_key b1.srt b1.ok hj z ek])
          exact ⟨.ref D2, rfl, .ref b, rfl, D2, v, rfl, ng2, (by show 2 ≤ sizeLine; decide), fun p np => yes hn p np⟩
      · have hn : its2[i] ∉ its1 := fun z => hin ⟨_, z, rfl⟩
        refine ⟨none, ⟨kv1, b, keyI its2[i], .of eD17, ka1, rfl, okK_of oi, kb.mono tk7, .inr ⟨(en16.mono tk7).none_ (fun j hj z => hin ⟨j, hj, z⟩), rfl⟩⟩, .ref D2, rfl, .ref b, rfl, D2, v, rfl, ng2, .none, itD its2[i], .non, tv7.dp, rfl, tv7.plain, sm5, ?_⟩
        have ef : PyData.eqv .none (itD its2[i]) = false := by
          cases its2[i] <;> rfl
        rw [ef]
        refine ⟨_, rfl, iteT ?_⟩
        exact ⟨.ref D2, rfl, .ref b, rfl, D2, v, rfl, ng2, (by show 2 ≤ sizeLine; decide), fun p np => yes hn p np⟩
    obtain ⟨g1, g2, mys, eM, mtp⟩ := hP
    rw [en26.len, List.take_length] at mtp
    refine ⟨g1, ?_⟩
    have smM : Same H6 (upd H7 D2 (DN P w D2 kv2)) := fun a o h => by
      by_cases z : a = D2
      · rw [z, eD26] at h
        rw [z, upd_same, ← h]
      · rw [upd_ne z]
        exact g2 a o z h
    have eM8 : (upd H7 D2 (DN P w D2 kv2)) M = some (.lst mys) := by
      rw [upd_ne nM2]
      exact eM
    have mtp8 : Tps (upd H7 D2 (DN P w D2 kv2)) mys (((come its1 its2).map Ch.comes).map chD) := mtp.mono (fun a xs h => by
      rw [upd_ne (fun z => by rw [z, g1] at h; cases h)]
      exact h)
    have lg : gys.length ≤ its1.length := by
      rw [gtp6.length, List.length_map, List.length_map]
      exact List.length_filter_le _ _
    have lm : mys.length ≤ its2.length := by
      rw [mtp8.length, List.length_map, List.length_map]
      exact List.length_filter_le _ _
    refine ⟨.ref G, rfl, .ref M, rfl, G, M, gys, mys, rfl, rfl, smM _ _ eG6, eM8, Nat.le_of_lt (small1000 (by omega)), fun L nL => ?_⟩
    have sm8 : Same H (upd H7 D2 (DN P w D2 kv2)) := smH6.trans smM
    refine q L (gys ++ mys) _ (same_add sm8 nL) (sm8.free nL) upd_same ?_
    unfold btw
    rw [List.map_append]
    exact ((gtp6.mono (Tk.of smM)).append mtp8).mono (Tk.new nL)
end
end KD

namespace KD
open PySem PySem.Spec PyProof.Rows L2 KA
def spSame : Sp := fun vs H Q E => spSM 7 vs H Q E ∨ spSL 7 vs H Q E
theorem nice_key {i : It1} (h : okI i) : nice (kdI i) ∧ (kdI i).depth ≤ 2 := by
  obtain ⟨h1, h2⟩ := okI_key h
  refine ⟨n3 (nice_int _) (nice_str _) (nice_row h1 h2), dep3 (k := 1) (Nat.zero_le _) (Nat.zero_le _) ?_⟩
  show PyData.depthAll (keyI i).2.2 + 1 ≤ 1
  rw [atoms_depth h1]
  exact Nat.le_refl _
theorem kdI_inj {i j : It1} : kdI i = kdI j ↔ keyI i = keyI j := by
  constructor
  · intro h
    injection h with h
    injection h with h1 h
    injection h with h2 h
    injection h with h3 _
    injection h1 with h1
    injection h2 with h2
    injection h3 with h3
    exact Prod.ext h1 (Prod.ext h2 h3)
  · intro h
    show kd (keyI i).1 (keyI i).2.1 (keyI i).2.2 = kd (keyI j).1 (keyI j).2.1 (keyI j).2.2
    rw [h]
theorem eqv_key {i j : It1} (hi : okI i) (hj : okI j) : PyData.eqv (kdI i) (kdI j) = true ↔ keyI i = keyI j := (eqv_dec (nice_key hi).1 (nice_key hj).1).trans kdI_inj
def rNiL (K : PySem.W.Frag) : R2 := fun x y H Q => ∃ d ds, Dp K H x d ∧ Dp K H y (.list ds) ∧ d.plain = true ∧ PyData.plainAll ds = true ∧ d.depth ≤ 60 ∧ Q (.bl (!ds.any fun z => PyData.eqv z d)) H
theorem op_niL {X : Cx} (hu : X.A.units + 64 < cLine) : OpR X (compareOp .NotIn) (rNiL X.K) := by
  intro pins s σ H x y v u Q I rx ry h
  obtain ⟨d, ds, hd, he, pd, pe, se, q⟩ := h
  obtain ⟨as, r1⟩ := Dp.reads I d x v hd rx
  obtain ⟨bs, r2⟩ := Dp.reads I (.list ds) y u he ry
  refine SeqAt.notIn_list_data r2 r1 pe pd ?_ ⟨.bl _, H, I, rfl, q⟩
  have h2 : min (PyData.depthAll ds) d.depth ≤ d.depth := Nat.min_le_right _ _
  omega
theorem item_get {H : Hp} {xs : List V} {js : List It1} {i : Nat} {x : V} (t : Tps H xs (js.map itD)) (hx : xs[i]? = some x) : ∃ j, js[i]? = some j ∧ Tp H x (itD j) := by
  obtain ⟨dd, ed, td⟩ := t.get hx
  rw [List.getElem?_map] at ed
  cases ej : js[i]? with
  | none => rw [ej] at ed; cases ed
  | some j =>
    rw [ej] at ed
    have ed : itD j = dd := Option.some.inj ed
    exact ⟨j, rfl, by rw [ed]; exact td⟩
theorem ch_get {H : Hp} {xs : List V} {js : List Ch} {i : Nat} {x : V} (t : Tps H xs (js.map chD)) (hx : xs[i]? = some x) : ∃ j, js[i]? = some j ∧ Tp H x (chD j) := by
  obtain ⟨dd, ed, td⟩ := t.get hx
  rw [List.getElem?_map] at ed
  cases ej : js[i]? with
  | none => rw [ej] at ed; cases ed
  | some j =>
    rw [ej] at ed
    have ed : chD j = dd := Option.some.inj ed
    exact ⟨j, rfl, by rw [ed]; exact td⟩
theorem fil_yes {α : Type} {p : α → Bool} {l : List α} {x : α} (h : p x = true) : (l ++ [x]).filter p = l.filter p ++ [x] := by
  rw [List.filter_append, List.filter_cons_of_pos h, List.filter_nil]
theorem fil_no {α : Type} {p : α → Bool} {l : List α} {x : α} (h : ¬ p x = true) : (l ++ [x]).filter p = l.filter p := by
  rw [List.filter_append, List.filter_cons_of_neg h, List.filter_nil, List.append_nil]
section
variable {P : Program} {w : World} {K : PySem.W.Frag} {mg : Str → Option Value} {base : Heap} {C : Addr}
abbrev dLK (P : Program) (w : World) (K : PySem.W.Frag) (mg : Str → Option Value) (base : Heap) : Prop := Def P w K mg base "_law_key" 1 ["item"] spKO
abbrev dLO (P : Program) (w : World) (K : PySem.W.Frag) (mg : Str → Option Value) (base : Heap) : Prop := Def P w K mg base "_law_key_order" 3 ["first", "second"] spLO
abbrev dSame (P : Program) (w : World) (K : PySem.W.Frag) (mg : Str → Option Value) (base : Heap) : Prop := Def P w K mg base "_law_same" 9 ["actual", "expected"] spSame
/-! ### _law_placed -/
abbrev sPl : Stmt := topS 26
abbrev nPl : List Str := ["items", "item", "before", "behind", "other"]
theorem scPl : FnScope nPl ["items", "item"] (defScope sPl) := ⟨rfl, rfl, rfl, by decide +kernel, rfl, by decide +kernel, by decide +kernel⟩
def spPl : Sp := fun vs H Q _ => ∃ (a : Addr) (v : V) (i : It1) (js : List It1) (xs : List V), vs = [.ref a, v] ∧ H a = some (.lst xs) ∧ Tps H xs (js.map itD) ∧ Tp H v (itD i) ∧ OkL js ∧ okI i ∧ js.length ≤ 400 ∧
  ∀ L ys H', Same H H' → H L = none → H' L = some (.lst ys) → Tps H' ys ((putI js i).map itD) → Q (.ref L) H'
theorem ok_pl {f0 : Addr} {fd : FuncData} (F0 : Fun K "_law_placed" "_law_placed" sPl f0 fd) (DL : dLK P w K mg base) (DO : dLO P w K mg base) : FnOk P w K mg base CX0 4 f0 fd ["items", "item"] spPl := by
  refine F0.ok scPl (fun vs H Q E h => ?_) (fun cdv A outer s H vs Q E hr h => ?_)
  · obtain ⟨_, _, _, _, _, rfl, _⟩ := h
    rfl
  · obtain ⟨a, v, i, js, xs, rfl, ea, tx, tv, oj, oi, lj, q⟩ := h
    have r1 : Room 1 _ := hr.mono (by decide)
    refine ⟨_, pss_cons (ps_setLc (i := 2) (own := [("other", 4)]) (g := gName 4) (te := tVar 4) (by rfl) scPl.nd rfl rfl (sw_true rfl rfl rfl (by decide +kernel)) (pi_list (pv 0)) (blkOk_by (own := [("other", 4)]) (N := nPl) (sc := defScope sPl) (by decide +kernel))
        (fun _ _ _ _ _ => pg_name (i := 4) scPl.nd rfl (Or.inl rfl)) (fun _ _ _ _ _ => pts_one (pt_cmpR op_lt (pe_def DO hr (by rfl) (pa_cons (pe_def DL r1 (by rfl) (pa_cons (pv 4) pa_nil)) (pa_cons (pe_def DL r1 (by rfl) (pa_cons (pv 1) pa_nil)) pa_nil))) pe_int (nomark _))) (fun _ _ _ _ _ => pv 4))
      (pss_cons (ps_setLc (i := 3) (own := [("other", 4)]) (g := gName 4) (te := tVar 4) (by rfl) scPl.nd rfl rfl (sw_true rfl rfl rfl (by decide +kernel)) (pi_list (pv 0)) (blkOk_by (own := [("other", 4)]) (N := nPl) (sc := defScope sPl) (by decide +kernel))
        (fun _ _ _ _ _ => pg_name (i := 4) scPl.nd rfl (Or.inl rfl)) (fun _ _ _ _ _ => pts_one (pt_cmpR op_gt (pe_def DO hr (by rfl) (pa_cons (pe_def DL r1 (by rfl) (pa_cons (pv 4) pa_nil)) (pa_cons (pe_def DL r1 (by rfl) (pa_cons (pv 1) pa_nil)) pa_nil))) pe_int (nomark _))) (fun _ _ _ _ _ => pv 4))
      (pss_one (ps_ret (pe_op op_cat (pe_op op_cat (pv 2) (pe_lst (pa_cons (pv 1) pa_nil))) (pv 3))))), ?_⟩
    have lx : xs.length = js.length := by rw [tx.length, List.length_map]
    obtain ⟨ai, li⟩ := okI_key oi
    -- before
    refine ⟨.ref a, rfl, a, rfl, ⟨xs, SqL.of ea⟩, fun B nB => ?_⟩
    refine lc_it walk_list (fun k H' => (∀ b o, H b = some o → H' b = some o) ∧ ∃ ys, H' B = some (.lst ys) ∧ Tps H' ys (((js.take k).filter fun x => decide (kc (keyI x) (keyI i) < 0)).map itD)) ⟨same_new nB, [], upd_same, .nil⟩ (fun k H' _ hP => SqL.of (hP.1 _ _ ea)) (fun k x H' H2 hk hP hY => ?_) (fun H2 hP => ?_)
    · obtain ⟨rfl, hx⟩ := hY
      obtain ⟨sm, ys, eB, tp⟩ := hP
      obtain ⟨j, ej, tj⟩ := item_get tx hx
      have okj := oj j (List.mem_of_getElem? ej)
      obtain ⟨aj, lj2⟩ := okI_key okj
      refine ⟨rfl, ?_⟩
      refine ⟨x, rfl, x, j, rfl, tj.mono (Tk.of sm), okj, fun r3 H3 s3 t3 => ⟨v, rfl, v, i, rfl, (tv.mono (Tk.of sm)).mono (Tk.of s3), oi, fun r4 H4 s4 t4 => ?_⟩⟩
      refine ⟨_, _, _, _, _, _, _, _, rfl, t3.mono (Tk.of s4), t4, aj, ai, lj2, li, fun H5 s5 => ⟨_, _, rfl, rfl, _, rfl, ?_⟩⟩
      have sm5 : Same H2 H5 := s3.trans (s4.trans s5)
      have eB5 := sm5 _ _ eB
      have ly : ys.length ≤ k := by
        rw [tp.length, List.length_map]
        refine Nat.le_trans (List.length_filter_le _ _) ?_
        rw [List.length_take]
        omega
      refine ite2 (fun c => ?_) (fun c => ?_)
      · refine ⟨x, rfl, ys, eB5, small1000 (by omega), fun b o h => ?_, ys ++ [x], upd_same, ?_⟩
        · rw [upd_ne (ne_of_none h nB)]
          exact sm5 _ _ (sm _ _ h)
        · rw [take_next ej, fil_yes (p := fun x => decide (kc (keyI x) (keyI i) < 0)) (x := j) c, List.map_append]
          exact ((tp.mono (Tk.of sm5)).mono (Tk.lst eB5)).append (.cons ((tj.mono (Tk.of fun b o h => sm5 _ _ (sm b o h))).mono (Tk.lst eB5)) .nil)
      · refine ⟨fun b o h => sm5 _ _ (sm b o h), ys, eB5, ?_⟩
        rw [take_next ej, fil_no (p := fun x => decide (kc (keyI x) (keyI i) < 0)) (x := j) c]
        exact tp.mono (Tk.of sm5)
    obtain ⟨sm1, bs, eB, tB⟩ := hP
    rw [lx, List.take_length] at tB
    have sm1 : Same H H2 := sm1
    -- behind
    refine ⟨.ref a, rfl, a, rfl, ⟨xs, SqL.of (sm1 _ _ ea)⟩, fun D nD => ?_⟩
    have tx2 := tx.mono (Tk.of sm1)
    have tv2 := tv.mono (Tk.of sm1)
    refine lc_it walk_list (fun k H' => (∀ b o, H2 b = some o → H' b = some o) ∧ ∃ ys, H' D = some (.lst ys) ∧ Tps H' ys (((js.take k).filter fun x => decide (kc (keyI x) (keyI i) > 0)).map itD)) ⟨same_new nD, [], upd_same, .nil⟩ (fun k H' _ hP => SqL.of (hP.1 _ _ (sm1 _ _ ea))) (fun k x H' H3 hk hP hY => ?_) (fun H3 hP => ?_)
    · obtain ⟨rfl, hx⟩ := hY
      obtain ⟨sm, ys, eD, tp⟩ := hP
      obtain ⟨j, ej, tj⟩ := item_get tx2 hx
      have okj := oj j (List.mem_of_getElem? ej)
      obtain ⟨aj, lj2⟩ := okI_key okj
      refine ⟨rfl, ?_⟩
      refine ⟨x, rfl, x, j, rfl, tj.mono (Tk.of sm), okj, fun r3 H4 s3 t3 => ⟨v, rfl, v, i, rfl, (tv2.mono (Tk.of sm)).mono (Tk.of s3), oi, fun r4 H5 s4 t4 => ?_⟩⟩
      refine ⟨_, _, _, _, _, _, _, _, rfl, t3.mono (Tk.of s4), t4, aj, ai, lj2, li, fun H6 s5 => ⟨_, _, rfl, rfl, _, rfl, ?_⟩⟩
      have sm5 : Same H3 H6 := s3.trans (s4.trans s5)
      have eD5 := sm5 _ _ eD
      have ly : ys.length ≤ k := by
        rw [tp.length, List.length_map]
        refine Nat.le_trans (List.length_filter_le _ _) ?_
        rw [List.length_take]
        omega
      refine ite2 (fun c => ?_) (fun c => ?_)
      · refine ⟨x, rfl, ys, eD5, small1000 (by omega), fun b o h => ?_, ys ++ [x], upd_same, ?_⟩
        · rw [upd_ne (ne_of_none h nD)]
          exact sm5 _ _ (sm _ _ h)
        · rw [take_next ej, fil_yes (p := fun x => decide (kc (keyI x) (keyI i) > 0)) (x := j) c, List.map_append]
          exact ((tp.mono (Tk.of sm5)).mono (Tk.lst eD5)).append (.cons ((tj.mono (Tk.of fun b o h => sm5 _ _ (sm b o h))).mono (Tk.lst eD5)) .nil)
      · refine ⟨fun b o h => sm5 _ _ (sm b o h), ys, eD5, ?_⟩
        rw [take_next ej, fil_no (p := fun x => decide (kc (keyI x) (keyI i) > 0)) (x := j) c]
        exact tp.mono (Tk.of sm5)
    obtain ⟨sm3, ds, eD, tD⟩ := hP
    rw [lx, List.take_length] at tD
    have sm3 : Same H2 H3 := sm3
    have lb : bs.length ≤ js.length := by
      rw [tB.length, List.length_map]
      exact List.length_filter_le _ _
    have ld : ds.length ≤ js.length := by
      rw [tD.length, List.length_map]
      exact List.length_filter_le _ _
    refine ⟨.ref B, rfl, v, rfl, (by show 1 ≤ sizeLine; decide), fun o1 no1 => ?_⟩
    have st1 : Same H3 (upd H3 o1 (.lst [v])) := same_new no1
    refine ⟨B, o1, bs, [v], rfl, rfl, st1 _ _ (sm3 _ _ eB), upd_same, Nat.le_of_lt (small1000 (by rw [List.length_singleton]; omega)), fun o2 no2 => ?_⟩
    have st2 := st1.trans (same_new no2 (o := .lst (bs ++ [v])))
    refine ⟨.ref D, rfl, o2, D, bs ++ [v], ds, rfl, rfl, upd_same, st2 _ _ eD, Nat.le_of_lt (small1000 (by rw [List.length_append, List.length_singleton]; omega)), fun L nL => ?_⟩
    have st3 := st2.trans (same_new nL (o := .lst (bs ++ [v] ++ ds)))
    have smA : Same H _ := sm1.trans (sm3.trans st3)
    refine q L _ _ smA ((sm1.trans (sm3.trans st2)).free nL) upd_same ?_
    unfold putI
    rw [List.map_append, List.map_append]
    exact (((tB.mono (Tk.of (sm3.trans st3))).append (.cons (tv.mono (Tk.of smA)) .nil))).append (tD.mono (Tk.of st3))
end
end KD

namespace KD
open PySem PySem.Spec PyProof.Rows L2 KA
theorem sorted_nodup {l : List It1} (s : SortedI l) (o : OkL l) : l.Nodup := List.Pairwise.imp_of_mem (fun {a b} ha hb h z => key_ne h (okK_of (o b hb)) (by rw [z])) s
theorem putI_len {l : List It1} {i : It1} (s : SortedI l) (o : OkL l) (oi : okI i) : (putI l i).length ≤ l.length + 1 := by
  have h := nodup_le (m := i :: l) (sorted_nodup (sorted_putI s o oi) (ok_putI o oi)) fun x hx => by
    rcases (mem_putI o oi x).mp hx with e | h
    · rw [e]
      exact List.mem_cons_self
    · exact List.mem_cons_of_mem _ h.1
  rwa [List.length_cons] at h
theorem puts_ok : ∀ {js its : List It1}, OkL js → SortedI its → OkL its → SortedI (puts its js) ∧ OkL (puts its js) ∧ (puts its js).length ≤ its.length + js.length
  | [], its, _, s, o => ⟨s, o, Nat.le_refl _⟩
  | j :: js, its, oj, s, o => by
    have o1 : okI j := oj j List.mem_cons_self
    obtain ⟨h1, h2, h3⟩ := puts_ok (js := js) (its := putI its j) (fun i hi => oj i (List.mem_cons_of_mem _ hi)) (sorted_putI s o o1) (ok_putI o o1)
    have h4 := putI_len s o o1
    refine ⟨h1, h2, ?_⟩
    have e : puts its (j :: js) = puts (putI its j) js := rfl
    rw [e, List.length_cons]
    omega
theorem apply_ok : ∀ {cs : List Ch} {its : List It1}, OkC cs → SortedI its → OkL its → SortedI (apply its cs) ∧ OkL (apply its cs) ∧ (apply its cs).length ≤ its.length + cs.length
  | [], its, _, s, o => ⟨s, o, Nat.le_refl _⟩
  | c :: cs, its, oc, s, o => by
    have o1 : okI (chI c) := oc c List.mem_cons_self
    have h0 : SortedI (apC its c) ∧ OkL (apC its c) ∧ (apC its c).length ≤ its.length + 1 := by
      cases c with
      | comes i => exact ⟨sorted_putI s o o1, ok_putI o o1, putI_len s o o1⟩
      | goes i => exact ⟨sorted_takeI s, ok_takeI o, Nat.le_succ_of_le (List.length_filter_le _ _)⟩
    obtain ⟨h1, h2, h3⟩ := apply_ok (cs := cs) (its := apC its c) (fun i hi => oc i (List.mem_cons_of_mem _ hi)) h0.1 h0.2.1
    refine ⟨h1, h2, ?_⟩
    have e : apply its (c :: cs) = apply (apC its c) cs := rfl
    rw [e, List.length_cons]
    have := h0.2.2
    omega
theorem puts_take {js its : List It1} {k : Nat} {j : It1} (e : js[k]? = some j) : puts its (js.take (k + 1)) = putI (puts its (js.take k)) j := by
  unfold puts
  rw [take_next e, List.foldl_append]
  rfl
theorem apply_take {cs : List Ch} {its : List It1} {k : Nat} {c : Ch} (e : cs[k]? = some c) : apply its (cs.take (k + 1)) = apC (apply its (cs.take k)) c := by
  unfold apply
  rw [take_next e, List.foldl_append]
  rfl
section
variable {P : Program} {w : World} {K : PySem.W.Frag} {mg : Str → Option Value} {base : Heap} {C : Addr}
abbrev dItem (P : Program) (w : World) (K : PySem.W.Frag) (mg : Str → Option Value) (base : Heap) : Prop := Def P w K mg base "_law_item" 7 ["state"] spItem
abbrev dPl (P : Program) (w : World) (K : PySem.W.Frag) (mg : Str → Option Value) (base : Heap) : Prop := Def P w K mg base "_law_placed" 4 ["items", "item"] spPl
/-! ### _law_items -/
abbrev sIs : Stmt := topS 27
abbrev nIs : List Str := ["state", "most", "items", "ordered", "item", "k"]
theorem scIs : FnScope nIs ["state", "most"] (defScope sIs) := ⟨rfl, rfl, rfl, by decide +kernel, rfl, by decide +kernel, by decide +kernel⟩
def spIs : Sp := fun vs H Q _ => ∃ (st L : Addr) (m : Int), vs = [.ref st, .int m] ∧ Good st L H ∧ 0 ≤ m ∧ m ≤ 100 ∧ ∀ (p : Addr) (x : V) (b : Addr) its ys H', Dr st L H H' → H b = none → H' p = some (.tup [x, .ref b]) → H' b = some (.lst ys) → Tps H' ys (its.map itD) → SortedI its → OkL its → its.length ≤ m.toNat → Q (.ref p) H'
theorem ok_is {f0 : Addr} {fd : FuncData} (F0 : Fun K "_law_items" "_law_items" sIs f0 fd) (B : Bt mg) (DN : dNext P w K mg base) (DI : dItem P w K mg base) (DP : dPl P w K mg base) : FnOk P w K mg base CX0 8 f0 fd ["state", "most"] spIs := by
  refine F0.ok scIs (fun vs H Q E h => ?_) (fun cdv A outer s H vs Q E hr h => ?_)
  · obtain ⟨_, _, _, rfl, _⟩ := h
    rfl
  · obtain ⟨st, L, m, rfl, g, m0, m1, q⟩ := h
    have r1 : Room 1 _ := hr.mono (by decide)
    have r4 : Room 4 _ := hr.mono (by decide)
    refine ⟨_, pss_cons (ps_setLc (i := 2) (own := [("k", 5)]) (g := gName 5) (tt := tYes) (by rfl) scIs.nd rfl rfl (sw_true rfl rfl rfl (by decide +kernel)) (pi_range1 (by rfl) B.rng (pa_cons (pe_def DN r1 (by rfl) (pa_cons (pv 0) (pa_cons (pe_op op_add (pv 1) pe_int) pa_nil))) pa_nil))
        (blkOk_by (own := [("k", 5)]) (N := nIs) (sc := defScope sIs) (by decide +kernel)) (fun _ _ _ _ _ => pg_name (i := 5) scIs.nd rfl (Or.inl rfl)) (fun _ _ _ _ _ => pts_nil) (fun _ _ _ _ _ => pe_def DI hr (by rfl) (pa_cons (pv 0) pa_nil)))
      (pss_cons (ps_set (i := 3) scIs.nd rfl (.inl rfl) (pe_lst pa_nil))
      (pss_cons (ps_for PassesOwn.never rfl (pi_list (pv 2)) (pg_name (i := 4) scIs.nd rfl (.inl rfl)) (pss_one (ps_set (i := 3) scIs.nd rfl (.inl rfl) (pe_def DP r4 (by rfl) (pa_cons (pv 3) (pa_cons (pv 4) pa_nil))))))
      (pss_one (ps_ret (pe_tup (pa_cons (pv 2) (pa_cons (pv 3) pa_nil))))))), ?_⟩
    refine ⟨.ref st, rfl, .int m, rfl, m, 1, rfl, rfl, st, L, m + 1, rfl, g, by omega, by omega, fun n H1 d1 n0 n1 => ⟨n, rfl, by omega, by omega, fun D nD => ?_⟩⟩
    have nDs : D ≠ st := fun z => d1.good.not_none (by rw [← z]; exact nD)
    refine lc_range (lo := 0) (n := n.toNat) (fun i H' => Dr st L H1 H' ∧ ∃ ys js, H' D = some (.lst ys) ∧ Tps H' ys (js.map itD) ∧ js.length = i ∧ OkL js) ⟨Dr.new d1.good nD, [], [], upd_same, .nil, rfl, (fun i hi => by cases hi)⟩ (fun i H' hi hP => ?_) (fun H2 hP => ?_)
    · obtain ⟨dd, ys, js, eD, tp, lj, oj⟩ := hP
      refine ⟨rfl, ?_⟩
      refine iteT (B := True) ?_
      refine ⟨.ref st, rfl, st, L, rfl, dd.good, fun v j H3 d3 tv ov => ?_⟩
      have eD3 := d3.at_ nDs eD
      have ly : ys.length = i := by rw [tp.length, List.length_map, lj]
      refine ⟨ys, eD3, small1000 (by omega), (dd.trans d3).put d1.good nD, ys ++ [v], js ++ [j], upd_same, ?_, ?_, ?_⟩
      · rw [List.map_append]
        exact ((tp.mono (d3.tk dd.good)).mono (Tk.lst eD3)).append (.cons (tv.mono (Tk.lst eD3)) .nil)
      · rw [List.length_append, lj]
        rfl
      · intro x hx
        rcases List.mem_append.mp hx with h | h
        · exact oj x h
        · rw [List.mem_singleton.mp h]
          exact ov
    obtain ⟨dd, ys, js, eD, tp, lj, oj⟩ := hP
    have d2 := d1.trans dd
    refine ⟨Nat.zero_le _, fun O nO => ?_⟩
    have eD2 : (upd H2 O (.lst [])) D = some (.lst ys) := (same_new nO) _ _ eD
    have tpO := tp.mono (Tk.new (o := .lst []) nO)
    have nOH : H O = none := d2.free nO
    have dO := d2.add (o := .lst []) nO
    have eO : (upd H2 O (.lst [])) O = some (.lst []) := upd_same
    have ly : ys.length = js.length := by rw [tp.length, List.length_map]
    revert eD2 tpO dO eO
    generalize upd H2 O (.lst []) = H3
    intro eD2 tpO dO eO
    refine ⟨.ref D, rfl, D, rfl, ⟨ys, SqL.of eD2⟩, ?_⟩
    refine for_list (K := K) (a := D) (xs := ys) (fun i σ H' => (∃ o x4, σ = [some (.ref st), some (.int m), some (.ref D), some (.ref o), x4, none] ∧ H o = none ∧ ∃ zs, H' o = some (.lst zs) ∧ Tps H' zs ((puts [] (js.take i)).map itD)) ∧ Same H3 H') ⟨⟨O, none, rfl, nOH, [], eO, .nil⟩, Same.refl _⟩ (fun i σ H' _ hP => SqL.of (hP.2 _ _ eD2)) (fun i x σ H' hx hP => ?_) (fun σ H' hP => ?_)
    · obtain ⟨⟨o, x4, rfl, no, zs, eo, tz⟩, sm⟩ := hP
      obtain ⟨j, ej, tj⟩ := item_get tpO hx
      have hi : i < js.length := (List.getElem?_eq_some_iff.mp ej).1
      obtain ⟨p1, p2, p3⟩ := puts_ok (js := js.take i) (its := []) (fun x hx => oj x (List.mem_of_mem_take hx)) List.Pairwise.nil (fun i hi => by cases hi)
      rw [List.length_take, List.length_nil] at p3
      refine ⟨.ref o, rfl, x, rfl, o, x, j, _, zs, rfl, eo, tz, tj.mono (Tk.of sm), p2, oj j (List.mem_of_getElem? ej), by omega, fun L2 ys2 H4 s4 nL2 eL2 t2 => ?_⟩
      refine ⟨⟨L2, _, rfl, ?_, ys2, eL2, ?_⟩, sm.trans s4⟩
      · exact dO.free (sm.free nL2)
      · rw [puts_take ej]
        exact t2
    · obtain ⟨⟨o, x4, rfl, no, zs, eo, tz⟩, sm⟩ := hP
      refine ⟨.ref D, rfl, .ref o, rfl, (by show 2 ≤ sizeLine; decide), fun p np => ?_⟩
      rw [ly, List.take_length] at tz
      obtain ⟨p1, p2, p3⟩ := puts_ok (js := js) (its := []) oj List.Pairwise.nil (fun i hi => by cases hi)
      rw [List.length_nil] at p3
      refine q p (.ref D) o _ zs _ ((dO.trans (Dr.same dO.good sm)).add np) no upd_same ((same_new np) _ _ eo) (tz.mono (Tk.new np)) p1 p2 (by omega)
/-! ### _law_changes -/
abbrev sCs : Stmt := topS 31
abbrev nCs : List Str := ["state", "ordered", "changes", "k", "item"]
theorem scCs : FnScope nCs ["state", "ordered"] (defScope sCs) := ⟨rfl, rfl, rfl, by decide +kernel, rfl, by decide +kernel, by decide +kernel⟩
def spCs : Sp := fun vs H Q _ => ∃ (st L a : Addr) (its : List It1) (xs : List V), vs = [.ref st, .ref a] ∧ Good st L H ∧ a ≠ st ∧ H a = some (.lst xs) ∧ Tps H xs (its.map itD) ∧ OkL its ∧ its.length ≤ 100 ∧ ∀ (b : Addr) cs ys H', Dr st L H H' → H b = none → H' b = some (.lst ys) → Tps H' ys (cs.map chD) → OkC cs → cs.length ≤ 10 → Q (.ref b) H'
theorem ok_cs {f0 : Addr} {fd : FuncData} (F0 : Fun K "_law_changes" "_law_changes" sCs f0 fd) (B : Bt mg) (DN : dNext P w K mg base) (DI : dItem P w K mg base) (DK : dLK P w K mg base) : FnOk P w K mg base CX0 8 f0 fd ["state", "ordered"] spCs := by
  refine F0.ok scCs (fun vs H Q E h => ?_) (fun cdv A outer s H vs Q E hr h => ?_)
  · obtain ⟨_, _, _, _, _, rfl, _⟩ := h
    rfl
  · obtain ⟨st, L, a, its, xs, rfl, g, nas, ea, tx, oi, li, q⟩ := h
    have r1 : Room 1 _ := hr.mono (by decide)
    refine ⟨_, pss_cons (ps_set (i := 2) scCs.nd rfl (.inl rfl) (pe_lst pa_nil))
      (pss_cons (ps_for PassesOwn.never rfl (pi_range1 (by rfl) B.rng (pa_cons (pe_def DN r1 (by rfl) (pa_cons (pv 0) (pa_cons pe_int pa_nil))) pa_nil)) (pg_name (i := 3) scCs.nd rfl (.inl rfl))
        (pss_cons (ps_set (i := 4) scCs.nd rfl (.inl rfl) (pe_def DI hr (by rfl) (pa_cons (pv 0) pa_nil)))
        (C8.pss_cut (ps_if (PW.pt (pw_and (pt_cmpR op_gt (pe_callB call_len_seq (by rfl) B.len PySem.boot_len (pa_cons (pv 1) pa_nil)) pe_int (nomark _)) (pw_and1 (pt_cmpR op_eq (pe_def DN r1 (by rfl) (pa_cons (pv 0) (pa_cons pe_int pa_nil))) pe_int (nomark _)))))
          (pss_one (ps_set (i := 4) scCs.nd rfl (.inl rfl) (pe_ix ix_list (pv 1) (pe_def DN r1 (by rfl) (pa_cons (pv 0) (pa_cons (pe_callB call_len_seq (by rfl) B.len PySem.boot_len (pa_cons (pv 1) pa_nil)) pa_nil))) (fun _ _ => rfl)))) pss_nil)
        (pss_one (ps_expr (pe_bm PySem.F.plainAttrs_list PySem.F.slot_list_append PySem.F.type_list_append mt_append (pv 2) (pa_cons (pe_ix ix_list (pe_lst (pa_cons (pe_tup (pa_cons pe_str (pa_cons (pv 4) pa_nil))) (pa_cons (pe_tup (pa_cons pe_str (pa_cons (pe_def DK r1 (by rfl) (pa_cons (pv 4) pa_nil)) pa_nil))) pa_nil))) (pe_def DN r1 (by rfl) (pa_cons (pv 0) (pa_cons pe_int pa_nil))) (fun _ _ => rfl)) pa_nil)))))))
      (pss_one (ps_ret (pv 2)))), ?_⟩
    have lx : xs.length = its.length := by rw [tx.length, List.length_map]
    refine ⟨Nat.zero_le _, fun b nb => ?_⟩
    have d0 : Dr st L H (upd H b (.lst [])) := Dr.new g nb
    have eb0 : (upd H b (.lst [])) b = some (.lst []) := upd_same
    have nbs : b ≠ st := fun z => g.not_none (by rw [← z]; exact nb)
    have ea0 : (upd H b (.lst [])) a = some (.lst xs) := d0.at_ nas ea
    have tx0 := tx.mono (d0.tk g)
    revert d0 eb0 ea0 tx0
    generalize upd H b (.lst []) = H0
    intro d0 eb0 ea0 tx0
    have nab : a ≠ b := fun z => by rw [z, nb] at ea; cases ea
    refine ⟨.ref st, rfl, st, L, 11, rfl, d0.good, by decide, by decide, fun n H1 d1 n0 n1 => ⟨n, rfl, by omega, by omega, ?_⟩⟩
    refine for_range (lo := 0) (n := n.toNat) (fun i σ H' => (∃ x3 x4, σ = [some (.ref st), some (.ref a), some (.ref b), x3, x4]) ∧ Dr st L H H' ∧ ∃ ys cs, H' b = some (.lst ys) ∧ Tps H' ys (cs.map chD) ∧ cs.length = i ∧ OkC cs) ⟨⟨none, none, rfl⟩, d0.trans d1, [], [], d1.at_ nbs eb0, .nil, rfl, (fun i hi => by cases hi)⟩ (fun i σ H' hi hP => ?_) (fun σ H' hP => ?_)
    · obtain ⟨⟨x3, x4, rfl⟩, dd, ys, cs, eb, tp, lc, oc⟩ := hP
      refine ⟨.ref st, rfl, st, L, rfl, dd.good, fun v j H2 d2 tv ov => ?_⟩
      -- the item, drawn or taken from the ordered ones
      refine ⟨fun σ H' => (∃ x4, σ = [some (.ref st), some (.ref a), some (.ref b), some (.int (0 + (i : Int))), some x4] ∧ ∃ j, Tp H' x4 (itD j) ∧ okI j) ∧ Dr st L H2 H', ?_, ?_⟩
      · have d02 := dd.trans d2
        refine ⟨.ref a, rfl, a, xs, rfl, .inl (SqL.of (d02.at_ nas ea)), _, _, rfl, rfl, _, rfl, ite2 (fun c => ?_) (fun c => ?_)⟩
        · have c1 : (0 : Int) < xs.length := of_decide_eq_true c
          refine ⟨.ref st, rfl, st, L, 2, rfl, d2.good, by decide, by decide, fun w3 H3 d3 w0 w1 => ⟨rfl, _, rfl, ite2 (fun c2 => ?_) (fun c2 => ?_)⟩⟩
          · have d03 := d02.trans d3
            refine ⟨.ref a, rfl, .ref st, rfl, .ref a, rfl, a, xs, rfl, .inl (SqL.of (d03.at_ nas ea)), st, L, xs.length, rfl, d3.good, c1, by omega, fun w4 H4 d4 z0 z1 => ?_⟩
            obtain ⟨m4, em⟩ := nat_of z0
            have hm : m4 < xs.length := by omega
            obtain ⟨j2, ej2, tj2⟩ := item_get tx (List.getElem?_eq_getElem hm)
            have d04 := d03.trans d4
            refine ⟨a, xs, w4, xs[m4], rfl, rfl, SqL.of (d04.at_ nas ea), by rw [em]; exact atI_nat (List.getElem?_eq_getElem hm), ⟨xs[m4], rfl, j2, tj2.mono (d04.tk g), oi j2 (List.mem_of_getElem? ej2)⟩, d3.trans d4⟩
          · exact ⟨⟨v, rfl, j, tv.mono (d3.tk d2.good), ov⟩, d3⟩
        · exact ⟨⟨v, rfl, j, tv, ov⟩, Dr.refl d2.good⟩
      · rintro σ H3 ⟨⟨x4, rfl, j, tv, ov⟩, d3⟩
        have d03 := (dd.trans d2).trans d3
        have eb3 := d3.at_ nbs (d2.at_ nbs eb)
        have tp3 := (tp.mono (d2.tk dd.good)).mono (d3.tk d2.good)
        have ly : ys.length = i := by rw [tp.length, List.length_map, lc]
        refine ⟨.ref b, rfl, .inl ⟨rfl, _, SqL.of eb3⟩, x4, rfl, (by show 2 ≤ sizeLine; decide), fun p1 np1 => ?_⟩
        have s1 : Same H3 (upd H3 p1 (.tup [.str "comes", x4])) := same_new np1
        refine ⟨x4, rfl, x4, j, rfl, tv.mono (Tk.of s1), ov, fun r H5 s5 tr => ⟨(by show 2 ≤ sizeLine; decide), fun p2 np2 => ⟨(by show 2 ≤ sizeLine; decide), fun l nl => ?_⟩⟩⟩
        have s2 : Same H5 (upd H5 p2 (.tup [.str "goes", .ref r])) := same_new np2
        have s3 := s2.trans (same_new nl (o := .lst [.ref p1, .ref p2]))
        have s35 := s1.trans (s5.trans s3)
        have g6 := Dr.same d3.good s35
        refine ⟨.ref st, rfl, st, L, 2, rfl, g6.good, by decide, by decide, fun w6 H7 d7 z0 z1 => ?_⟩
        have nls : l ≠ st := fun z => (Dr.same d3.good (s1.trans (s5.trans s2))).good.not_none (by rw [← z]; exact nl)
        have el7 := d7.at_ nls upd_same
        have tk7 := d7.tk g6.good
        have ep1 := tk7 _ _ ((s5.trans s3) _ _ (upd_same (H := H3) (a := p1) (o := .tup [.str "comes", x4])))
        have ep2 := tk7 _ _ ((same_new nl (o := .lst [.ref p1, .ref p2])) _ _ (upd_same (H := H5) (a := p2) (o := .tup [.str "goes", .ref r])))
        have tx7 := (tv.mono (Tk.of s35)).mono tk7
        have tr7 := (tr.mono (Tk.of s3)).mono tk7
        have eb7 := d7.at_ nbs (s35 _ _ eb3)
        have tp7 := (tp3.mono (Tk.of s35)).mono tk7
        have d07 := (d03.trans g6).trans d7
        -- behind the append
        have fin : ∀ (c : Ch) (y : V), okI (chI c) → Tp H7 y (chD c) → Dr st L H (upd H7 b (.lst (ys ++ [y]))) ∧ ∃ ys2 cs2, (upd H7 b (.lst (ys ++ [y]))) b = some (.lst ys2) ∧ Tps (upd H7 b (.lst (ys ++ [y]))) ys2 (cs2.map chD) ∧ cs2.length = i + 1 ∧ OkC cs2 := fun c y oc1 ty => by
          refine ⟨d07.put g nb, ys ++ [y], cs ++ [c], upd_same, ?_, ?_, fun x hx => ?_⟩
          · rw [List.map_append]
            exact (tp7.mono (Tk.lst eb7)).append (.cons (ty.mono (Tk.lst eb7)) .nil)
          · rw [List.length_append, lc]
            rfl
          · rcases List.mem_append.mp hx with h | h
            · exact oc x h
            · rw [List.mem_singleton.mp h]
              exact oc1
        rcases (show w6 = 0 ∨ w6 = 1 by omega) with e6 | e6
        · subst e6
          refine ⟨l, _, 0, .ref p1, rfl, rfl, SqL.of el7, rfl, b, ys, .ref p1, rfl, rfl, eb7, small1000 (by omega), ⟨_, _, rfl⟩, fin (.comes j) (.ref p1) ov (.tup ep1 (.cons (.str _) (.cons tx7 .nil)))⟩
        · subst e6
          refine ⟨l, _, 1, .ref p2, rfl, rfl, SqL.of el7, rfl, b, ys, .ref p2, rfl, rfl, eb7, small1000 (by omega), ⟨_, _, rfl⟩, fin (.goes j) (.ref p2) ov (.tup ep2 (.cons (.str _) (.cons tr7 .nil)))⟩
    · obtain ⟨⟨x3, x4, rfl⟩, dd, ys, cs, eb, tp, lc, oc⟩ := hP
      exact ⟨.ref b, rfl, q b cs ys H' dd nb eb tp oc (by omega)⟩
end
end KD

namespace KD
open PySem PySem.Spec PyProof.Rows L2 KA
theorem kc_same {i j : It1} (hi : okI i) (hj : okI j) : keyI i = keyI j ↔ kc (keyI i) (keyI j) = 0 := by
  rcases kc_cases (okK_of hi) (okK_of hj) with ⟨a, b, n⟩ | ⟨a, b, n⟩ | ⟨a, b, n⟩
  · exact ⟨fun z => absurd z n, fun z => by omega⟩
  · exact ⟨fun z => absurd z n, fun z => by omega⟩
  · exact ⟨fun _ => a, fun _ => n⟩
section
variable {P : Program} {w : World} {K : PySem.W.Frag} {mg : Str → Option Value} {base : Heap} {C : Addr}
/-! ### _law_changed -/
abbrev sCh : Stmt := topS 30
abbrev nCh : List Str := ["ordered", "changes", "word", "what", "item"]
theorem scCh : FnScope nCh ["ordered", "changes"] (defScope sCh) := ⟨rfl, rfl, rfl, by decide +kernel, rfl, by decide +kernel, by decide +kernel⟩
def spCh : Sp := fun vs H Q _ => ∃ (a c : Addr) (its : List It1) (cs : List Ch) (xs zs : List V), vs = [.ref a, .ref c] ∧ H a = some (.lst xs) ∧ Tps H xs (its.map itD) ∧ SortedI its ∧ OkL its ∧ its.length ≤ 100 ∧ H c = some (.lst zs) ∧ Tps H zs (cs.map chD) ∧ OkC cs ∧ cs.length ≤ 100 ∧
  ∀ b ys H', Same H H' → H' b = some (.lst ys) → Tps H' ys ((apply its cs).map itD) → Q (.ref b) H'
theorem ok_chd {f0 : Addr} {fd : FuncData} (F0 : Fun K "_law_changed" "_law_changed" sCh f0 fd) (DP : dPl P w K mg base) (DK : dLK P w K mg base) (DS : dSame P w K mg base) : FnOk P w K mg base CX0 10 f0 fd ["ordered", "changes"] spCh := by
  refine F0.ok scCh (fun vs H Q E h => ?_) (fun cdv A outer s H vs Q E hr h => ?_)
  · obtain ⟨_, _, _, _, _, _, rfl, _⟩ := h
    rfl
  · obtain ⟨a, c, its, cs, xs, zs, rfl, ea, tx, si, oi, li, ec, tz, oc, lc, q⟩ := h
    have r1 : Room 1 _ := hr.mono (by decide)
    have r4 : Room 4 _ := hr.mono (by decide)
    refine ⟨_, pss_cons (ps_for PassesOwn.never rfl (pi_list (pv 1)) (pg_tup rfl (pgs_cons (pg_name (i := 2) scCh.nd rfl (.inl rfl)) (pgs_cons (pg_name (i := 3) scCh.nd rfl (.inr rfl)) pgs_nil)))
        (pss_one (ps_if (pt_cmpR op_eq (pv 2) pe_str (nomark _))
          (pss_one (ps_set (i := 0) scCh.nd rfl (.inl rfl) (pe_def DP r4 (by rfl) (pa_cons (pv 0) (pa_cons (pv 3) pa_nil)))))
          (pss_one (ps_setLc (i := 0) (own := [("item", 4)]) (g := gName 4) (te := tVar 4) (by rfl) scCh.nd rfl rfl (sw_true rfl rfl rfl (by decide +kernel)) (pi_list (pv 0)) (blkOk_by (own := [("item", 4)]) (N := nCh) (sc := defScope sCh) (by decide +kernel))
            (fun _ _ _ _ _ => pg_name (i := 4) scCh.nd rfl (Or.inl rfl)) (fun _ _ _ _ _ => pts_one (pt_not (pt_val (pe_def DS hr (by rfl) (pa_cons (pe_def DK r1 (by rfl) (pa_cons (pv 4) pa_nil)) (pa_cons (pv 3) pa_nil)))))) (fun _ _ _ _ _ => pv 4))))))
      (pss_one (ps_ret (pv 0))), ?_⟩
    have lz : zs.length = cs.length := by rw [tz.length, List.length_map]
    refine ⟨.ref c, rfl, c, rfl, ⟨zs, SqL.of ec⟩, ?_⟩
    refine for_list (K := K) (a := c) (xs := zs) (fun i σ H' => (∃ b x2 x3, σ = [some (.ref b), some (.ref c), x2, x3, none] ∧ ∃ ys, H' b = some (.lst ys) ∧ Tps H' ys ((apply its (cs.take i)).map itD)) ∧ Same H H') ⟨⟨a, none, none, rfl, xs, ea, tx⟩, Same.refl _⟩ (fun i σ H' _ hP => SqL.of (hP.2 _ _ ec)) (fun i x σ H' hx hP => ?_) (fun σ H' hP => ?_)
    · obtain ⟨⟨b, x2, x3, rfl, ys, eb, tb⟩, sm⟩ := hP
      obtain ⟨ch, ech, tch⟩ := ch_get tz hx
      have hi : i < cs.length := (List.getElem?_eq_some_iff.mp ech).1
      have och := oc ch (List.mem_of_getElem? ech)
      have tch := tch.mono (Tk.of sm)
      obtain ⟨p1, p2, p3⟩ := apply_ok (cs := cs.take i) (its := its) (fun x hx => oc x (List.mem_of_mem_take hx)) si oi
      rw [List.length_take] at p3
      cases ch with
      | comes j =>
        obtain ⟨p, rfl, y, ep, ty⟩ := inv2 tch
        refine ⟨p, _, rfl, SqT.of ep, rfl, _, _, rfl, _, _, rfl, rfl, ?_⟩
        refine ⟨.str "comes", rfl, rfl, _, rfl, yes_if ?_⟩
        refine ⟨.ref b, rfl, y, rfl, b, y, j, _, ys, rfl, eb, tb, ty, p2, och, by omega, fun L2 ys2 H4 s4 nL2 eL2 t2 => ?_⟩
        refine ⟨⟨L2, _, _, rfl, ys2, eL2, ?_⟩, sm.trans s4⟩
        rw [apply_take ech]
        exact t2
      | goes j =>
        obtain ⟨p, rfl, y, ep, ty⟩ := inv2 tch
        have och : okI j := och
        refine ⟨p, _, rfl, SqT.of ep, rfl, _, _, rfl, _, _, rfl, rfl, ?_⟩
        refine ⟨.str "goes", rfl, rfl, _, rfl, no_if (by decide +kernel) ?_⟩
        have ly : ys.length = (apply its (cs.take i)).length := by rw [tb.length, List.length_map]
        refine ⟨.ref b, rfl, b, rfl, ⟨ys, SqL.of eb⟩, fun D nD => ?_⟩
        refine lc_it walk_list (fun k H2 => (∀ a o, H' a = some o → H2 a = some o) ∧ ∃ zs2, H2 D = some (.lst zs2) ∧ Tps H2 zs2 ((((apply its (cs.take i)).take k).filter fun x => decide (kc (keyI x) (keyI j) ≠ 0)).map itD)) ⟨same_new nD, [], upd_same, .nil⟩ (fun k H2 _ hQ => SqL.of (hQ.1 _ _ eb)) (fun k x H2 H3 hk hQ hY => ?_) (fun H2 hQ => ?_)
        · obtain ⟨rfl, hy⟩ := hY
          obtain ⟨sm2, zs2, eD, t2⟩ := hQ
          obtain ⟨it, eit, tit⟩ := item_get tb hy
          have oit := p2 it (List.mem_of_getElem? eit)
          refine ⟨rfl, ?_⟩
          refine ⟨x, rfl, x, it, rfl, tit.mono (Tk.of sm2), oit, fun r H4 s4 tr => ?_⟩
          refine ⟨y, rfl, .inl ⟨.ref r, y, _, _, rfl, tr, (ty.mono (Tk.of sm2)).mono (Tk.of s4), (nice_key oit).1, (nice_key och).1, Nat.le_trans (nice_key och).2 (by decide), _, rfl, ?_⟩⟩
          have sm4 : Same H3 H4 := s4
          have eD4 := sm4 _ _ eD
          have lz2 : zs2.length ≤ k := by
            rw [t2.length, List.length_map]
            refine Nat.le_trans (List.length_filter_le _ _) ?_
            rw [List.length_take]
            omega
          cases ce : PyData.eqv (kdI it) (kdI j) with
          | true =>
            have hz := (kc_same oit och).mp ((eqv_key oit och).mp ce)
            refine iteF ?_
            refine ⟨fun a o h => sm4 _ _ (sm2 a o h), zs2, eD4, ?_⟩
            rw [take_next eit, fil_no (p := fun x => decide (kc (keyI x) (keyI j) ≠ 0)) (x := it) (by simp [hz])]
            exact t2.mono (Tk.of sm4)
          | false =>
            have hz : kc (keyI it) (keyI j) ≠ 0 := fun z => by
              have := (eqv_key oit och).mpr ((kc_same oit och).mpr z)
              rw [ce] at this
              cases this
            refine iteT ?_
            refine ⟨x, rfl, zs2, eD4, small1000 (by omega), fun a o h => ?_, zs2 ++ [x], upd_same, ?_⟩
            · rw [upd_ne (ne_of_none h nD)]
              exact sm4 _ _ (sm2 a o h)
            · rw [take_next eit, fil_yes (p := fun x => decide (kc (keyI x) (keyI j) ≠ 0)) (x := it) (decide_eq_true hz), List.map_append]
              exact ((t2.mono (Tk.of sm4)).mono (Tk.lst eD4)).append (.cons ((tit.mono (Tk.of fun a o h => sm4 _ _ (sm2 a o h))).mono (Tk.lst eD4)) .nil)
        · obtain ⟨sm2, zs2, eD, t2⟩ := hQ
          rw [ly, List.take_length] at t2
          refine ⟨⟨D, _, _, rfl, zs2, eD, ?_⟩, fun a o h => sm2 a o (sm a o h)⟩
          rw [apply_take ech]
          exact t2
    · obtain ⟨⟨b, x2, x3, rfl, ys, eb, tb⟩, sm⟩ := hP
      rw [lz, List.take_length] at tb
      exact ⟨.ref b, rfl, q b ys H' sm eb tb⟩
/-! ### _law_between -/
abbrev sLB : Stmt := topS 32
abbrev nLB : List Str := ["first", "second", "keys", "changes", "item"]
theorem scLB : FnScope nLB ["first", "second"] (defScope sLB) := ⟨rfl, rfl, rfl, by decide +kernel, rfl, by decide +kernel, by decide +kernel⟩
def spLB : Sp := fun vs H Q _ => ∃ (a c : Addr) (i1 i2 : List It1) (xs zs : List V), vs = [.ref a, .ref c] ∧ H a = some (.lst xs) ∧ Tps H xs (i1.map itD) ∧ OkL i1 ∧ i1.length ≤ 100 ∧ H c = some (.lst zs) ∧ Tps H zs (i2.map itD) ∧ OkL i2 ∧ i2.length ≤ 100 ∧
  ∀ b ys H', Same H H' → H' b = some (.lst ys) → Tps H' ys ((btw i1 i2).map chD) → Q (.ref b) H'
theorem ok_lb {f0 : Addr} {fd : FuncData} (F0 : Fun K "_law_between" "_law_between" sLB f0 fd) (DK : dLK P w K mg base) : FnOk P w K mg base CX0 2 f0 fd ["first", "second"] spLB := by
  refine F0.ok scLB (fun vs H Q E h => ?_) (fun cdv A outer s H vs Q E hr h => ?_)
  · obtain ⟨_, _, _, _, _, _, rfl, _⟩ := h
    rfl
  · obtain ⟨a, c, i1, i2, xs, zs, rfl, ea, tx, o1, l1, ec, tz, o2, l2, q⟩ := h
    have hu := hr.units
    refine ⟨_, pss_cons (ps_set (i := 2) scLB.nd rfl (.inr rfl) (pe_lc (own := [("item", 4)]) (g := gName 4) (tt := tYes) (te := tCall spKO [] E0 (tCons (tVar 4) tNil)) (by rfl) scLB.nd (pi_list (pv 1)) (blkOk_by (own := [("item", 4)]) (N := nLB) (sc := defScope sLB) (by decide +kernel))
        (fun _ _ _ _ _ => pg_name (i := 4) scLB.nd rfl (Or.inl rfl)) (fun _ _ _ _ _ => pts_nil) (fun _ _ _ _ _ => pe_def DK hr (by rfl) (pa_cons (pv 4) pa_nil))))
      (pss_cons (ps_setLc (i := 3) (own := [("item", 4)]) (g := gName 4) (tt := tTest (tOp (rNiL K) (tCall spKO [] E0 (tCons (tVar 4) tNil)) (tVar 2))) (te := tTup (tCons (tC (.str "goes")) (tCons (tCall spKO [] E0 (tCons (tVar 4) tNil)) tNil))) (by rfl) scLB.nd rfl rfl (sw_true rfl rfl rfl (by decide +kernel)) (pi_list (pv 0)) (blkOk_by (own := [("item", 4)]) (N := nLB) (sc := defScope sLB) (by decide +kernel))
        (fun _ _ _ _ _ => pg_name (i := 4) scLB.nd rfl (Or.inl rfl)) (fun _ _ _ _ _ => pts_one (pt_cmpR (op_niL hu) (pe_def DK hr (by rfl) (pa_cons (pv 4) pa_nil)) (pv 2) rfl)) (fun _ _ _ _ _ => pe_tup (pa_cons pe_str (pa_cons (pe_def DK hr (by rfl) (pa_cons (pv 4) pa_nil)) pa_nil))))
      (pss_one (ps_ret (pe_op op_cat (pv 3) (pe_lc (own := [("item", 4)]) (g := gName 4) (tt := tTest (tOp (rNiL K) (tVar 4) (tVar 0))) (te := tTup (tCons (tC (.str "comes")) (tCons (tVar 4) tNil))) (by rfl) scLB.nd (pi_list (pv 1)) (blkOk_by (own := [("item", 4)]) (N := nLB) (sc := defScope sLB) (by decide +kernel))
        (fun _ _ _ _ _ => pg_name (i := 4) scLB.nd rfl (Or.inl rfl)) (fun _ _ _ _ _ => pts_one (pt_cmpR (op_niL hu) (pv 4) (pv 0) rfl)) (fun _ _ _ _ _ => pe_tup (pa_cons pe_str (pa_cons (pv 4) pa_nil)))))))), ?_⟩
    have lx : xs.length = i1.length := by rw [tx.length, List.length_map]
    have lz : zs.length = i2.length := by rw [tz.length, List.length_map]
    -- keys
    refine ⟨.ref c, rfl, c, rfl, ⟨zs, SqL.of ec⟩, fun Ks nK => ?_⟩
    refine lc_it walk_list (fun k H' => (∀ a o, H a = some o → H' a = some o) ∧ ∃ ks, H' Ks = some (.lst ks) ∧ Tps H' ks ((i2.take k).map kdI)) ⟨same_new nK, [], upd_same, .nil⟩ (fun k H' _ hP => SqL.of (hP.1 _ _ ec)) (fun k x H' H2 hk hP hY => ?_) (fun H2 hP => ?_)
    · obtain ⟨rfl, hx⟩ := hY
      obtain ⟨sm, ks, eK, tk⟩ := hP
      obtain ⟨it, eit, tit⟩ := item_get tz hx
      have oit := o2 it (List.mem_of_getElem? eit)
      refine ⟨rfl, ?_⟩
      refine iteT (B := True) ?_
      refine ⟨x, rfl, x, it, rfl, tit.mono (Tk.of sm), oit, fun r H4 s4 tr => ?_⟩
      have eK4 := s4 _ _ eK
      have lk : ks.length ≤ k := by
        rw [tk.length, List.length_map, List.length_take]
        omega
      refine ⟨ks, eK4, small1000 (by omega), fun a o h => ?_, ks ++ [.ref r], upd_same, ?_⟩
      · rw [upd_ne (ne_of_none h nK)]
        exact s4 _ _ (sm _ _ h)
      · rw [take_next eit, List.map_append]
        exact ((tk.mono (Tk.of s4)).mono (Tk.lst eK4)).append (.cons (tr.mono (Tk.lst eK4)) .nil)
    obtain ⟨smk, ks, eK, tk⟩ := hP
    rw [lz, List.take_length] at tk
    have smk : Same H H2 := smk
    -- what goes
    refine ⟨.ref a, rfl, a, rfl, ⟨xs, SqL.of (smk _ _ ea)⟩, fun G nG => ?_⟩
    have tx2 := tx.mono (Tk.of smk)
    refine lc_it walk_list (fun k H' => (∀ a o, H2 a = some o → H' a = some o) ∧ ∃ ys, H' G = some (.lst ys) ∧ Tps H' ys (((gone (i1.take k) i2).map Ch.goes).map chD)) ⟨same_new nG, [], upd_same, .nil⟩ (fun k H' _ hP => SqL.of (hP.1 _ _ (smk _ _ ea))) (fun k x H' H3 hk hP hY => ?_) (fun H3 hP => ?_)
    · obtain ⟨rfl, hx⟩ := hY
      obtain ⟨sm, ys, eG, tg⟩ := hP
      obtain ⟨it, eit, tit⟩ := item_get tx2 hx
      have oit := o1 it (List.mem_of_getElem? eit)
      have lg : ys.length ≤ k := by
        rw [tg.length, List.length_map, List.length_map]
        refine Nat.le_trans (List.length_filter_le _ _) ?_
        rw [List.length_take]
        omega
      refine ⟨rfl, ?_⟩
      have sm3 : Same H2 H3 := sm
      refine ⟨x, rfl, x, it, rfl, tit.mono (Tk.of sm3), oit, fun r H4 s4 tr => ?_⟩
      have tk4 := (tk.mono (Tk.of sm3)).mono (Tk.of s4)
      refine ⟨.ref Ks, rfl, kdI it, i2.map kdI, tr.dp, .lst (SqL.of (s4 _ _ (sm3 _ _ eK))) tk4.dp, tr.plain, tk4.plain, Nat.le_trans (nice_key oit).2 (by decide), _, rfl, ?_⟩
      have eG4 := s4 _ _ eG
      have any_iff : ((i2.map kdI).any fun z => PyData.eqv z (kdI it)) = true ↔ ∃ j ∈ i2, keyI j = keyI it := by
        rw [List.any_eq_true]
        constructor
        · rintro ⟨z, hz, e⟩
          obtain ⟨j, hj, rfl⟩ := List.mem_map.mp hz
          exact ⟨j, hj, (eqv_key (o2 j hj) oit).mp e⟩
        · rintro ⟨j, hj, e⟩
          exact ⟨kdI j, List.mem_map.mpr ⟨j, hj, rfl⟩, (eqv_key (o2 j hj) oit).mpr e⟩
      cases ca : ((i2.map kdI).any fun z => PyData.eqv z (kdI it)) with
      | true =>
        obtain ⟨j, hj, ej⟩ := any_iff.mp ca
        refine iteF ⟨fun a o h => s4 _ _ (sm3 a o h), ys, eG4, ?_⟩
        rw [take_next eit, gone_no (fun h => h j hj ej)]
        exact tg.mono (Tk.of s4)
      | false =>
        have hin : ∀ j ∈ i2, keyI j ≠ keyI it := fun j hj e => by
          have := any_iff.mpr ⟨j, hj, e⟩
          rw [ca] at this
          cases this
        refine iteT ?_
        refine ⟨x, rfl, x, it, rfl, (tit.mono (Tk.of sm3)).mono (Tk.of s4), oit, fun r5 H5 s5 tr5 => ⟨(by show 2 ≤ sizeLine; decide), fun p np => ?_⟩⟩
        have eG5 := s5 _ _ eG4
        have npG : G ≠ p := fun z => by rw [← z, eG5] at np; cases np
        have eG' : (upd H5 p (.tup [.str "goes", .ref r5])) G = some (.lst ys) := by
          rw [upd_ne npG]
          exact eG5
        have tk1 : Tk H5 (upd (upd H5 p (.tup [.str "goes", .ref r5])) G (.lst (ys ++ [.ref p]))) := (Tk.new np).trans (Tk.lst eG')
        refine ⟨ys, eG', small1000 (by omega), fun a o h => ?_, ys ++ [.ref p], upd_same, ?_⟩
        · rw [upd_ne (ne_of_none h nG), upd_ne (ne_of_none (s5 _ _ (s4 _ _ (sm3 a o h))) np)]
          exact s5 _ _ (s4 _ _ (sm3 a o h))
        · rw [take_next eit, gone_yes hin, List.map_append, List.map_append]
          exact (((tg.mono (Tk.of s4)).mono (Tk.of s5)).mono tk1).append (.cons (.tup (by rw [upd_ne npG.symm]; exact upd_same) (.cons (.str _) (.cons (tr5.mono tk1) .nil))) .nil)
    obtain ⟨smg, gs, eG, tg⟩ := hP
    rw [lx, List.take_length] at tg
    have smg : Same H2 H3 := smg
    have sm3 : Same H H3 := smk.trans smg
    have lg : gs.length ≤ i1.length := by
      rw [tg.length, List.length_map, List.length_map]
      exact List.length_filter_le _ _
    -- what comes
    refine ⟨.ref G, rfl, .ref c, rfl, c, rfl, ⟨zs, SqL.of (sm3 _ _ ec)⟩, fun M nM => ?_⟩
    have tz3 := tz.mono (Tk.of sm3)
    have tx3 := tx.mono (Tk.of sm3)
    refine lc_it walk_list (fun k H' => (∀ a o, H3 a = some o → H' a = some o) ∧ ∃ ys, H' M = some (.lst ys) ∧ Tps H' ys (((come i1 (i2.take k)).map Ch.comes).map chD)) ⟨same_new nM, [], upd_same, .nil⟩ (fun k H' _ hP => SqL.of (hP.1 _ _ (sm3 _ _ ec))) (fun k x H' H4 hk hP hY => ?_) (fun H4 hP => ?_)
    · obtain ⟨rfl, hx⟩ := hY
      obtain ⟨sm, ys, eM, tm⟩ := hP
      obtain ⟨it, eit, tit⟩ := item_get tz3 hx
      have oit := o2 it (List.mem_of_getElem? eit)
      have lm : ys.length ≤ k := by
        rw [tm.length, List.length_map, List.length_map]
        refine Nat.le_trans (List.length_filter_le _ _) ?_
        rw [List.length_take]
        omega
      have sm4 : Same H3 H4 := sm
      have tit4 := tit.mono (Tk.of sm4)
      have tx4 := tx3.mono (Tk.of sm4)
      refine ⟨rfl, ?_⟩
      refine ⟨x, rfl, .ref a, rfl, itD it, i1.map itD, tit4.dp, .lst (SqL.of (sm4 _ _ (sm3 _ _ ea))) tx4.dp, tit4.plain, tx4.plain, Nat.le_trans (okI_nice oit).2 (by decide), _, rfl, ?_⟩
      have any_iff : ((i1.map itD).any fun z => PyData.eqv z (itD it)) = true ↔ it ∈ i1 := by
        rw [List.any_eq_true]
        constructor
        · rintro ⟨z, hz, e⟩
          obtain ⟨j, hj, rfl⟩ := List.mem_map.mp hz
          rw [← itD_inj ((eqv_dec (okI_nice (o1 j hj)).1 (okI_nice oit).1).mp e)]
          exact hj
        · intro h
          exact ⟨itD it, List.mem_map.mpr ⟨it, h, rfl⟩, (eqv_dec (okI_nice oit).1 (okI_nice oit).1).mpr rfl⟩
      cases ca : ((i1.map itD).any fun z => PyData.eqv z (itD it)) with
      | true =>
        refine iteF ⟨sm, ys, eM, ?_⟩
        rw [take_next eit, come_no (any_iff.mp ca)]
        exact tm
      | false =>
        have hin : it ∉ i1 := fun h => by
          have := any_iff.mpr h
          rw [ca] at this
          cases this
        refine iteT ?_
        refine ⟨x, rfl, (by show 2 ≤ sizeLine; decide), fun p np => ?_⟩
        have npM : M ≠ p := fun z => by rw [← z, eM] at np; cases np
        have eM' : (upd H4 p (.tup [.str "comes", x])) M = some (.lst ys) := by
          rw [upd_ne npM]
          exact eM
        have tk1 : Tk H4 (upd (upd H4 p (.tup [.str "comes", x])) M (.lst (ys ++ [.ref p]))) := (Tk.new np).trans (Tk.lst eM')
        refine ⟨ys, eM', small1000 (by omega), fun a o h => ?_, ys ++ [.ref p], upd_same, ?_⟩
        · rw [upd_ne (ne_of_none h nM), upd_ne (ne_of_none (sm a o h) np)]
          exact sm a o h
        · rw [take_next eit, come_yes hin, List.map_append, List.map_append]
          exact (tm.mono tk1).append (.cons (.tup (by rw [upd_ne npM.symm]; exact upd_same) (.cons (.str _) (.cons (tit4.mono tk1) .nil))) .nil)
    obtain ⟨smm, ms, eM, tm⟩ := hP
    rw [lz, List.take_length] at tm
    have smm : Same H3 H4 := smm
    have lm : ms.length ≤ i2.length := by
      rw [tm.length, List.length_map, List.length_map]
      exact List.length_filter_le _ _
    refine ⟨G, M, gs, ms, rfl, rfl, smm _ _ eG, eM, Nat.le_of_lt (small1000 (by omega)), fun R nR => ?_⟩
    refine q R (gs ++ ms) _ (same_add (sm3.trans smm) nR) upd_same ?_
    unfold btw
    rw [List.map_append]
    exact ((tg.mono (Tk.of smm)).append tm).mono (Tk.new nR)
end
end KD

namespace KD
open PySem PySem.Spec PyProof.Rows L2 KA
/-- two values that read the same -/
def SameV (H : Hp) (v u : V) : Prop := (∃ d, Tp H v d ∧ Tp H u d ∧ nice d ∧ d.depth ≤ 7) ∨
  ∃ p r xs ys ds, v = .ref p ∧ u = .ref r ∧ H p = some (.lst xs) ∧ H r = some (.lst ys) ∧ Tps H xs ds ∧ Tps H ys ds ∧ niceAll ds ∧ PyData.depthAll ds ≤ 7 ∧ ds.length ≤ 1000
theorem SameV.mono {H H' : Hp} {v u : V} (h : SameV H v u) (k : Tk H H') (l : ∀ a xs, H a = some (.lst xs) → H' a = some (.lst xs)) : SameV H' v u := by
  rcases h with ⟨d, t1, t2, n, dd⟩ | ⟨p, r, xs, ys, ds, e1, e2, h1, h2, t1, t2, n, dd, ln⟩
  · exact .inl ⟨d, t1.mono k, t2.mono k, n, dd⟩
  · exact .inr ⟨p, r, xs, ys, ds, e1, e2, l _ _ h1, l _ _ h2, t1.mono k, t2.mono k, n, dd, ln⟩
theorem same_true {H : Hp} {Q : VK} {E : XK} {v u : V} (h : SameV H v u) (q : Q (.bl true) H) : spSame [v, u] H Q E := by
  rcases h with ⟨d, t1, t2, n, dd⟩ | ⟨p, r, xs, ys, ds, rfl, rfl, h1, h2, t1, t2, n, dd, ln⟩
  · exact .inl ⟨v, u, d, d, rfl, t1, t2, n, n, dd, by rw [nice_plain n]; exact q⟩
  · exact .inr ⟨p, r, xs, ys, ds, ds, rfl, h1, h2, t1, t2, n, n, dd, ln, by rw [nice_plain.all_plain n]; exact q⟩
section
variable {P : Program} {w : World} {K : PySem.W.Frag} {mg : Str → Option Value} {base : Heap} {C : Addr}
/-! ### _law_is_dict -/
abbrev sID : Stmt := topS 28
abbrev nID : List Str := ["actual", "expected", "key"]
theorem scID : FnScope nID ["actual", "expected"] (defScope sID) := ⟨rfl, rfl, rfl, by decide +kernel, rfl, by decide +kernel, by decide +kernel⟩
def spID : Sp := fun vs H Q _ => ∃ (a b : Addr) (ks ls : List (Key × V)), vs = [.ref a, .ref b] ∧ H a = some (.dK ks) ∧ H b = some (.dK ls) ∧ a ≠ b ∧ nd ls ∧ ks.length = ls.length ∧ ls.length ≤ 1000 ∧ (∀ k u, (k, u) ∈ ls → ∃ v, valV ks k = some v ∧ SameV H v u) ∧ ∀ H', Same H H' → Q (.bl true) H'
theorem ok_id {f0 : Addr} {fd : FuncData} (F0 : Fun K "_law_is_dict" "_law_is_dict" sID f0 fd) (B : Bt mg) (hdi : mg "dict" = none) (DS : dSame P w K mg base) : FnOk P w K mg base CX0 10 f0 fd ["actual", "expected"] spID := by
  refine F0.ok scID (fun vs H Q E h => ?_) (fun cdv A outer s H vs Q E hr h => ?_)
  · obtain ⟨_, _, _, _, rfl, _⟩ := h
    rfl
  · obtain ⟨a, b, ks, ls, rfl, ea, eb, nab, ndl, hl, l1000, hsame, q⟩ := h
    have hu := hu_of hr
    refine ⟨_, pss_cons (ps_if (PW.pt (pw_or (pt_not (pt_val (pe_callB call_isi (by rfl) B.isi (by decide +kernel) (pa_cons (pv 0) (pa_cons (pe_bltn (v := .ty "dict") (u := .type "dict") (by rfl) hdi (by decide +kernel) rfl) pa_nil)))))
          (pw_or1 (pt_cmpR op_ne (pe_callB call_lenD (by rfl) B.len PySem.boot_len (pa_cons (pv 0) pa_nil)) (pe_callB call_lenD (by rfl) B.len PySem.boot_len (pa_cons (pv 1) pa_nil)) (nomark _))))) (pss_one (ps_ret pe_bl)) pss_nil)
      (pss_one (ps_ret (pe_cmpR op_notIn_seq pe_bl (pe_lock (pe_lc (own := [("key", 2)]) (g := gName 2) (tt := tYes) (by rfl) scID.nd (pi_keys (pv 1)) (blkOk_by (own := [("key", 2)]) (N := nID) (sc := defScope sID) (by decide +kernel))
        (fun _ _ _ _ _ => pg_name (i := 2) scID.nd rfl (Or.inl rfl)) (fun _ _ _ _ _ => pts_nil)
        (fun _ _ _ _ _ => pe_and (pe_cmp (pc_din hu (pv 2) (pv 0))) (pe_one (pe_def DS hr (by rfl) (pa_cons (pe_dget hu (pv 0) (pv 2) (fun _ _ => rfl)) (pa_cons (pe_dget hu (pv 1) (pv 2) (fun _ _ => rfl)) pa_nil))))))) rfl))), ?_⟩
    refine ⟨.ref a, rfl, .ref a, .ty "dict", _, _, true, rfl, .ty "dict", .base (.dK ea), kit_ty (by decide +kernel), true, rfl, iteF ?_⟩
    refine ⟨.ref a, rfl, a, ks, rfl, ea, .ref b, rfl, b, ls, rfl, eb, rfl, _, rfl, ?_⟩
    rw [hl]
    refine iteNS rfl ?_
    refine ⟨b, _, eb, trivial, fun od => ?_⟩
    refine ⟨.ref b, rfl, b, od, rfl, .inl ⟨ls, upd_same, fun D nD => ?_⟩⟩
    have nDb : D ≠ b := fun z => by rw [z, upd_same] at nD; cases nD
    have nDH : H D = none := by rw [upd_ne nDb] at nD; exact nD
    refine lc_it walk_keys (fun i H' => H' b = some (.frz od (.dK ls)) ∧ (∀ c o, c ≠ b → H c = some o → H' c = some o) ∧ H' D = some (.lst (List.replicate i (.bl true)))) ⟨?_, ?_, upd_same⟩ (fun i H' _ hP => hP.1) (fun i x H' H2 hi hP hY => ?_) (fun H2 hP => ?_)
    · rw [upd_ne nDb.symm]
      exact upd_same
    · intro c o n h
      rw [upd_ne (ne_of_none h nDH), upd_ne n]
      exact h
    · obtain ⟨rfl, k, u, ek, rfl⟩ := hY
      obtain ⟨h1, h2, eD⟩ := hP
      have mk := List.mem_of_getElem? ek
      obtain ⟨v, hv, sv⟩ := hsame k u mk
      have ea2 := h2 a _ nab ea
      have tk2 : Tk H H2 := fun c xs h => h2 c _ (fun z => by rw [z, eb] at h; cases h) h
      have sv2 := sv.mono tk2 (fun c xs h => h2 c _ (fun z => by rw [z, eb] at h; cases h) h)
      refine ⟨rfl, ?_⟩
      refine iteT (B := True) ?_
      refine ⟨kV k, rfl, .ref a, rfl, a, _, rfl, DGet.k (k := k) ea2, ?_⟩
      rw [hv]
      refine ⟨true, rfl, iteT ?_⟩
      refine ⟨.ref a, rfl, kV k, rfl, a, v, rfl, by rw [← hv]; exact DGet.k (k := k) ea2, .ref b, rfl, kV k, rfl, b, u, rfl, .inl ⟨ls, k, .inr ⟨od, h1⟩, rfl, ((mem_val ndl).mpr mk).symm⟩, same_true sv2 ?_⟩
      refine ⟨_, eD, small1000 (by rw [List.length_replicate]; omega), ?_, fun c o n h => ?_, ?_⟩
      · rw [upd_ne nDb.symm]
        exact h1
      · rw [upd_ne (ne_of_none h nDH)]
        exact h2 c o n h
      · rw [upd_same, List.replicate_succ']
    · obtain ⟨h1, h2, eD⟩ := hP
      refine ⟨h1, ?_⟩
      refine ⟨D, _, rfl, .inl (SqL.of (by rw [upd_ne nDb]; exact eD)), rfl, ?_, ?_⟩
      · rw [List.all_eq_true]
        intro x hx
        rw [List.eq_of_mem_replicate hx]
        rfl
      · have e : inV (.bl false) (List.replicate ls.length (.bl true)) = false := by
          unfold inV
          rw [List.any_eq_false]
          intro x hx
          rw [List.eq_of_mem_replicate hx]
          decide
        rw [e]
        refine q _ fun c o h => ?_
        by_cases z : c = b
        · rw [z, eb] at h
          rw [z, upd_same, ← h]
        · rw [upd_ne z]
          exact h2 c o z h
end
end KD

namespace KD
open PySem PySem.Spec PyProof.Rows L2 KA
noncomputable def rowOf (nm : Str) : It1 → Option (List PyData)
  | .fact a ds => if a = nm then some ds else none
  | _ => none
noncomputable def rowsOf (js : List It1) (nm : Str) : List (List PyData) := js.filterMap (rowOf nm)
theorem rowOf_some {nm : Str} {j : It1} {ds : List PyData} : rowOf nm j = some ds ↔ j = .fact nm ds := by
  cases j with
  | fact a es =>
    show (if a = nm then some es else none) = some ds ↔ _
    by_cases c : a = nm
    · rw [if_pos c, c]
      exact ⟨fun h => (by injection h with h; rw [h]), fun h => (by injection h with _ h; rw [h])⟩
    · rw [if_neg c]
      exact ⟨fun h => (by cases h), fun h => (by injection h with h; exact absurd h c)⟩
  | rel a n => exact ⟨fun h => (by cases h), fun h => (by cases h)⟩
  | rule a b c d => exact ⟨fun h => (by cases h), fun h => (by cases h)⟩
  | den a b => exact ⟨fun h => (by cases h), fun h => (by cases h)⟩
theorem rows_mem {js : List It1} {nm : Str} {ds : List PyData} : ds ∈ rowsOf js nm ↔ It1.fact nm ds ∈ js := by
  unfold rowsOf
  rw [List.mem_filterMap]
  constructor
  · rintro ⟨j, hj, e⟩
    rw [rowOf_some] at e
    rw [← e]
    exact hj
  · intro h
    exact ⟨_, h, rowOf_some.mpr rfl⟩
theorem rows_snoc_yes {js : List It1} {nm : Str} {ds : List PyData} : rowsOf (js ++ [.fact nm ds]) nm = rowsOf js nm ++ [ds] := by
  unfold rowsOf
  rw [List.filterMap_append]
  congr 1
  show List.filterMap (rowOf nm) [It1.fact nm ds] = [ds]
  rw [List.filterMap_cons, rowOf_some.mpr rfl]
  rfl
theorem rows_snoc_no {js : List It1} {nm : Str} {j : It1} (h : ∀ ds, j ≠ .fact nm ds) : rowsOf (js ++ [j]) nm = rowsOf js nm := by
  unfold rowsOf
  rw [List.filterMap_append]
  have e : rowOf nm j = none := by
    cases c : rowOf nm j with
    | none => rfl
    | some ds => exact absurd (rowOf_some.mp c) (h ds)
  rw [List.filterMap_cons, e, List.filterMap_nil, List.append_nil]
theorem rows_sorted {nm : Str} : ∀ {js : List It1}, SortedI js → SortedR (rowsOf js nm)
  | [], _ => List.Pairwise.nil
  | j :: js, s => by
    obtain ⟨h1, h2⟩ := List.pairwise_cons.mp s
    have ih := rows_sorted (nm := nm) h2
    unfold rowsOf
    rw [List.filterMap_cons]
    cases c : rowOf nm j with
    | none => exact ih
    | some ds =>
      have ej := rowOf_some.mp c
      show SortedR (ds :: rowsOf js nm)
      unfold SortedR
      rw [List.pairwise_cons]
      refine ⟨fun es he => ?_, ih⟩
      have h := h1 _ (rows_mem.mp he)
      rw [ej] at h
      have h : kc (1, nm, ds) (1, nm, es) < 0 := h
      rw [kc_lt_iff] at h
      rcases h with h | ⟨_, h | ⟨_, h⟩⟩
      · exact absurd (show (1 : Int) < 1 from h) (by decide)
      · exact absurd h (List.lt_irrefl _)
      · exact h
theorem rows_unique {rs es : List (List PyData)} (s1 : SortedR rs) (s2 : SortedR es) (o1 : ∀ r ∈ rs, Atoms r ∧ r.length ≤ 1000) (m : ∀ ds, ds ∈ rs ↔ ds ∈ es) : rs = es := by
  have lift : ∀ {l : List (List PyData)}, SortedR l → SortedI (l.map (It1.fact ("x" : Str))) := fun {l} s => by
    unfold SortedI
    rw [List.pairwise_map]
    exact List.Pairwise.imp (R := fun a c => rord a c < 0) (fun {a c} (h : rord a c < 0) => (kc_lt_iff (a := (1, ("x" : Str), a)) (b := (1, ("x" : Str), c))).mpr (.inr ⟨rfl, .inr ⟨rfl, h⟩⟩)) s
  have e := sorted_ext (lift s1) (lift s2) (fun i hi => by
    obtain ⟨r, hr, rfl⟩ := List.mem_map.mp hi
    exact o1 r hr) (fun i hi => by
    obtain ⟨r, hr, rfl⟩ := List.mem_map.mp hi
    exact o1 r ((m r).mpr hr)) fun i => by
    rw [List.mem_map, List.mem_map]
    exact ⟨fun ⟨r, h, z⟩ => ⟨r, (m r).mp h, z⟩, fun ⟨r, h, z⟩ => ⟨r, (m r).mpr h, z⟩⟩
  exact (List.map_inj_right (f := It1.fact ("x" : Str)) fun a b h => by injection h).mp e
/-- the dict of facts that the law expects -/
def FX (H : Hp) (kf : List (Key × V)) (jr jf : List It1) (N : Nat) : Prop := nd kf ∧ kf.length ≤ N ∧ (∀ k v, (k, v) ∈ kf → ∃ nm l xs, k = Sum.inr nm ∧ v = .ref l ∧ H l = some (.lst xs) ∧ Tps H xs ((rowsOf jf nm).map PyData.tuple)) ∧
  ∀ nm, (∃ v, ((Sum.inr nm : Key), v) ∈ kf) ↔ ((∃ n, It1.rel nm n ∈ jr) ∨ ∃ ds, It1.fact nm ds ∈ jf)
theorem FX.mono {H H' : Hp} {kf : List (Key × V)} {jr jf : List It1} {N N' : Nat} (h : FX H kf jr jf N) (k : Tk H H') (l : ∀ a xs, H a = some (.lst xs) → H' a = some (.lst xs)) (n : N ≤ N') : FX H' kf jr jf N' := by
  obtain ⟨h1, h2, h3, h4⟩ := h
  refine ⟨h1, Nat.le_trans h2 n, fun k1 v m => ?_, h4⟩
  obtain ⟨nm, a, xs, e1, e2, e3, e4⟩ := h3 k1 v m
  exact ⟨nm, a, xs, e1, e2, l _ _ e3, e4.mono k⟩
theorem FX.skip {H : Hp} {kf : List (Key × V)} {jr jf jr' jf' : List It1} {N : Nat} (h : FX H kf jr jf N) (hr : ∀ nm n, It1.rel nm n ∈ jr' ↔ It1.rel nm n ∈ jr) (hf : ∀ nm, rowsOf jf' nm = rowsOf jf nm) : FX H kf jr' jf' N := by
  obtain ⟨h1, h2, h3, h4⟩ := h
  refine ⟨h1, h2, fun k1 v m => ?_, fun nm => ?_⟩
  · obtain ⟨nm, a, xs, e1, e2, e3, e4⟩ := h3 k1 v m
    exact ⟨nm, a, xs, e1, e2, e3, by rw [hf nm]; exact e4⟩
  · rw [h4 nm]
    have e : ∀ ds, It1.fact nm ds ∈ jf' ↔ It1.fact nm ds ∈ jf := fun ds => by rw [← rows_mem, ← rows_mem, hf nm]
    constructor
    · rintro (⟨n, z⟩ | ⟨ds, z⟩)
      · exact .inl ⟨n, (hr _ _).mpr z⟩
      · exact .inr ⟨ds, (e ds).mpr z⟩
    · rintro (⟨n, z⟩ | ⟨ds, z⟩)
      · exact .inl ⟨n, (hr _ _).mp z⟩
      · exact .inr ⟨ds, (e ds).mp z⟩
/-- a list under a name -/
theorem FX.put {H : Hp} {kf : List (Key × V)} {jr jf jr' jf' : List It1} {N : Nat} {nm : Str} {L : Addr} {ys : List V} (h : FX H kf jr jf N) (el : H L = some (.lst ys)) (tl : Tps H ys ((rowsOf jf' nm).map PyData.tuple)) (hf : ∀ x, x ≠ nm → rowsOf jf' x = rowsOf jf x)
    (hr : ∀ x, x ≠ nm → ∀ n, It1.rel x n ∈ jr' ↔ It1.rel x n ∈ jr) (hn : (∃ n, It1.rel nm n ∈ jr') ∨ ∃ ds, It1.fact nm ds ∈ jf') : FX H (putK kf (Sum.inr nm : Key) (.ref L)) jr' jf' (N + 1) := by
  obtain ⟨h1, h2, h3, h4⟩ := h
  refine ⟨nd_put h1 _ _, Nat.le_trans (length_putK _ _ _) (Nat.succ_le_succ h2), fun k1 v m => ?_, fun x => ?_⟩
  · rcases (mem_put h1).mp m with ⟨rfl, rfl⟩ | ⟨c, m⟩
    · exact ⟨nm, L, ys, rfl, rfl, el, tl⟩
    · obtain ⟨x, a, xs, rfl, e2, e3, e4⟩ := h3 k1 v m
      exact ⟨x, a, xs, rfl, e2, e3, by rw [hf x (fun z => c (by rw [z]))]; exact e4⟩
  · by_cases c : x = nm
    · rw [c]
      exact ⟨fun _ => hn, fun _ => ⟨_, (mem_put h1).mpr (.inl ⟨rfl, rfl⟩)⟩⟩
    · have e : ∀ ds, It1.fact x ds ∈ jf' ↔ It1.fact x ds ∈ jf := fun ds => by rw [← rows_mem, ← rows_mem, hf x c]
      have c' : (Sum.inr x : Key) ≠ Sum.inr nm := fun z => c (by injection z)
      constructor
      · rintro ⟨v, m⟩
        rcases (mem_put h1).mp m with ⟨z, _⟩ | ⟨_, m⟩
        · exact absurd z c'
        · rcases (h4 x).mp ⟨v, m⟩ with ⟨n, z⟩ | ⟨ds, z⟩
          · exact .inl ⟨n, (hr x c n).mpr z⟩
          · exact .inr ⟨ds, (e ds).mpr z⟩
      · intro z
        obtain ⟨v, m⟩ := (h4 x).mpr (by
          rcases z with ⟨n, z⟩ | ⟨ds, z⟩
          · exact .inl ⟨n, (hr x c n).mp z⟩
          · exact .inr ⟨ds, (e ds).mp z⟩)
        exact ⟨v, (mem_put h1).mpr (.inr ⟨c', m⟩)⟩
theorem mem_snoc {α : Type} {l : List α} {x y : α} (n : y ≠ x) : y ∈ l ++ [x] ↔ y ∈ l := by
  rw [List.mem_append, List.mem_singleton]
  exact ⟨fun h => h.elim id (fun z => absurd z n), .inl⟩
theorem RelOk.snoc {kr : List (Key × V)} {js : List It1} {N : Nat} (h : RelOk kr js N) {nm : Str} {n : Int} (u : ∀ m, It1.rel nm m ∉ js) : RelOk (putK kr (Sum.inr nm : Key) (.int n)) (js ++ [.rel nm n]) (N + 1) := by
  obtain ⟨h1, h2, h3⟩ := h
  refine ⟨nd_put h1 _ _, Nat.le_trans (length_putK _ _ _) (Nat.succ_le_succ h2), fun k v => ?_⟩
  rw [mem_put h1]
  constructor
  · rintro (⟨rfl, rfl⟩ | ⟨c, m⟩)
    · exact ⟨nm, n, rfl, rfl, List.mem_append_right _ List.mem_cons_self⟩
    · obtain ⟨x, i, e1, e2, e3⟩ := (h3 k v).mp m
      exact ⟨x, i, e1, e2, List.mem_append_left _ e3⟩
  · rintro ⟨x, i, rfl, rfl, m⟩
    rcases List.mem_append.mp m with m | m
    · exact .inr ⟨fun z => u i (by injection z with z; rw [← z]; exact m), (h3 _ _).mpr ⟨x, i, rfl, rfl, m⟩⟩
    · have := List.mem_singleton.mp m
      injection this with a b
      exact .inl ⟨by rw [a], by rw [b]⟩
theorem RulOk.snoc {H : Hp} {ku : List (Key × V)} {js : List It1} {N : Nat} (h : RulOk H ku js N) {nm rl : Str} {ts bd : PyData} {v : V} (u : ∀ a b c, It1.rule nm a b c ∉ js) (t : Tp H v (.tuple [.str rl, ts, bd])) : RulOk H (putK ku (Sum.inr nm : Key) v) (js ++ [.rule nm rl ts bd]) (N + 1) := by
  obtain ⟨h1, h2, h3, h4⟩ := h
  refine ⟨nd_put h1 _ _, Nat.le_trans (length_putK _ _ _) (Nat.succ_le_succ h2), fun k w m => ?_, fun x a b c m => ?_⟩
  · rcases (mem_put h1).mp m with ⟨rfl, rfl⟩ | ⟨_, m⟩
    · exact ⟨nm, rl, ts, bd, rfl, t, List.mem_append_right _ List.mem_cons_self⟩
    · obtain ⟨x, a, b, c, e1, e2, e3⟩ := h3 k w m
      exact ⟨x, a, b, c, e1, e2, List.mem_append_left _ e3⟩
  · rcases List.mem_append.mp m with m | m
    · obtain ⟨w, z⟩ := h4 _ _ _ _ m
      exact ⟨w, (mem_put h1).mpr (.inr ⟨fun y => u a b c (by injection y with y; rw [← y]; exact m), z⟩)⟩
    · have := List.mem_singleton.mp m
      injection this with e _
      exact ⟨v, (mem_put h1).mpr (.inl ⟨by rw [e], rfl⟩)⟩
theorem DenOk.snoc {H : Hp} {kd : List (Key × V)} {js : List It1} {N : Nat} (h : DenOk H kd js N) {nm : Str} {bd : PyData} {v : V} (u : ∀ a, It1.den nm a ∉ js) (t : Tp H v bd) : DenOk H (putK kd (Sum.inr nm : Key) v) (js ++ [.den nm bd]) (N + 1) := by
  obtain ⟨h1, h2, h3, h4⟩ := h
  refine ⟨nd_put h1 _ _, Nat.le_trans (length_putK _ _ _) (Nat.succ_le_succ h2), fun k w m => ?_, fun x a m => ?_⟩
  · rcases (mem_put h1).mp m with ⟨rfl, rfl⟩ | ⟨_, m⟩
    · exact ⟨nm, bd, rfl, t, List.mem_append_right _ List.mem_cons_self⟩
    · obtain ⟨x, a, e1, e2, e3⟩ := h3 k w m
      exact ⟨x, a, e1, e2, List.mem_append_left _ e3⟩
  · rcases List.mem_append.mp m with m | m
    · obtain ⟨w, z⟩ := h4 _ _ m
      exact ⟨w, (mem_put h1).mpr (.inr ⟨fun y => u a (by injection y with y; rw [← y]; exact m), z⟩)⟩
    · have := List.mem_singleton.mp m
      injection this with e _
      exact ⟨v, (mem_put h1).mpr (.inl ⟨by rw [e], rfl⟩)⟩
/-- two tables with the same keys have one length -/
theorem len_same {ks ls : List (Key × V)} (n1 : nd ks) (n2 : nd ls) (h : ∀ k, (∃ v, (k, v) ∈ ks) ↔ ∃ v, (k, v) ∈ ls) : ks.length = ls.length := by
  have le : ∀ {a b : List (Key × V)}, nd a → (∀ k, (∃ v, (k, v) ∈ a) → ∃ v, (k, v) ∈ b) → a.length ≤ b.length := fun {a b} na hh => by
    have := nodup_le (m := b.map (·.1)) na fun k hk => by
      obtain ⟨⟨k', v⟩, m, rfl⟩ := List.mem_map.mp hk
      obtain ⟨w, m2⟩ := hh k' ⟨v, m⟩
      exact List.mem_map.mpr ⟨_, m2, rfl⟩
    rwa [List.length_map, List.length_map] at this
  exact Nat.le_antisymm (le n1 fun k hk => (h k).mp hk) (le n2 fun k hk => (h k).mpr hk)
end KD

namespace KD
open PySem PySem.Spec PyProof.Rows L2 KA
theorem cut5 : ¬ (HT.sIx 5 0 (some 2) = 0 ∧ HT.sIx 5 5 none = 5) := by decide
theorem depthAll_le {n : Nat} : ∀ {ds : List PyData}, (∀ d ∈ ds, d.depth ≤ n) → PyData.depthAll ds ≤ n
  | [], _ => Nat.zero_le _
  | d :: ds, h => by
    have h1 := h d List.mem_cons_self
    have h2 := depthAll_le (ds := ds) fun x hx => h x (List.mem_cons_of_mem _ hx)
    show max d.depth (PyData.depthAll ds) ≤ n
    omega
theorem row_depth {ds : List PyData} (h : Atoms ds) : (PyData.tuple ds).depth ≤ 1 := by
  show PyData.depthAll ds + 1 ≤ 1
  rw [atoms_depth h]
  exact Nat.le_refl _
section
variable {P : Program} {w : World} {K : PySem.W.Frag} {mg : Str → Option Value} {base : Heap} {C : Addr}
abbrev dID (P : Program) (w : World) (K : PySem.W.Frag) (mg : Str → Option Value) (base : Heap) : Prop := Def P w K mg base "_law_is_dict" 10 ["actual", "expected"] spID
abbrev sSt : Stmt := topS 29
abbrev nSt : List Str := ["actual", "ordered", "relations", "facts", "rules", "denials", "item"]
theorem scSt : FnScope nSt ["actual", "ordered"] (defScope sSt) := ⟨rfl, rfl, rfl, by decide +kernel, rfl, by decide +kernel, by decide +kernel⟩
def spSt (C : Addr) : Sp := fun vs H Q _ => ∃ (s b : Addr) (its : List It1) (xs : List V) (F : Addr → Prop) (N : Nat), vs = [.ref s, .ref b] ∧ StAt C H s its F N ∧ N ≤ 1000 ∧ its.length < 64 ∧ H b = some (.lst xs) ∧ Tps H xs (its.map itD) ∧ ∀ H', Same H H' → Q (.bl true) H'
theorem ok_st {f0 : Addr} {fd : FuncData} (F0 : Fun K "_law_is_state" "_law_is_state" sSt f0 fd) (T : Cs K mg C) (DD : dID P w K mg base) (DS : dSame P w K mg base) (MA : mAll P w K mg base C) : FnOk P w K mg base CX0 11 f0 fd ["actual", "ordered"] (spSt C) := by
  refine F0.ok scSt (fun vs H Q E h => ?_) (fun cdv A outer s0 H vs Q E hr h => ?_)
  · obtain ⟨_, _, _, _, _, _, rfl, _⟩ := h
    rfl
  · obtain ⟨s, b, its, xs, F, N, rfl, S, hN, h64, eb, tx, q⟩ := h
    have hu := hu_of hr
    have r1 : Room 1 _ := hr.mono (by decide)
    have r9 : Room 9 _ := hr.mono (by decide)
    refine ⟨_, pss_cons (ps_asg (pe_tup (pa_cons pe_dnewK (pa_cons pe_dnewK (pa_cons pe_dnewK (pa_cons pe_dnewK pa_nil))))) (pg_tup rfl (pgs_cons (pg_name (i := 2) scSt.nd rfl (.inl rfl)) (pgs_cons (pg_name (i := 3) scSt.nd rfl (.inl rfl)) (pgs_cons (pg_name (i := 4) scSt.nd rfl (.inl rfl)) (pgs_cons (pg_name (i := 5) scSt.nd rfl (.inl rfl)) pgs_nil))))))
      (C8.pss_cut (ps_for PassesOwn.never rfl (pi_list (pv 1)) (pg_name (i := 6) scSt.nd rfl (.inl rfl))
        (pss_one (ps_if (pt_cmpR op_eq (pe_ix ix_tup (pv 6) pe_int (fun _ _ => rfl)) pe_str (nomark _))
          (pss_cons (ps_dput hu (pv 2) (pe_ix ix_tup (pv 6) pe_int (fun _ _ => rfl)) (pe_ix ix_tup (pv 6) pe_int (fun _ _ => rfl)) rfl)
          (pss_one (ps_dput hu (pv 3) (pe_ix ix_tup (pv 6) pe_int (fun _ _ => rfl)) (pe_lst pa_nil) rfl))) pss_nil)))
      (C8.pss_cut (ps_for PassesOwn.never rfl (pi_list (pv 1)) (pg_name (i := 6) scSt.nd rfl (.inl rfl))
        (pss_cons (ps_if (pt_cmpR op_eq (pe_ix ix_tup (pv 6) pe_int (fun _ _ => rfl)) pe_str (nomark _))
          (pss_one (ps_dput hu (pv 3) (pe_ix ix_tup (pv 6) pe_int (fun _ _ => rfl)) (pe_op op_cat (pe_dget2 hu (pv 3) (pe_ix ix_tup (pv 6) pe_int (fun _ _ => rfl)) (pe_lst pa_nil) ⟨rfl, rfl, rfl, rfl⟩) (pe_lst (pa_cons (pe_ix ix_tup (pv 6) pe_int (fun _ _ => rfl)) pa_nil))) rfl)) pss_nil)
        (pss_cons (ps_if (pt_cmpR op_eq (pe_ix ix_tup (pv 6) pe_int (fun _ _ => rfl)) pe_str (nomark _))
          (pss_one (ps_dput hu (pv 4) (pe_ix ix_tup (pv 6) pe_int (fun _ _ => rfl)) (pe_slice sl_tup (pv 6) (po_some pe_int) po_none) rfl)) pss_nil)
        (pss_one (ps_if (pt_cmpR op_eq (pe_ix ix_tup (pv 6) pe_int (fun _ _ => rfl)) pe_str (nomark _))
          (pss_one (ps_dput hu (pv 5) (pe_ix ix_tup (pv 6) pe_int (fun _ _ => rfl)) (pe_ix ix_tup (pv 6) pe_int (fun _ _ => rfl)) rfl)) pss_nil)))))
      (pss_cons (ps_if (PW.pt (pw_or (pt_not (pt_val (pe_def DD hr (by rfl) (pa_cons (pe_fld (pv 0) rfl) (pa_cons (pv 2) pa_nil))))) (pw_or1 (pt_not (pt_val (pe_def DD hr (by rfl) (pa_cons (pe_fld (pv 0) rfl) (pa_cons (pv 3) pa_nil)))))))) (pss_one (ps_ret pe_bl)) pss_nil)
      (pss_cons (ps_if (PW.pt (pw_or (pt_not (pt_val (pe_def DD hr (by rfl) (pa_cons (pe_fld (pv 0) rfl) (pa_cons (pv 4) pa_nil))))) (pw_or1 (pt_not (pt_val (pe_def DD hr (by rfl) (pa_cons (pe_fld (pv 0) rfl) (pa_cons (pv 5) pa_nil)))))))) (pss_one (ps_ret pe_bl)) pss_nil)
      (pss_one (ps_ret (pe_def DS r9 (by rfl) (pa_cons (pe_mdef0 MA (pv 0) T.cl r1) (pa_cons (pv 1) pa_nil))))))))), ?_⟩
    obtain ⟨dx, r, f, u, d, kr, kf, ku, kd, bb⟩ := id S
    have lx : xs.length = its.length := by rw [tx.length, List.length_map]
    -- four new dicts
    intro R nR
    intro Fd nF
    intro U nU
    intro D nD
    refine ⟨(by show 4 ≤ sizeLine; decide), fun t nt => ?_⟩
    refine ⟨t, _, rfl, SqT.of upd_same, rfl, _, _, rfl, _, _, rfl, _, _, rfl, _, _, rfl, rfl, ?_⟩
    have sR := same_new (o := .dK []) nR
    have sF := sR.trans (same_new (o := .dK []) nF)
    have sU := sF.trans (same_new (o := .dK []) nU)
    have sD := sU.trans (same_new (o := .dK []) nD)
    have sT := sD.trans (same_new (o := .tup [.ref R, .ref Fd, .ref U, .ref D]) nt)
    have eR : (upd (upd (upd (upd (upd H R (.dK [])) Fd (.dK [])) U (.dK [])) D (.dK [])) t (.tup [.ref R, .ref Fd, .ref U, .ref D])) R = some (.dK []) := (same_new nt) _ _ ((same_new nD) _ _ ((same_new nU) _ _ ((same_new nF) _ _ upd_same)))
    have eF : (upd (upd (upd (upd (upd H R (.dK [])) Fd (.dK [])) U (.dK [])) D (.dK [])) t (.tup [.ref R, .ref Fd, .ref U, .ref D])) Fd = some (.dK []) := (same_new nt) _ _ ((same_new nD) _ _ ((same_new nU) _ _ upd_same))
    have eU : (upd (upd (upd (upd (upd H R (.dK [])) Fd (.dK [])) U (.dK [])) D (.dK [])) t (.tup [.ref R, .ref Fd, .ref U, .ref D])) U = some (.dK []) := (same_new nt) _ _ ((same_new nD) _ _ upd_same)
    have eD : (upd (upd (upd (upd (upd H R (.dK [])) Fd (.dK [])) U (.dK [])) D (.dK [])) t (.tup [.ref R, .ref Fd, .ref U, .ref D])) D = some (.dK []) := (same_new nt) _ _ upd_same
    have RF : R ≠ Fd := ne_of_none (upd_same (H := H) (a := R) (o := .dK [])) nF
    have RU : R ≠ U := ne_of_none ((same_new nF) _ _ (upd_same (H := H) (a := R) (o := .dK []))) nU
    have RD : R ≠ D := ne_of_none ((same_new nU) _ _ ((same_new nF) _ _ (upd_same (H := H) (a := R) (o := .dK [])))) nD
    have FU : Fd ≠ U := ne_of_none (upd_same (H := upd H R (.dK [])) (a := Fd) (o := .dK [])) nU
    have FD : Fd ≠ D := ne_of_none ((same_new nU) _ _ (upd_same (H := upd H R (.dK [])) (a := Fd) (o := .dK []))) nD
    have UD : U ≠ D := ne_of_none (upd_same (H := upd (upd H R (.dK [])) Fd (.dK [])) (a := U) (o := .dK [])) nD
    have nFH : H Fd = none := sR.free nF
    have nUH : H U = none := sF.free nU
    have nDH : H D = none := sU.free nD
    clear sR sF sU sD nF nU nD nt
    revert sT eR eF eU eD
    generalize upd (upd (upd (upd (upd H R (.dK [])) Fd (.dK [])) U (.dK [])) D (.dK [])) t (.tup [.ref R, .ref Fd, .ref U, .ref D]) = H0
    intro sT eR eF eU eD
    have nil0 : nd ([] : List (Key × V)) := List.nodup_nil
    -- what stands behind each loop
    have keepR : ∀ {H1 : Hp} {a0 : Addr} {o : HO}, Same H H1 → H a0 = none → Same H (upd H1 a0 o) := fun sm n => same_put sm n
    refine ⟨fun σ H1 => (∃ x6, σ = [some (.ref s), some (.ref b), some (.ref R), some (.ref Fd), some (.ref U), some (.ref D), x6]) ∧ Same H H1 ∧ H1 U = some (.dK []) ∧ H1 D = some (.dK []) ∧ (∃ ls, H1 R = some (.dK ls) ∧ RelOk ls its its.length) ∧ ∃ ls, H1 Fd = some (.dK ls) ∧ FX H1 ls its [] its.length, ?_, ?_⟩
    · refine ⟨.ref b, rfl, b, rfl, ⟨xs, SqL.of (sT _ _ eb)⟩, ?_⟩
      refine for_list (K := K) (a := b) (xs := xs) (fun i σ H1 => (∃ x6, σ = [some (.ref s), some (.ref b), some (.ref R), some (.ref Fd), some (.ref U), some (.ref D), x6]) ∧ Same H H1 ∧ H1 U = some (.dK []) ∧ H1 D = some (.dK []) ∧ (∃ ls, H1 R = some (.dK ls) ∧ RelOk ls (its.take i) i) ∧ ∃ ls, H1 Fd = some (.dK ls) ∧ FX H1 ls (its.take i) [] i)
        ⟨⟨none, rfl⟩, sT, eU, eD, ⟨[], eR, nil0, Nat.le_refl _, fun k v => ⟨fun h => (by cases h), fun ⟨_, _, _, _, h⟩ => (by cases h)⟩⟩, [], eF, nil0, Nat.le_refl _, (fun k v h => by cases h), fun nm => ⟨fun ⟨_, h⟩ => (by cases h), fun h => by rcases h with ⟨_, h⟩ | ⟨_, h⟩ <;> cases h⟩⟩
        (fun i σ H1 _ hP => SqL.of (hP.2.1 _ _ eb)) (fun i x σ H1 hx hP => ?_) (fun σ H1 hP => ?_)
      · obtain ⟨⟨x6, rfl⟩, sm, e3, e4, ⟨lr, e1, rok⟩, lf, e2, fok⟩ := hP
        obtain ⟨j, ej, tj⟩ := item_get tx hx
        have hi : i < its.length := (List.getElem?_eq_some_iff.mp ej).1
        have tj := tj.mono (Tk.of sm)
        cases j with
        | rel nm n =>
          obtain ⟨p, rfl, ep⟩ := inv3i tj
          refine ⟨.ref p, rfl, p, _, 0, .str "relation", rfl, rfl, SqT.of ep, rfl, rfl, _, rfl, yes_if ?_⟩
          refine ⟨.ref p, rfl, p, _, 2, .int n, rfl, rfl, SqT.of ep, rfl, .ref R, rfl, .ref p, rfl, p, _, 1, .str nm, rfl, rfl, SqT.of ep, rfl, R, _, rfl, DPut.k (k := Sum.inr nm) e1 (small1000 (by have := rok.2.1; omega)), ?_⟩
          have uq : ∀ m, It1.rel nm m ∉ its.take i := fun m h => key_new bb.srt bb.ok ej _ h rfl
          have sm1 : Same H (upd H1 R (.dK (putK lr (Sum.inr nm : Key) (.int n)))) := keepR sm nR
          have tk1 : Tk H1 (upd H1 R (.dK (putK lr (Sum.inr nm : Key) (.int n)))) := fun a ys h => by
            rw [upd_ne (fun z => by rw [z, e1] at h; cases h)]
            exact h
          have ll1 : ∀ a ys, H1 a = some (.lst ys) → (upd H1 R (.dK (putK lr (Sum.inr nm : Key) (.int n)))) a = some (.lst ys) := fun a ys h => by
            rw [upd_ne (lst_ne h e1)]
            exact h
          have e2' : (upd H1 R (.dK (putK lr (Sum.inr nm : Key) (.int n)))) Fd = some (.dK lf) := by rw [upd_ne RF.symm]; exact e2
          have e3' : (upd H1 R (.dK (putK lr (Sum.inr nm : Key) (.int n)))) U = some (.dK []) := by rw [upd_ne RU.symm]; exact e3
          have e4' : (upd H1 R (.dK (putK lr (Sum.inr nm : Key) (.int n)))) D = some (.dK []) := by rw [upd_ne RD.symm]; exact e4
          have e1' : (upd H1 R (.dK (putK lr (Sum.inr nm : Key) (.int n)))) R = some (.dK (putK lr (Sum.inr nm : Key) (.int n))) := upd_same
          have ep' := tk1 _ _ ep
          have fok' := fok.mono tk1 ll1 (Nat.le_refl _)
          revert sm1 e1' e2' e3' e4' ep' fok'
          generalize upd H1 R (.dK (putK lr (Sum.inr nm : Key) (.int n))) = H2
          intro sm1 e2' e3' e4' e1' ep' fok'
          refine ⟨Nat.zero_le _, fun L nL => ?_⟩
          have s2 : Same H2 (upd H2 L (.lst [])) := same_new nL
          refine ⟨.ref Fd, rfl, .ref p, rfl, p, _, 1, .str nm, rfl, rfl, SqT.of (s2 _ _ ep'), rfl, Fd, _, rfl, DPut.k (k := Sum.inr nm) (s2 _ _ e2') (small1000 (by have := fok.2.1; omega)), ?_⟩
          have fok2 := (fok'.mono (Tk.of s2) (fun a ys h => s2 _ _ h) (Nat.le_refl _)).put (jr' := its.take (i + 1)) (jf' := []) (nm := nm) (L := L) (ys := []) upd_same .nil (fun _ _ => rfl) (fun y c m => by rw [take_next ej]; exact mem_snoc (fun z => c (by injection z))) (.inl ⟨n, by rw [take_next ej]; exact List.mem_append_right _ List.mem_cons_self⟩)
          have eF2 := s2 _ _ e2'
          have tk3 : Tk (upd H2 L (.lst [])) (upd (upd H2 L (.lst [])) Fd (.dK (putK lf (Sum.inr nm : Key) (.ref L)))) := fun a ys h => by
            rw [upd_ne (fun z => by rw [z, eF2] at h; cases h)]
            exact h
          refine ⟨⟨_, rfl⟩, keepR (sm1.trans s2) nFH, ?_, ?_, ⟨putK lr (Sum.inr nm : Key) (.int n), ?_, ?_⟩, _, upd_same, fok2.mono tk3 (fun a ys h => by rw [upd_ne (lst_ne h eF2)]; exact h) (Nat.le_refl _)⟩
          · rw [upd_ne FU.symm]
            exact s2 _ _ e3'
          · rw [upd_ne FD.symm]
            exact s2 _ _ e4'
          · rw [upd_ne RF]
            exact s2 _ _ e1'
          · rw [take_next ej]
            exact rok.snoc uq
        | fact nm ds =>
          obtain ⟨p, rfl, y, ep, ty⟩ := inv3 tj
          refine ⟨.ref p, rfl, p, _, 0, .str "fact", rfl, rfl, SqT.of ep, rfl, rfl, _, rfl, no_if (by decide +kernel) ?_⟩
          rw [take_next ej]
          exact ⟨⟨_, rfl⟩, sm, e3, e4, ⟨lr, e1, rok.to (Nat.le_succ _) fun a m => mem_snoc (fun z => by cases z)⟩, lf, e2, (fok.mono (Tk.refl _) (fun _ _ h => h) (Nat.le_succ _)).skip (fun a m => mem_snoc (fun z => by cases z)) (fun _ => rfl)⟩
        | rule nm rl ts bd =>
          obtain ⟨p, rfl, y, z, ep, ty, tz⟩ := inv5t tj
          refine ⟨.ref p, rfl, p, _, 0, .str "rule", rfl, rfl, SqT.of ep, rfl, rfl, _, rfl, no_if (by decide +kernel) ?_⟩
          rw [take_next ej]
          exact ⟨⟨_, rfl⟩, sm, e3, e4, ⟨lr, e1, rok.to (Nat.le_succ _) fun a m => mem_snoc (fun z => by cases z)⟩, lf, e2, (fok.mono (Tk.refl _) (fun _ _ h => h) (Nat.le_succ _)).skip (fun a m => mem_snoc (fun z => by cases z)) (fun _ => rfl)⟩
        | den nm bd =>
          obtain ⟨p, rfl, y, ep, ty⟩ := inv3 tj
          refine ⟨.ref p, rfl, p, _, 0, .str "denial", rfl, rfl, SqT.of ep, rfl, rfl, _, rfl, no_if (by decide +kernel) ?_⟩
          rw [take_next ej]
          exact ⟨⟨_, rfl⟩, sm, e3, e4, ⟨lr, e1, rok.to (Nat.le_succ _) fun a m => mem_snoc (fun z => by cases z)⟩, lf, e2, (fok.mono (Tk.refl _) (fun _ _ h => h) (Nat.le_succ _)).skip (fun a m => mem_snoc (fun z => by cases z)) (fun _ => rfl)⟩
      · rw [lx, List.take_length] at hP
        exact hP
    · clear sT eR eF eU eD
      rintro σ H0 ⟨⟨x6, rfl⟩, sT, eU, eD, ⟨lr, eR, rok⟩, lf, eF, fok⟩
      refine ⟨fun σ H1 => (∃ x6, σ = [some (.ref s), some (.ref b), some (.ref R), some (.ref Fd), some (.ref U), some (.ref D), x6]) ∧ Same H H1 ∧ (∃ ls, H1 R = some (.dK ls) ∧ RelOk ls its its.length) ∧ (∃ ls, H1 Fd = some (.dK ls) ∧ FX H1 ls its its (its.length + its.length)) ∧ (∃ ls, H1 U = some (.dK ls) ∧ RulOk H1 ls its its.length) ∧ ∃ ls, H1 D = some (.dK ls) ∧ DenOk H1 ls its its.length, ?_, ?_⟩
      · refine ⟨.ref b, rfl, b, rfl, ⟨xs, SqL.of (sT _ _ eb)⟩, ?_⟩
        refine for_list (K := K) (a := b) (xs := xs) (fun i σ H1 => (∃ x6, σ = [some (.ref s), some (.ref b), some (.ref R), some (.ref Fd), some (.ref U), some (.ref D), x6]) ∧ Same H H1 ∧ H1 R = some (.dK lr) ∧ (∃ ls, H1 Fd = some (.dK ls) ∧ FX H1 ls its (its.take i) (its.length + i)) ∧ (∃ ls, H1 U = some (.dK ls) ∧ RulOk H1 ls (its.take i) i) ∧ ∃ ls, H1 D = some (.dK ls) ∧ DenOk H1 ls (its.take i) i)
          ⟨⟨_, rfl⟩, sT, eR, ⟨lf, eF, fok⟩, ⟨[], eU, nil0, Nat.le_refl _, (fun k v h => by cases h), fun _ _ _ _ h => by cases h⟩, [], eD, nil0, Nat.le_refl _, (fun k v h => by cases h), fun _ _ h => by cases h⟩
          (fun i σ H1 _ hP => SqL.of (hP.2.1 _ _ eb)) (fun i x σ H1 hx hP => ?_) (fun σ H1 hP => ?_)
        · obtain ⟨⟨x6, rfl⟩, sm, e1, ⟨lf, e2, fok⟩, ⟨lu, e3, uok⟩, ld, e4, dok⟩ := hP
          obtain ⟨j, ej, tj⟩ := item_get tx hx
          have hi : i < its.length := (List.getElem?_eq_some_iff.mp ej).1
          have tj := tj.mono (Tk.of sm)
          have uq := key_new bb.srt bb.ok ej
          cases j with
          | rel nm n =>
            obtain ⟨p, rfl, ep⟩ := inv3i tj
            refine ⟨.ref p, rfl, p, _, 0, .str "relation", rfl, rfl, SqT.of ep, rfl, rfl, _, rfl, no_if (by decide +kernel) ?_⟩
            refine ⟨.ref p, rfl, p, _, 0, .str "relation", rfl, rfl, SqT.of ep, rfl, rfl, _, rfl, no_if (by decide +kernel) ?_⟩
            refine ⟨.ref p, rfl, p, _, 0, .str "relation", rfl, rfl, SqT.of ep, rfl, rfl, _, rfl, no_if (by decide +kernel) ?_⟩
            rw [take_next ej]
            exact ⟨⟨_, rfl⟩, sm, e1, ⟨lf, e2, (fok.mono (Tk.refl _) (fun _ _ h => h) (Nat.le_succ _)).skip (fun _ _ => Iff.rfl) (fun _ => rows_snoc_no (fun ds z => by cases z))⟩, ⟨lu, e3, uok.to (Tk.refl _) (Nat.le_succ _) fun _ _ _ _ => mem_snoc (fun z => by cases z)⟩, ld, e4, dok.to (Tk.refl _) (Nat.le_succ _) fun _ _ => mem_snoc (fun z => by cases z)⟩
          | fact nm ds =>
            obtain ⟨p, rfl, y, ep, ty⟩ := inv3 tj
            refine ⟨.ref p, rfl, p, _, 0, .str "fact", rfl, rfl, SqT.of ep, rfl, rfl, _, rfl, yes_if ?_⟩
            refine ⟨.ref Fd, rfl, Fd, rfl, .inl ⟨lf, .of e2⟩, .ref p, rfl, p, _, 1, .str nm, rfl, rfl, SqT.of ep, rfl, Nat.zero_le _, fun t nt => ?_⟩
            have s1 : Same H1 (upd H1 t (.lst [])) := same_new nt
            refine ⟨_, DGet.k (k := Sum.inr nm) (s1 _ _ e2), ?_⟩
            -- behind the get
            have fin : ∀ (l : Addr) (ys : List V), (upd H1 t (.lst [])) l = some (.lst ys) → Tps (upd H1 t (.lst [])) ys ((rowsOf (its.take i) nm).map PyData.tuple) → ys.length ≤ 100 →
                ∃ v : V, ([some (V.ref s), some (V.ref b), some (V.ref R), some (V.ref Fd), some (V.ref U), some (V.ref D), some (V.ref p)] : List (Option V))[6]? = some (some v) ∧ ∃ a xs' i' x', v = .ref a ∧ V.int 2 = .int i' ∧ True := fun _ _ _ _ _ => ⟨_, rfl, p, ([] : List V), 2, V.non, rfl, rfl, trivial⟩
            have go : ∀ (l : Addr) (ys : List V), (upd H1 t (.lst [])) l = some (.lst ys) → Tps (upd H1 t (.lst [])) ys ((rowsOf (its.take i) nm).map PyData.tuple) → ys.length ≤ 100 → ∀ o1, (upd H1 t (.lst [])) o1 = none → ∀ L, (upd (upd H1 t (.lst [])) o1 (.lst [y])) L = none →
                FX (upd (upd (upd (upd H1 t (.lst [])) o1 (.lst [y])) L (.lst (ys ++ [y]))) Fd (.dK (putK lf (Sum.inr nm : Key) (.ref L)))) (putK lf (Sum.inr nm : Key) (.ref L)) its (its.take (i + 1)) (its.length + (i + 1)) ∧
                Same H (upd (upd (upd (upd H1 t (.lst [])) o1 (.lst [y])) L (.lst (ys ++ [y]))) Fd (.dK (putK lf (Sum.inr nm : Key) (.ref L)))) ∧ Same H1 (upd (upd (upd H1 t (.lst [])) o1 (.lst [y])) L (.lst (ys ++ [y]))) := fun l ys el ty2 hl o1 no1 L nL => by
              have s2 := same_new (o := .lst [y]) no1
              have s3 := same_new (o := .lst (ys ++ [y])) nL
              have s13 := s1.trans (s2.trans s3)
              have e23 := s13 _ _ e2
              have tk4 : Tk (upd (upd (upd H1 t (.lst [])) o1 (.lst [y])) L (.lst (ys ++ [y]))) (upd (upd (upd (upd H1 t (.lst [])) o1 (.lst [y])) L (.lst (ys ++ [y]))) Fd (.dK (putK lf (Sum.inr nm : Key) (.ref L)))) := fun a zs h => by
                rw [upd_ne (fun z => by rw [z, e23] at h; cases h)]
                exact h
              have ll4 : ∀ a zs, (upd (upd (upd H1 t (.lst [])) o1 (.lst [y])) L (.lst (ys ++ [y]))) a = some (.lst zs) → (upd (upd (upd (upd H1 t (.lst [])) o1 (.lst [y])) L (.lst (ys ++ [y]))) Fd (.dK (putK lf (Sum.inr nm : Key) (.ref L)))) a = some (.lst zs) := fun a zs h => by
                rw [upd_ne (lst_ne h e23)]
                exact h
              refine ⟨?_, keepR (sm.trans s13) nFH, s13⟩
              refine FX.mono (N := its.length + i + 1) ((fok.mono (Tk.of s13) (fun _ _ h => s13 _ _ h) (Nat.le_refl _)).put (nm := nm) (L := L) (ys := ys ++ [y]) upd_same ?_ (fun x c => by rw [take_next ej]; exact rows_snoc_no (fun ds' z => c (by injection z with z; exact z.symm))) (fun _ _ _ => Iff.rfl) (.inr ⟨ds, by rw [take_next ej]; exact List.mem_append_right _ List.mem_cons_self⟩)) tk4 ll4 (by omega)
              rw [take_next ej, rows_snoc_yes, List.map_append]
              exact (ty2.mono (Tk.of (s2.trans s3))).append (.cons (ty.mono (Tk.of s13)) .nil)
            have rest : ∀ (l : Addr) (ys : List V), (upd H1 t (.lst [])) l = some (.lst ys) → Tps (upd H1 t (.lst [])) ys ((rowsOf (its.take i) nm).map PyData.tuple) → ys.length ≤ 100 → True := fun _ _ _ _ _ => trivial
            have lrows : (rowsOf (its.take i) nm).length ≤ i := by
              unfold rowsOf
              refine Nat.le_trans (List.length_filterMap_le _ _) ?_
              rw [List.length_take]
              omega
            cases hv : valV lf (Sum.inr nm : Key) with
            | none =>
              have nof : rowsOf (its.take i) nm = [] := by
                cases c : rowsOf (its.take i) nm with
                | nil => rfl
                | cons r0 rr =>
                  have m0 : It1.fact nm r0 ∈ its.take i := rows_mem.mp (by rw [c]; exact List.mem_cons_self)
                  obtain ⟨v, m⟩ := (fok.2.2.2 nm).mpr (.inr ⟨_, m0⟩)
                  exact absurd m ((val_none fok.1).mp hv v)
              have tz : Tps (upd H1 t (.lst [])) [] ((rowsOf (its.take i) nm).map PyData.tuple) := by
                rw [nof]
                exact .nil
              refine ⟨.ref p, rfl, p, _, 2, y, rfl, rfl, SqT.of (s1 _ _ ep), rfl, (by show 1 ≤ sizeLine; decide), fun o1 no1 => ⟨t, o1, [], [y], rfl, rfl, (same_new no1) _ _ upd_same, upd_same, (by show 1 ≤ sizeLine; decide), fun L nL => ?_⟩⟩
              obtain ⟨g1, g2, g3⟩ := go t [] upd_same tz (Nat.zero_le _) o1 no1 L nL
              refine ⟨.ref Fd, rfl, .ref p, rfl, p, _, 1, .str nm, rfl, rfl, SqT.of (g3 _ _ ep), rfl, Fd, _, rfl, DPut.k (k := Sum.inr nm) (g3 _ _ e2) (small1000 (by have := fok.2.1; omega)), ?_⟩
              have ep4 : (upd (upd (upd (upd H1 t (.lst [])) o1 (.lst [y])) L (.lst ([] ++ [y]))) Fd (.dK (putK lf (Sum.inr nm : Key) (.ref L)))) p = some (.tup [.str "fact", .str nm, y]) := by
                rw [upd_ne (fun z => by rw [z, e2] at ep; cases ep)]
                exact g3 _ _ ep
              have tk5 : Tk H1 (upd (upd (upd (upd H1 t (.lst [])) o1 (.lst [y])) L (.lst ([] ++ [y]))) Fd (.dK (putK lf (Sum.inr nm : Key) (.ref L)))) := fun a zs h => by
                rw [upd_ne (fun z => by rw [z, e2] at h; cases h)]
                exact g3 _ _ h
              refine ⟨.ref p, rfl, p, _, 0, .str "fact", rfl, rfl, SqT.of ep4, rfl, rfl, _, rfl, no_if (by decide +kernel) ?_⟩
              refine ⟨.ref p, rfl, p, _, 0, .str "fact", rfl, rfl, SqT.of ep4, rfl, rfl, _, rfl, no_if (by decide +kernel) ?_⟩
              refine ⟨⟨_, rfl⟩, g2, by rw [upd_ne RF]; exact g3 _ _ e1, ⟨_, upd_same, g1⟩, ⟨lu, by rw [upd_ne FU.symm]; exact g3 _ _ e3, ?_⟩, ld, by rw [upd_ne FD.symm]; exact g3 _ _ e4, ?_⟩
              · rw [take_next ej]
                exact uok.to tk5 (Nat.le_succ _) fun _ _ _ _ => mem_snoc (fun z => by cases z)
              · rw [take_next ej]
                exact dok.to tk5 (Nat.le_succ _) fun _ _ => mem_snoc (fun z => by cases z)
            | some v0 =>
              obtain ⟨x', l, ys, e5, rfl, el, tl⟩ := fok.2.2.1 _ _ ((mem_val fok.1).mp hv)
              injection e5 with e5
              subst e5
              have ly : ys.length ≤ 100 := by
                rw [tl.length, List.length_map]
                omega
              have el1 := s1 _ _ el
              refine ⟨.ref p, rfl, p, _, 2, y, rfl, rfl, SqT.of (s1 _ _ ep), rfl, (by show 1 ≤ sizeLine; decide), fun o1 no1 => ⟨l, o1, ys, [y], rfl, rfl, (same_new no1) _ _ el1, upd_same, Nat.le_of_lt (small1000 (by rw [List.length_singleton]; omega)), fun L nL => ?_⟩⟩
              obtain ⟨g1, g2, g3⟩ := go l ys el1 (tl.mono (Tk.of s1)) ly o1 no1 L nL
              refine ⟨.ref Fd, rfl, .ref p, rfl, p, _, 1, .str nm, rfl, rfl, SqT.of (g3 _ _ ep), rfl, Fd, _, rfl, DPut.k (k := Sum.inr nm) (g3 _ _ e2) (small1000 (by have := fok.2.1; omega)), ?_⟩
              have ep4 : (upd (upd (upd (upd H1 t (.lst [])) o1 (.lst [y])) L (.lst (ys ++ [y]))) Fd (.dK (putK lf (Sum.inr nm : Key) (.ref L)))) p = some (.tup [.str "fact", .str nm, y]) := by
                rw [upd_ne (fun z => by rw [z, e2] at ep; cases ep)]
                exact g3 _ _ ep
              have tk5 : Tk H1 (upd (upd (upd (upd H1 t (.lst [])) o1 (.lst [y])) L (.lst (ys ++ [y]))) Fd (.dK (putK lf (Sum.inr nm : Key) (.ref L)))) := fun a zs h => by
                rw [upd_ne (fun z => by rw [z, e2] at h; cases h)]
                exact g3 _ _ h
              refine ⟨.ref p, rfl, p, _, 0, .str "fact", rfl, rfl, SqT.of ep4, rfl, rfl, _, rfl, no_if (by decide +kernel) ?_⟩
              refine ⟨.ref p, rfl, p, _, 0, .str "fact", rfl, rfl, SqT.of ep4, rfl, rfl, _, rfl, no_if (by decide +kernel) ?_⟩
              refine ⟨⟨_, rfl⟩, g2, by rw [upd_ne RF]; exact g3 _ _ e1, ⟨_, upd_same, g1⟩, ⟨lu, by rw [upd_ne FU.symm]; exact g3 _ _ e3, ?_⟩, ld, by rw [upd_ne FD.symm]; exact g3 _ _ e4, ?_⟩
              · rw [take_next ej]
                exact uok.to tk5 (Nat.le_succ _) fun _ _ _ _ => mem_snoc (fun z => by cases z)
              · rw [take_next ej]
                exact dok.to tk5 (Nat.le_succ _) fun _ _ => mem_snoc (fun z => by cases z)
          | rule nm rl ts bd =>
            obtain ⟨p, rfl, y, z, ep, ty, tz⟩ := inv5t tj
            refine ⟨.ref p, rfl, p, _, 0, .str "rule", rfl, rfl, SqT.of ep, rfl, rfl, _, rfl, no_if (by decide +kernel) ?_⟩
            refine ⟨.ref p, rfl, p, _, 0, .str "rule", rfl, rfl, SqT.of ep, rfl, rfl, _, rfl, yes_if ?_⟩
            refine ⟨.ref p, rfl, 2, rfl, p, _, rfl, SqT.of ep, cut5, fun t nt => ?_⟩
            have s1 : Same H1 (upd H1 t (.tup [.str rl, y, z])) := same_new nt
            have tt : Tp (upd H1 t (.tup [.str rl, y, z])) (.ref t) (.tuple [.str rl, ts, bd]) := .tup upd_same (.cons (.str rl) (.cons (ty.mono (Tk.of s1)) (.cons (tz.mono (Tk.of s1)) .nil)))
            refine ⟨.ref U, rfl, .ref p, rfl, p, _, 1, .str nm, rfl, rfl, SqT.of (s1 _ _ ep), rfl, U, _, rfl, DPut.k (k := Sum.inr nm) (s1 _ _ e3) (small1000 (by have := uok.2.1; omega)), ?_⟩
            have e31 := s1 _ _ e3
            have tk2 : Tk (upd H1 t (.tup [.str rl, y, z])) (upd (upd H1 t (.tup [.str rl, y, z])) U (.dK (putK lu (Sum.inr nm : Key) (.ref t)))) := fun a zs h => by
              rw [upd_ne (fun w => by rw [w, e31] at h; cases h)]
              exact h
            have ll2 : ∀ a zs, (upd H1 t (.tup [.str rl, y, z])) a = some (.lst zs) → (upd (upd H1 t (.tup [.str rl, y, z])) U (.dK (putK lu (Sum.inr nm : Key) (.ref t)))) a = some (.lst zs) := fun a zs h => by
              rw [upd_ne (lst_ne h e31)]
              exact h
            refine ⟨.ref p, rfl, p, _, 0, .str "rule", rfl, rfl, SqT.of (tk2 _ _ (s1 _ _ ep)), rfl, rfl, _, rfl, no_if (by decide +kernel) ?_⟩
            refine ⟨⟨_, rfl⟩, keepR (sm.trans s1) nUH, by rw [upd_ne RU]; exact s1 _ _ e1, ⟨lf, by rw [upd_ne FU]; exact s1 _ _ e2, ?_⟩, ⟨_, upd_same, ?_⟩, ld, by rw [upd_ne UD.symm]; exact s1 _ _ e4, ?_⟩
            · rw [take_next ej]
              exact ((fok.mono (Tk.of s1) (fun _ _ h => s1 _ _ h) (Nat.le_succ _)).mono tk2 ll2 (Nat.le_refl _)).skip (fun _ _ => Iff.rfl) (fun _ => rows_snoc_no (fun ds z => by cases z))
            · rw [take_next ej]
              exact ((uok.to (Tk.of s1) (Nat.le_refl _) (fun _ _ _ _ => Iff.rfl)).snoc (fun a b c h => uq _ h rfl) tt).to tk2 (Nat.le_refl _) (fun _ _ _ _ => Iff.rfl)
            · rw [take_next ej]
              exact (dok.to (Tk.of s1) (Nat.le_succ _) fun _ _ => mem_snoc (fun z => by cases z)).to tk2 (Nat.le_refl _) (fun _ _ => Iff.rfl)
          | den nm bd =>
            obtain ⟨p, rfl, y, ep, ty⟩ := inv3 tj
            refine ⟨.ref p, rfl, p, _, 0, .str "denial", rfl, rfl, SqT.of ep, rfl, rfl, _, rfl, no_if (by decide +kernel) ?_⟩
            refine ⟨.ref p, rfl, p, _, 0, .str "denial", rfl, rfl, SqT.of ep, rfl, rfl, _, rfl, no_if (by decide +kernel) ?_⟩
            refine ⟨.ref p, rfl, p, _, 0, .str "denial", rfl, rfl, SqT.of ep, rfl, rfl, _, rfl, yes_if ?_⟩
            refine ⟨.ref p, rfl, p, _, 2, y, rfl, rfl, SqT.of ep, rfl, .ref D, rfl, .ref p, rfl, p, _, 1, .str nm, rfl, rfl, SqT.of ep, rfl, D, _, rfl, DPut.k (k := Sum.inr nm) e4 (small1000 (by have := dok.2.1; omega)), ?_⟩
            have tk2 : Tk H1 (upd H1 D (.dK (putK ld (Sum.inr nm : Key) y))) := fun a zs h => by
              rw [upd_ne (fun w => by rw [w, e4] at h; cases h)]
              exact h
            have ll2 : ∀ a zs, H1 a = some (.lst zs) → (upd H1 D (.dK (putK ld (Sum.inr nm : Key) y))) a = some (.lst zs) := fun a zs h => by
              rw [upd_ne (lst_ne h e4)]
              exact h
            refine ⟨⟨_, rfl⟩, keepR sm nDH, by rw [upd_ne RD]; exact e1, ⟨lf, by rw [upd_ne FD]; exact e2, ?_⟩, ⟨lu, by rw [upd_ne UD]; exact e3, ?_⟩, _, upd_same, ?_⟩
            · rw [take_next ej]
              exact (fok.mono tk2 ll2 (Nat.le_succ _)).skip (fun _ _ => Iff.rfl) (fun _ => rows_snoc_no (fun ds z => by cases z))
            · rw [take_next ej]
              exact uok.to tk2 (Nat.le_succ _) fun _ _ _ _ => mem_snoc (fun z => by cases z)
            · rw [take_next ej]
              exact (dok.snoc (fun a h => uq _ h rfl) ty).to tk2 (Nat.le_refl _) (fun _ _ => Iff.rfl)
        · rw [lx, List.take_length] at hP
          obtain ⟨w1, w2, w3, w4, w5, w6⟩ := hP
          exact ⟨w1, w2, ⟨lr, w3, rok⟩, w4, w5, w6⟩
      · clear sT eR eF eU eD rok fok
        rintro σ H0 ⟨⟨x6, rfl⟩, sT, ⟨lr, eR, rok⟩, ⟨lf, eF, fok⟩, ⟨lu, eU, uok⟩, ld, eD, dok⟩
        have b0 := bb.up sT (Nat.le_refl N)
        obtain ⟨r1', r2', r3'⟩ := id bb.rel
        obtain ⟨f1, f2, f3, f4, f5⟩ := id b0.fac
        obtain ⟨u1, u2, u3, u4⟩ := id b0.rul
        obtain ⟨d1, d2, d3, d4⟩ := id b0.den
        have nw : ∀ {a z : Addr} {kvs : List (Key × V)}, H a = some (.dK kvs) → H z = none → a ≠ z := fun e n => ne_of_none e n
        have lr1000 : lr.length ≤ 1000 := by have := rok.2.1; omega
        have lf1000 : lf.length ≤ 1000 := by have := fok.2.1; omega
        have lu1000 : lu.length ≤ 1000 := by have := uok.2.1; omega
        have ld1000 : ld.length ≤ 1000 := by have := dok.2.1; omega
        -- relations
        have hR : kr.length = lr.length := len_same r1' rok.1 fun k => by
          constructor
          · rintro ⟨v, m⟩
            exact ⟨v, (rok.2.2 k v).mpr ((r3' k v).mp m)⟩
          · rintro ⟨v, m⟩
            exact ⟨v, (r3' k v).mpr ((rok.2.2 k v).mp m)⟩
        refine ⟨.ref s, rfl, s, C, dx, _, _, rfl, b0.hs, T.cl, T.nR, fl_rel _ _ _ _, .ref R, rfl, r, R, kr, lr, rfl, b0.hr, eR, nw bb.hr nR, rok.1, hR, lr1000, fun k v m => ?_, fun H1 s1 => ⟨_, rfl, iteF ?_⟩⟩
        · obtain ⟨nm, n, e1, e2, e3⟩ := (rok.2.2 k v).mp m
          exact ⟨v, (mem_val r1').mpr ((r3' k v).mpr ⟨nm, n, e1, e2, e3⟩), .inl ⟨.int n, by rw [e2]; exact .int n, by rw [e2]; exact .int n, nice_int n, Nat.zero_le _⟩⟩
        -- facts
        have b1 := b0.up s1 (Nat.le_refl N)
        have inr_f : ∀ k v, (k, v) ∈ kf → ∃ nm : Str, k = Sum.inr nm := fun k v m => let ⟨nm, _, _, e, _⟩ := f3 k v m; ⟨nm, e⟩
        have inr_x : ∀ k v, (k, v) ∈ lf → ∃ nm : Str, k = Sum.inr nm := fun k v m => let ⟨nm, _, _, e, _⟩ := fok.2.2.1 k v m; ⟨nm, e⟩
        have names : ∀ nm : Str, (∃ v, ((Sum.inr nm : Key), v) ∈ kf) ↔ ∃ v, ((Sum.inr nm : Key), v) ∈ lf := fun nm => (f4 nm).trans (fok.2.2.2 nm).symm
        have hF : kf.length = lf.length := len_same f1 fok.1 fun k => by
          constructor
          · rintro ⟨v, m⟩
            obtain ⟨nm, rfl⟩ := inr_f k v m
            exact (names nm).mp ⟨v, m⟩
          · rintro ⟨v, m⟩
            obtain ⟨nm, rfl⟩ := inr_x k v m
            exact (names nm).mpr ⟨v, m⟩
        refine ⟨.ref s, rfl, s, C, dx, _, _, rfl, b1.hs, T.cl, T.nF, fl_fac _ _ _ _, .ref Fd, rfl, f, Fd, kf, lf, rfl, b1.hf, s1 _ _ eF, nw bb.hf nFH, fok.1, hF, lf1000, fun k v m => ?_, fun H2 s2 => ⟨_, rfl, iteF ?_⟩⟩
        · obtain ⟨nm, l, ys, rfl, rfl, e3, e4⟩ := fok.2.2.1 k v m
          obtain ⟨v0, m0⟩ := (names nm).mpr ⟨_, m⟩
          obtain ⟨nm2, l2, rs, e5, rfl, _, ⟨⟨zs, e6, e7⟩, e8, e9, e10⟩, e11⟩ := f3 _ _ m0
          injection e5 with e5
          subst e5
          have er : rs = rowsOf its nm := rows_unique e8 (rows_sorted bb.srt) e9 fun ds => (e11 ds).trans rows_mem.symm
          rw [← er] at e4
          refine ⟨_, (mem_val f1).mpr m0, .inr ⟨l2, l, zs, ys, _, rfl, rfl, s1 _ _ e6, s1 _ _ e3, e7.mono (Tk.of s1), e4.mono (Tk.of s1), niceAll_of fun d hd => ?_, depthAll_le fun d hd => ?_, ?_⟩⟩
          · obtain ⟨row, hrow, rfl⟩ := List.mem_map.mp hd
            exact nice_row (e9 row hrow).1 (e9 row hrow).2
          · obtain ⟨row, hrow, rfl⟩ := List.mem_map.mp hd
            exact Nat.le_trans (row_depth (e9 row hrow).1) (by decide)
          · rw [List.length_map]
            omega
        -- rules
        have b2 := b1.up s2 (Nat.le_refl N)
        have s12 := s1.trans s2
        have hU : ku.length = lu.length := len_same u1 uok.1 fun k => by
          constructor
          · rintro ⟨v, m⟩
            obtain ⟨nm, rl, ts, bd, rfl, _, hit⟩ := u3 k v m
            exact uok.2.2.2 _ _ _ _ hit
          · rintro ⟨v, m⟩
            obtain ⟨nm, rl, ts, bd, rfl, _, hit⟩ := uok.2.2.1 k v m
            exact u4 _ _ _ _ hit
        refine ⟨.ref s, rfl, s, C, dx, _, _, rfl, b2.hs, T.cl, T.nU, fl_rul _ _ _ _, .ref U, rfl, u, U, ku, lu, rfl, b2.hu, s12 _ _ eU, nw bb.hu nUH, uok.1, hU, lu1000, fun k v m => ?_, fun H3 s3 => ⟨_, rfl, iteF ?_⟩⟩
        · obtain ⟨nm, rl, ts, bd, rfl, t1, hit⟩ := uok.2.2.1 k v m
          obtain ⟨v0, m0⟩ := u4 _ _ _ _ hit
          obtain ⟨nm2, rl2, ts2, bd2, e5, t2, hit2⟩ := u3 _ _ m0
          injection e5 with e5
          subst e5
          have ei := sorted_key bb.srt bb.ok hit hit2 rfl
          injection ei with _ ea ec eb'
          subst ea ec eb'
          have oi := bb.ok _ hit
          obtain ⟨o1, o2, o3, o4⟩ : nice ts ∧ nice bd ∧ ts.depth ≤ 4 ∧ bd.depth ≤ 4 := oi
          exact ⟨v0, (mem_val u1).mpr m0, .inl ⟨_, t2.mono (Tk.of s12), t1.mono (Tk.of s12), n3 (nice_str _) o1 o2, Nat.le_trans (dep3 (k := 4) (Nat.zero_le _) o3 o4) (by decide)⟩⟩
        -- denials
        have b3 := b2.up s3 (Nat.le_refl N)
        have s13 := s12.trans s3
        have hD : kd.length = ld.length := len_same d1 dok.1 fun k => by
          constructor
          · rintro ⟨v, m⟩
            obtain ⟨nm, bd, rfl, _, hit⟩ := d3 k v m
            exact dok.2.2.2 _ _ hit
          · rintro ⟨v, m⟩
            obtain ⟨nm, bd, rfl, _, hit⟩ := dok.2.2.1 k v m
            exact d4 _ _ hit
        refine ⟨.ref s, rfl, s, C, dx, _, _, rfl, b3.hs, T.cl, T.nD, fl_den _ _ _ _, .ref D, rfl, d, D, kd, ld, rfl, b3.hd, s13 _ _ eD, nw bb.hd nDH, dok.1, hD, ld1000, fun k v m => ?_, fun H4 s4 => ⟨_, rfl, iteF ?_⟩⟩
        · obtain ⟨nm, bd, rfl, t1, hit⟩ := dok.2.2.1 k v m
          obtain ⟨v0, m0⟩ := d4 _ _ hit
          obtain ⟨nm2, bd2, e5, t2, hit2⟩ := d3 _ _ m0
          injection e5 with e5
          subst e5
          have ei := sorted_key bb.srt bb.ok hit hit2 rfl
          injection ei with _ ea
          subst ea
          have oi := bb.ok _ hit
          obtain ⟨o1, o2⟩ : nice bd ∧ bd.depth ≤ 4 := oi
          exact ⟨v0, (mem_val d1).mpr m0, .inl ⟨_, t2.mono (Tk.of s13), t1.mono (Tk.of s13), o1, Nat.le_trans o2 (by decide)⟩⟩
        -- all the items
        have b4 := b3.up s4 (Nat.le_refl N)
        have s14 := s13.trans s4
        have sH4 : Same H H4 := sT.trans s14
        refine ⟨.ref s, rfl, s, dx, _, rfl, b4.hs, fl_no _ _ _ _ (by decide +kernel) (by decide +kernel) (by decide +kernel) (by decide +kernel), s, its, F, N, rfl, ⟨dx, r, f, u, d, kr, kf, ku, kd, b4⟩, hN, h64, fun L ys H5 s5 nL eL tL => ?_⟩
        have s05 := sH4.trans s5
        refine ⟨.ref b, rfl, same_true (.inr ⟨L, b, ys, xs, _, rfl, rfl, eL, s05 _ _ eb, tL, tx.mono (Tk.of s05), niceAll_of fun d hd => ?_, depthAll_le fun d hd => ?_, ?_⟩) (q _ s05)⟩
        · obtain ⟨i, hi, rfl⟩ := List.mem_map.mp hd
          exact (okI_nice (bb.ok i hi)).1
        · obtain ⟨i, hi, rfl⟩ := List.mem_map.mp hd
          exact Nat.le_trans (okI_nice (bb.ok i hi)).2 (by decide)
        · rw [List.length_map]
          omega
end
end KD

namespace KD
open PySem PySem.Spec PyProof.Rows L2 KA
/-! ### what the changes make -/
theorem mem_puts : ∀ {js l : List It1}, SortedI l → OkL l → OkL js → (js.map keyI).Nodup → ∀ x, x ∈ puts l js ↔ x ∈ js ∨ (x ∈ l ∧ ∀ j ∈ js, keyI x ≠ keyI j)
  | [], l, _, _, _, _, x => ⟨fun h => .inr ⟨h, fun j hj => by cases hj⟩, fun h => h.elim (fun z => by cases z) fun z => z.1⟩
  | j :: js, l, s, o, oj, n, x => by
    have o1 : okI j := oj j List.mem_cons_self
    have n1 : keyI j ∉ js.map keyI ∧ (js.map keyI).Nodup := List.nodup_cons.mp n
    have ih := mem_puts (js := js) (l := putI l j) (sorted_putI s o o1) (ok_putI o o1) (fun i hi => oj i (List.mem_cons_of_mem _ hi)) n1.2 x
    have e : puts l (j :: js) = puts (putI l j) js := rfl
    rw [e, ih, mem_putI o o1, List.mem_cons]
    constructor
    · rintro (h | ⟨rfl | ⟨h1, h2⟩, h3⟩)
      · exact .inl (.inr h)
      · exact .inl (.inl rfl)
      · refine .inr ⟨h1, fun y hy => ?_⟩
        rcases List.mem_cons.mp hy with rfl | hy
        · exact h2
        · exact h3 y hy
    · rintro ((rfl | h) | ⟨h1, h2⟩)
      · by_cases c : ∃ y ∈ js, keyI x = keyI y
        · obtain ⟨y, hy, ey⟩ := c
          exact absurd (List.mem_map.mpr ⟨y, hy, ey.symm⟩) n1.1
        · exact .inr ⟨.inl rfl, fun y hy z => c ⟨y, hy, z⟩⟩
      · exact .inl h
      · exact .inr ⟨.inr ⟨h1, h2 j List.mem_cons_self⟩, fun y hy => h2 y (List.mem_cons_of_mem _ hy)⟩
theorem puts_self {js : List It1} (s : SortedI js) (o : OkL js) : puts [] js = js := by
  have s0 : SortedI ([] : List It1) := List.Pairwise.nil
  have o0 : OkL ([] : List It1) := fun i hi => by cases hi
  obtain ⟨h1, h2, _⟩ := puts_ok o s0 o0
  refine sorted_ext h1 s h2 o fun x => ?_
  rw [mem_puts s0 o0 o (sorted_keys s o)]
  exact ⟨fun h => h.elim id (fun z => by cases z.1), .inl⟩
theorem mem_takes : ∀ {gs l : List It1}, SortedI l → OkL l → OkL gs → ∀ x, x ∈ apply l (gs.map .goes) ↔ x ∈ l ∧ ∀ g ∈ gs, keyI x ≠ keyI g
  | [], l, _, _, _, x => ⟨fun h => ⟨h, fun j hj => by cases hj⟩, fun h => h.1⟩
  | g :: gs, l, s, o, og, x => by
    have o1 : okI g := og g List.mem_cons_self
    have ih := mem_takes (gs := gs) (l := takeI l (keyI g)) (sorted_takeI s) (ok_takeI o) (fun i hi => og i (List.mem_cons_of_mem _ hi)) x
    have e : apply l ((g :: gs).map .goes) = apply (takeI l (keyI g)) (gs.map .goes) := rfl
    rw [e, ih, take_mem o o1]
    constructor
    · rintro ⟨⟨h1, h2⟩, h3⟩
      refine ⟨h1, fun y hy => ?_⟩
      rcases List.mem_cons.mp hy with rfl | hy
      · exact h2
      · exact h3 y hy
    · rintro ⟨h1, h2⟩
      exact ⟨⟨h1, h2 g List.mem_cons_self⟩, fun y hy => h2 y (List.mem_cons_of_mem _ hy)⟩
theorem apply_comes : ∀ {js l : List It1}, apply l (js.map .comes) = puts l js
  | [], _ => rfl
  | j :: js, l => apply_comes (js := js) (l := putI l j)
theorem okC_goes {gs : List It1} (h : OkL gs) : OkC (gs.map .goes) := fun c hc => by
  obtain ⟨i, hi, rfl⟩ := List.mem_map.mp hc
  exact h i hi
theorem okC_comes {gs : List It1} (h : OkL gs) : OkC (gs.map .comes) := fun c hc => by
  obtain ⟨i, hi, rfl⟩ := List.mem_map.mp hc
  exact h i hi
theorem gone_mem {a b : List It1} {x : It1} : x ∈ gone a b ↔ x ∈ a ∧ ∀ j ∈ b, keyI j ≠ keyI x := by
  unfold gone
  rw [List.mem_filter]
  exact ⟨fun h => ⟨h.1, by simpa using h.2⟩, fun h => ⟨h.1, by simpa using h.2⟩⟩
theorem come_mem {a b : List It1} {x : It1} : x ∈ come a b ↔ x ∈ b ∧ x ∉ a := by
  unfold come
  rw [List.mem_filter]
  exact ⟨fun h => ⟨h.1, by simpa using h.2⟩, fun h => ⟨h.1, by simpa using h.2⟩⟩
theorem btw_ok {a b : List It1} (oa : OkL a) (ob : OkL b) : OkC (btw a b) := fun c hc => by
  rcases List.mem_append.mp hc with h | h
  · exact okC_goes (fun i hi => oa i (gone_mem.mp hi).1) c h
  · exact okC_comes (fun i hi => ob i (come_mem.mp hi).1) c h
theorem btw_len {a b : List It1} : (btw a b).length ≤ a.length + b.length := by
  unfold btw
  rw [List.length_append, List.length_map, List.length_map]
  exact Nat.add_le_add (List.length_filter_le _ _) (List.length_filter_le _ _)
theorem btw_self {a : List It1} : btw a a = [] := by
  have h1 : gone a a = [] := List.eq_nil_iff_forall_not_mem.mpr fun x hx => by
    obtain ⟨h1, h2⟩ := gone_mem.mp hx
    exact h2 x h1 rfl
  have h2 : come a a = [] := List.eq_nil_iff_forall_not_mem.mpr fun x hx => by
    obtain ⟨h1, h2⟩ := come_mem.mp hx
    exact h2 h1
  unfold btw
  rw [h1, h2]
  rfl
theorem apply_btw {a b : List It1} (sa : SortedI a) (oa : OkL a) (sb : SortedI b) (ob : OkL b) : apply a (btw a b) = b := by
  have og : OkL (gone a b) := fun i hi => oa i (gone_mem.mp hi).1
  have oc : OkL (come a b) := fun i hi => ob i (come_mem.mp hi).1
  obtain ⟨h1, h2, _⟩ := apply_ok (btw_ok oa ob) sa oa
  obtain ⟨g1, g2, _⟩ := apply_ok (okC_goes og) sa oa
  have e : apply a (btw a b) = puts (apply a ((gone a b).map .goes)) (come a b) := by
    rw [← apply_comes]
    unfold apply btw
    rw [List.foldl_append]
  have nk : ((come a b).map keyI).Nodup := sorted_keys (List.Pairwise.filter _ sb) oc
  refine sorted_ext h1 sb h2 ob fun x => ?_
  rw [e, mem_puts g1 g2 oc nk, mem_takes sa oa og, come_mem]
  constructor
  · rintro (h | ⟨⟨h3, h4⟩, h5⟩)
    · exact h.1
    · rcases Classical.em (∃ j ∈ b, keyI j = keyI x) with ⟨j, hj, ej⟩ | c
      · by_cases m : j ∈ a
        · rw [← sorted_key sa oa m h3 ej]
          exact hj
        · exact absurd ej.symm (h5 j (come_mem.mpr ⟨hj, m⟩))
      · exact absurd rfl (h4 x (gone_mem.mpr ⟨h3, fun j hj z => c ⟨j, hj, z⟩⟩))
  · intro h
    by_cases m : x ∈ a
    · refine .inr ⟨⟨m, fun g hg z => (gone_mem.mp hg).2 x h z⟩, fun j hj z => ?_⟩
      obtain ⟨j1, j2⟩ := come_mem.mp hj
      exact j2 (by rw [← sorted_key sb ob h j1 z]; exact m)
    · exact .inl ⟨h, m⟩
theorem chs_nice {cs : List Ch} (h : OkC cs) : niceAll (cs.map chD) ∧ PyData.depthAll (cs.map chD) ≤ 7 := by
  have two : ∀ {a : Str} {d : PyData}, nice d → d.depth ≤ 5 → nice (.tuple [.str a, d]) ∧ (PyData.tuple [.str a, d]).depth ≤ 7 := fun {a d} n dd => by
    refine ⟨nice_tup (niceAll_cons (nice_str _) (niceAll_cons n niceAll_nil)) (by show 2 ≤ 1000; decide), ?_⟩
    show PyData.depthAll [.str a, d] + 1 ≤ 7
    have : PyData.depthAll [.str a, d] ≤ 5 := depthAll_le fun x hx => by
      rcases List.mem_cons.mp hx with rfl | hx
      · exact Nat.zero_le _
      · rw [List.mem_singleton.mp hx]
        exact dd
    omega
  have each : ∀ d ∈ cs.map chD, nice d ∧ d.depth ≤ 7 := fun d hd => by
    obtain ⟨c, hc, rfl⟩ := List.mem_map.mp hd
    have oc := h c hc
    cases c with
    | comes i => exact two (okI_nice oc).1 (okI_nice oc).2
    | goes i => exact two (nice_key oc).1 (Nat.le_trans (nice_key oc).2 (by decide))
  exact ⟨niceAll_of fun d hd => (each d hd).1, depthAll_le fun d hd => (each d hd).2⟩
theorem same_chs {H : Hp} {p r : Addr} {xs ys : List V} {cs : List Ch} (h1 : H p = some (.lst xs)) (h2 : H r = some (.lst ys)) (t1 : Tps H xs (cs.map chD)) (t2 : Tps H ys (cs.map chD)) (o : OkC cs) (l : cs.length ≤ 1000) : SameV H (.ref p) (.ref r) :=
  .inr ⟨p, r, xs, ys, _, rfl, rfl, h1, h2, t1, t2, (chs_nice o).1, (chs_nice o).2, by rw [List.length_map]; exact l⟩
/-! ### what stands while the law runs -/
structure Two (st L b1 b2 : Addr) (i1 i2 : List It1) (H : Hp) : Prop where
  g : Good st L H
  n1 : b1 ≠ st
  n2 : b2 ≠ st
  e1 : ∃ xs, H b1 = some (.lst xs) ∧ Tps H xs (i1.map itD)
  e2 : ∃ xs, H b2 = some (.lst xs) ∧ Tps H xs (i2.map itD)
  s1 : SortedI i1
  s2 : SortedI i2
  o1 : OkL i1
  o2 : OkL i2
  l1 : i1.length ≤ 12
  l2 : i2.length ≤ 22
theorem Two.dr {st L b1 b2 : Addr} {i1 i2 : List It1} {H H' : Hp} (t : Two st L b1 b2 i1 i2 H) (d : Dr st L H H') : Two st L b1 b2 i1 i2 H' :=
  let ⟨xs, a, b⟩ := t.e1
  let ⟨ys, c, e⟩ := t.e2
  ⟨d.good, t.n1, t.n2, ⟨xs, d.at_ t.n1 a, b.mono (d.tk t.g)⟩, ⟨ys, d.at_ t.n2 c, e.mono (d.tk t.g)⟩, t.s1, t.s2, t.o1, t.o2, t.l1, t.l2⟩
theorem Two.same {st L b1 b2 : Addr} {i1 i2 : List It1} {H H' : Hp} (t : Two st L b1 b2 i1 i2 H) (s : Same H H') : Two st L b1 b2 i1 i2 H' := t.dr (Dr.same t.g s)
def StL (C : Addr) (st : Addr) (s : Addr) (its : List It1) (H : Hp) : Prop := ∃ F N, StAt C H s its F N ∧ N ≤ 60 ∧ s ≠ st ∧ ¬ F st
theorem StL.same {C st s : Addr} {its : List It1} {H H' : Hp} (t : StL C st s its H) (k : Same H H') : StL C st s its H' :=
  let ⟨F, N, S, n, a, b⟩ := t
  ⟨F, N, S.same k, n, a, b⟩
theorem StL.dr {C st L s : Addr} {its : List It1} {H H' : Hp} (t : StL C st s its H) (g : Good st L H) (d : Dr st L H H') : StL C st s its H' :=
  let ⟨F, N, S, n, a, b⟩ := t
  ⟨F, N, S.mono (d.tk g) (fun o h => d.at_ a h) (fun x o hx h => d.at_ (fun z => b (by rw [← z]; exact hx)) h) (Nat.le_refl _), n, a, b⟩
theorem kept_same {x dx C : Addr} {H H' : Hp} (nx : H x = none) (nd : H dx = none) (k : Kept x (upd (upd H dx (.own x)) x (.ins C dx [])) H') : Same H H' := fun a o h => by
  have n1 := ne_of_none h nx
  refine k a o ?_ n1
  rw [upd_ne n1, upd_ne (ne_of_none h nd)]
  exact h
theorem kept_new {x dx C a : Addr} {H : Hp} (h : (upd (upd H dx (.own x)) x (.ins C dx [])) a = none) : H a = none := by
  by_cases c : a = x
  · rw [c, upd_same] at h
    cases h
  · rw [upd_ne c] at h
    by_cases c2 : a = dx
    · rw [c2, upd_same] at h
      cases h
    · rw [upd_ne c2] at h
      exact h
end KD

namespace KD
open PySem PySem.Spec PyProof.Rows L2 KA
section
variable {P : Program} {w : World} {K : PySem.W.Frag} {mg : Str → Option Value} {base : Heap} {C : Addr}
abbrev sLaw : Stmt := topS 33
abbrev nLaw : List Str := ["script", "state", "first", "second", "one", "other", "changes", "passed", "made", "name", "rows", "spoilt"]
theorem scLaw : FnScope nLaw ["script"] (defScope sLaw) := ⟨rfl, rfl, rfl, by decide +kernel, rfl, by decide +kernel, by decide +kernel⟩
def spLaw (K : PySem.W.Frag) : Sp := fun vs H Q _ => ∃ (a : Addr) (ns : List Int), vs = [.ref a] ∧ SqL K H a (ns.map V.int) ∧ ns.length ≤ 63 ∧ ∀ H', Q (.bl true) H'
/-- the defs that the law calls -/
structure Ds (P : Program) (w : World) (K : PySem.W.Frag) (mg : Str → Option Value) (base : Heap) (C : Addr) : Prop where
  next : dNext P w K mg base
  is_ : Def P w K mg base "_law_items" 8 ["state", "most"] spIs
  cs : Def P w K mg base "_law_changes" 8 ["state", "ordered"] spCs
  ch : Def P w K mg base "_law_changed" 10 ["ordered", "changes"] spCh
  lb : Def P w K mg base "_law_between" 2 ["first", "second"] spLB
  sm : dSame P w K mg base
  st : Def P w K mg base "_law_is_state" 11 ["actual", "ordered"] (spSt C)
  bt : Def P w K mg base "between" 2 ["first", "second"] (spBt C)
  mks : MkSt P w K mg base C
  chg : MDef P w K mg base C "change" 10 ["self", "changes"] (spChange C)
theorem ok_law {f0 : Addr} {fd : FuncData} (F0 : Fun K "law" "law" sLaw f0 fd) (B : Bt mg) (T : Cs K mg C) (D : Ds P w K mg base C) : FnOk P w K mg base CX0 12 f0 fd ["script"] (spLaw K) := by
  refine F0.ok scLaw (fun vs H Q E h => ?_) (fun cdv A outer s H vs Q E hr h => ?_)
  · obtain ⟨a, ns, rfl, _⟩ := h
    rfl
  · obtain ⟨sc, ns, rfl, hS, hlen, q⟩ := h
    have hu := hu_of hr
    have r1 : Room 1 _ := hr.mono (by decide)
    have r2 : Room 2 _ := hr.mono (by decide)
    have r8 : Room 8 _ := hr.mono (by decide)
    have r9 : Room 9 _ := hr.mono (by decide)
    have r10 : Room 10 _ := hr.mono (by decide)
    refine ⟨_, pss_cons (ps_set (i := 1) scLaw.nd rfl (.inl rfl) (pe_lst (pa_cons (pe_callTy call_list_of (by rfl) B.lst (by decide +kernel) (pa_cons (pv 0) pa_nil)) (pa_cons pe_int (pa_cons pe_int (pa_cons pe_int pa_nil))))))
      (pss_cons (ps_set (i := 2) scLaw.nd rfl (.inl rfl) (pe_ix ix_tup (pe_def D.is_ r8 (by rfl) (pa_cons (pv 1) (pa_cons pe_int pa_nil))) pe_int (fun _ _ => rfl)))
      (pss_cons (ps_set (i := 3) scLaw.nd rfl (.inl rfl) (pe_ix ix_tup (pe_def D.is_ r8 (by rfl) (pa_cons (pv 1) (pa_cons pe_int pa_nil))) pe_int (fun _ _ => rfl)))
      (C8.pss_cut (ps_if (pt_cmpR op_eq (pe_def D.next r1 (by rfl) (pa_cons (pv 1) (pa_cons pe_int pa_nil))) pe_int (nomark _)) (pss_one (ps_set (i := 3) scLaw.nd rfl (.inl rfl) (pe_def D.ch r10 (by rfl) (pa_cons (pv 2) (pa_cons (pe_def D.cs r8 (by rfl) (pa_cons (pv 1) (pa_cons (pv 2) pa_nil))) pa_nil))))) pss_nil)
      (pss_cons (ps_set (i := 4) scLaw.nd rfl (.inl rfl) (pe_mk1 D.mks r8 (by rfl) T.mgC (pa_cons (pe_callTy call_list_of (by rfl) B.lst (by decide +kernel) (pa_cons (pv 2) pa_nil)) pa_nil)))
      (pss_cons (ps_set (i := 5) scLaw.nd rfl (.inl rfl) (pe_mk1 D.mks r8 (by rfl) T.mgC (pa_cons (pe_callTy call_list_of (by rfl) B.lst (by decide +kernel) (pa_cons (pv 3) pa_nil)) pa_nil)))
      (pss_cons (ps_set (i := 6) scLaw.nd rfl (.inl rfl) (pe_def D.bt r2 (by rfl) (pa_cons (pv 4) (pa_cons (pv 5) pa_nil))))
      (pss_cons (ps_if (PW.pt (pw_or (pt_not (pt_val (pe_def D.sm r9 (by rfl) (pa_cons (pv 6) (pa_cons (pe_def D.lb r2 (by rfl) (pa_cons (pv 2) (pa_cons (pv 3) pa_nil))) pa_nil)))))
          (pw_or1 (pt_not (pt_val (pe_def D.st hr (by rfl) (pa_cons (pe_mdef D.chg (pv 4) T.cl r10 (pa_cons (pv 6) pa_nil)) (pa_cons (pv 3) pa_nil)))))))) (pss_one (ps_ret pe_bl)) pss_nil)
      (pss_cons (ps_if (PW.pt (pw_or (pt_not (pt_val (pe_def D.sm r9 (by rfl) (pa_cons (pe_def D.bt r2 (by rfl) (pa_cons (pv 5) (pa_cons (pv 5) pa_nil))) (pa_cons (pe_lst pa_nil) pa_nil)))))
          (pw_or (pt_not (pt_val (pe_def D.st hr (by rfl) (pa_cons (pv 4) (pa_cons (pv 2) pa_nil))))) (pw_or1 (pt_not (pt_val (pe_def D.st hr (by rfl) (pa_cons (pv 5) (pa_cons (pv 3) pa_nil))))))))) (pss_one (ps_ret pe_bl)) pss_nil)
      (pss_cons (ps_set (i := 6) scLaw.nd rfl (.inl rfl) (pe_def D.cs r8 (by rfl) (pa_cons (pv 1) (pa_cons (pv 2) pa_nil))))
      (pss_cons (ps_set (i := 7) scLaw.nd rfl (.inl rfl) (pe_callTy call_list_of (by rfl) B.lst (by decide +kernel) (pa_cons (pv 6) pa_nil)))
      (pss_cons (ps_set (i := 8) scLaw.nd rfl (.inl rfl) (pe_mdef D.chg (pv 4) T.cl r10 (pa_cons (pv 7) pa_nil)))
      (pss_cons (ps_if (PW.pt (pw_or (pt_not (pt_val (pe_def D.st hr (by rfl) (pa_cons (pv 8) (pa_cons (pe_def D.ch r10 (by rfl) (pa_cons (pv 2) (pa_cons (pv 6) pa_nil))) pa_nil)))))
          (pw_or1 (pt_not (pt_val (pe_def D.sm r9 (by rfl) (pa_cons (pv 7) (pa_cons (pv 6) pa_nil)))))))) (pss_one (ps_ret pe_bl)) pss_nil)
      (C8.pss_cut (ps_lock (ps_for PassesOwn.never rfl (pi_keys (pe_fld (pv 8) rfl)) (pg_name (i := 9) scLaw.nd rfl (.inl rfl))
        (pss_cons (ps_set (i := 10) scLaw.nd rfl (.inl rfl) (pe_dget hu (pe_fld (pv 8) rfl) (pv 9) (fun _ _ => rfl)))
        (pss_one (ps_expr (pe_bm PySem.F.plainAttrs_list PySem.F.slot_list_append PySem.F.type_list_append mt_append (pv 10) (pa_cons (pe_tup (pa_cons pe_str pa_nil)) pa_nil)))))))
      (C8.pss_cut (ps_for PassesOwn.never rfl (pi_list (pe_lst (pa_cons (pe_fld (pv 8) rfl) (pa_cons (pe_fld (pv 8) rfl) (pa_cons (pe_fld (pv 8) rfl) pa_nil))))) (pg_name (i := 11) scLaw.nd rfl (.inl rfl))
        (pss_one (ps_dput hu (pv 11) pe_str (pe_tup pa_nil) rfl)))
      (pss_one (ps_ret (pe_def D.st hr (by rfl) (pa_cons (pv 4) (pa_cons (pv 2) pa_nil))))))))))))))))))), ?_⟩
    -- the state
    refine ⟨.ref sc, rfl, sc, ns.map V.int, rfl, .inl hS, fun L nL => ⟨(by show 4 ≤ sizeLine; decide), fun st nst => ?_⟩⟩
    have nLs : L ≠ st := ne_of_none upd_same nst
    have g0 : Good st L (upd (upd H L (.lst (ns.map V.int))) st (.lst [.ref L, .int 0, .int 0, .int 1])) := ⟨ns, 0, 0, 1, upd_same, by
      rw [upd_ne nLs]
      exact upd_same, by decide, by decide⟩
    revert g0
    generalize upd (upd H L (.lst (ns.map V.int))) st (.lst [.ref L, .int 0, .int 0, .int 1]) = H0
    intro g0
    refine ⟨.ref st, rfl, st, L, 12, rfl, g0, by decide, by decide, fun p1 x1 b1 i1 ys1 H1 d1 nb1 ep1 eb1 t1 s1 o1 l1 => ⟨p1, _, 1, .ref b1, rfl, rfl, SqT.of ep1, rfl, ?_⟩⟩
    have nb1s : b1 ≠ st := fun z => g0.not_none (by rw [← z]; exact nb1)
    refine ⟨.ref st, rfl, st, L, 12, rfl, d1.good, by decide, by decide, fun p2 x2 b2 i2 ys2 H2 d2 nb2 ep2 eb2 t2 s2 o2 l2 => ⟨p2, _, 1, .ref b2, rfl, rfl, SqT.of ep2, rfl, ?_⟩⟩
    have nb2s : b2 ≠ st := fun z => d1.good.not_none (by rw [← z]; exact nb2)
    have W2 : Two st L b1 b2 i1 i2 H2 := ⟨d2.good, nb1s, nb2s, ⟨ys1, d2.at_ nb1s eb1, t1.mono (d2.tk d1.good)⟩, ⟨ys2, eb2, t2⟩, s1, s2, o1, o2, l1, Nat.le_trans l2 (by decide)⟩
    clear d1 d2 ep1 ep2 eb1 eb2 t1 t2 s1 s2 o1 o2 l1 l2 nb1 nb2 g0
    refine ⟨fun σ H' => ∃ b2 i2, σ = [some (.ref sc), some (.ref st), some (.ref b1), some (.ref b2), none, none, none, none, none, none, none, none] ∧ Two st L b1 b2 i1 i2 H', ?_, ?_⟩
    · refine ⟨.ref st, rfl, st, L, 2, rfl, W2.g, by decide, by decide, fun v H3 d3 v0 v1 => ⟨rfl, _, rfl, ite2 (fun c => ?_) (fun c => ?_)⟩⟩
      · have W3 := W2.dr d3
        obtain ⟨xs, ex, tx⟩ := W3.e1
        refine ⟨.ref b1, rfl, .ref st, rfl, .ref b1, rfl, st, L, b1, i1, xs, rfl, W3.g, W3.n1, ex, tx, W3.o1, Nat.le_trans W3.l1 (by decide), fun cb cs zs H4 d4 ncb ecb tcs ocs lcs => ?_⟩
        have W4 := W3.dr d4
        obtain ⟨xs4, ex4, tx4⟩ := W4.e1
        have ncbs : cb ≠ st := fun z => W3.g.not_none (by rw [← z]; exact ncb)
        refine ⟨b1, cb, i1, cs, xs4, zs, rfl, ex4, tx4, W4.s1, W4.o1, Nat.le_trans W4.l1 (by decide), ecb, tcs, ocs, Nat.le_trans lcs (by decide), fun b3 ys3 H5 s5 eb3 tb3 => ?_⟩
        have W5 := W4.same s5
        obtain ⟨p1', p2', p3'⟩ := apply_ok ocs W4.s1 W4.o1
        have nb3 : b3 ≠ st := fun z => by
          obtain ⟨ns', i', a', b', e', _⟩ := W5.g
          rw [z, e'] at eb3
          injection eb3 with eb3
          injection eb3 with eb3
          rw [← eb3] at tb3
          obtain ⟨j, ej, tj⟩ := item_get tb3 (i := 1) rfl
          cases j <;> cases tj
        have l1' := W4.l1
        exact ⟨b3, _, rfl, W5.g, W5.n1, nb3, W5.e1, ⟨ys3, eb3, tb3⟩, W5.s1, p1', W5.o1, p2', W5.l1, by omega⟩
      · exact ⟨b2, i2, rfl, W2.dr d3⟩
    · clear W2
      rintro σ H3 ⟨b2, i2, rfl, W3⟩
      -- one
      obtain ⟨xs1, ex1, tx1⟩ := W3.e1
      refine ⟨.ref b1, rfl, b1, xs1, rfl, .inl (SqL.of ex1), fun c1 nc1 => fun y1 dy1 ny1 ndy1 ney1 => ?_⟩
      have W4 := W3.same (same_new nc1 (o := .lst xs1))
      have tx4 := tx1.mono (Tk.new (o := .lst xs1) nc1)
      have ec1 : (upd H3 c1 (.lst xs1)) c1 = some (.lst xs1) := upd_same
      revert ny1 ndy1 W4 tx4 ec1
      generalize upd H3 c1 (.lst xs1) = H4
      intro ny1 ndy1 W4 tx4 ec1
      have base4 : ∀ {x dx : Addr} {Hx : Hp}, Hx x = none → Hx dx = none → Same Hx (upd (upd Hx dx (.own x)) x (.ins C dx [])) := fun {x dx Hx} nx nd a o h => by
        rw [upd_ne (ne_of_none h nx), upd_ne (ne_of_none h nd)]
        exact h
      refine ⟨y1, dy1, c1, i1, rfl, upd_same, .inr ⟨xs1, base4 ny1 ndy1 _ _ ec1, tx4.mono (Tk.of (base4 ny1 ndy1))⟩, W4.o1, by have := W4.l1; omega, fun H5 F1 k5 f5 S5 => ⟨rfl, ?_⟩⟩
      have sm5 := kept_same ny1 ndy1 k5
      have W5 := W4.same sm5
      rw [puts_self W4.s1 W4.o1] at S5
      have O5 : StL C st y1 i1 H5 := ⟨F1, _, S5, by have := W4.l1; omega, fun z => W4.g.not_none (by rw [← z]; exact ny1), fun z => W4.g.not_none (kept_new (f5 _ z))⟩
      clear S5 k5 f5 sm5 W4
      -- other
      obtain ⟨xs2, ex2, tx2⟩ := W5.e2
      refine ⟨.ref b2, rfl, b2, xs2, rfl, .inl (SqL.of ex2), fun c2 nc2 => fun y2 dy2 ny2 ndy2 ney2 => ?_⟩
      have W6 := W5.same (same_new nc2 (o := .lst xs2))
      have O6 := O5.same (same_new nc2 (o := .lst xs2))
      have tx6 := tx2.mono (Tk.new (o := .lst xs2) nc2)
      have ec2 : (upd H5 c2 (.lst xs2)) c2 = some (.lst xs2) := upd_same
      revert ny2 ndy2 W6 O6 tx6 ec2
      generalize upd H5 c2 (.lst xs2) = H6
      intro ny2 ndy2 W6 O6 tx6 ec2
      refine ⟨y2, dy2, c2, i2, rfl, upd_same, .inr ⟨xs2, base4 ny2 ndy2 _ _ ec2, tx6.mono (Tk.of (base4 ny2 ndy2))⟩, W6.o2, by have := W6.l2; omega, fun H7 F2 k7 f7 S7 => ⟨rfl, ?_⟩⟩
      have sm7 := kept_same ny2 ndy2 k7
      have W7 := W6.same sm7
      have O7 := O6.same sm7
      rw [puts_self W6.s2 W6.o2] at S7
      have R7 : StL C st y2 i2 H7 := ⟨F2, _, S7, by have := W6.l2; omega, fun z => W6.g.not_none (by rw [← z]; exact ny2), fun z => W6.g.not_none (kept_new (f7 _ z))⟩
      clear S7 k7 f7 sm7 W6 O6 O5 W5
      have l1 := W7.l1
      have l2 := W7.l2
      -- between
      obtain ⟨G1, M1, T1, m1, _, _⟩ := id O7
      obtain ⟨G2, M2, T2, m2, _, _⟩ := id R7
      refine ⟨.ref y1, rfl, .ref y2, rfl, y1, y2, i1, i2, G1, G2, M1, M2, rfl, T1, T2, by omega, by omega, by omega, by omega, fun cb zs H8 s8 ncb ecb tcb => ?_⟩
      have W8 := W7.same s8
      have O8 := O7.same s8
      have R8 := R7.same s8
      have okb := btw_ok W8.o1 W8.o2
      have lenb := btw_len (a := i1) (b := i2)
      -- the changes are the law's
      obtain ⟨xs8, ex8, tx8⟩ := W8.e1
      obtain ⟨zs8, ez8, tz8⟩ := W8.e2
      refine ⟨.ref cb, rfl, .ref b1, rfl, .ref b2, rfl, b1, b2, i1, i2, xs8, zs8, rfl, ex8, tx8, W8.o1, by omega, ez8, tz8, W8.o2, by omega, fun lb ys9 H9 s9 elb tlb => ?_⟩
      refine same_true (same_chs (s9 _ _ ecb) elb (tcb.mono (Tk.of s9)) tlb okb (by omega)) ⟨_, rfl, iteF ?_⟩
      have W9 := W8.same s9
      have O9 := O8.same s9
      have R9 := R8.same s9
      -- the first changed is the second
      obtain ⟨G3, M3, T3, m3, _, _⟩ := id O9
      obtain ⟨dxa, ra, fa, ua, da, _, _, _, _, ba⟩ := id T3
      obtain ⟨zs9, ez9, tz9⟩ := W9.e2
      refine ⟨.ref y1, rfl, y1, dxa, _, rfl, ba.hs, fl_no _ _ _ _ (by decide +kernel) (by decide +kernel) (by decide +kernel) (by decide +kernel), .ref cb, rfl, y1, cb, i1, _, zs, G3, M3, rfl, T3, s9 _ _ ecb, tcb.mono (Tk.of s9), okb, by omega, fun mk Fm HA sA nmk fm Sm => ?_⟩
      rw [apply_btw W9.s1 W9.o1 W9.s2 W9.o2] at Sm
      refine ⟨.ref b2, rfl, mk, b2, i2, zs9, Fm, _, rfl, Sm, by omega, by omega, sA _ _ ez9, tz9.mono (Tk.of sA), fun HB sB => ⟨_, rfl, iteF ?_⟩⟩
      have WB := (W9.same sA).same sB
      have OB := (O9.same sA).same sB
      have RB := (R9.same sA).same sB
      clear Sm fm W9 O9 R9 W8 O8 R8 W7 O7 R7 T1 T2 T3 ba
      -- nothing between a state and itself
      obtain ⟨G4, M4, T4, m4, _, _⟩ := id RB
      refine ⟨.ref y2, rfl, .ref y2, rfl, y2, y2, i2, i2, G4, G4, M4, M4, rfl, T4, T4, by omega, by omega, by omega, by omega, fun eb0 es0 HC sC neb eeb teb => ?_⟩
      rw [btw_self] at teb
      refine ⟨Nat.zero_le _, fun nl0 nnl => ?_⟩
      have sD : Same HC (upd HC nl0 (.lst [])) := same_new nnl
      refine same_true (.inr ⟨eb0, nl0, es0, [], [], rfl, rfl, sD _ _ eeb, upd_same, teb.mono (Tk.of sD), .nil, niceAll_nil, Nat.zero_le _, Nat.zero_le _⟩) ⟨_, rfl, iteF ?_⟩
      have WD := (WB.same sC).same sD
      have OD := (OB.same sC).same sD
      have RD := (RB.same sC).same sD
      revert WD OD RD
      generalize upd HC nl0 (.lst []) = HD
      intro WD OD RD
      obtain ⟨G5, M5, T5, m5, _, _⟩ := id OD
      obtain ⟨xsD, exD, txD⟩ := WD.e1
      refine ⟨.ref y1, rfl, .ref b1, rfl, y1, b1, i1, xsD, G5, M5, rfl, T5, by omega, by omega, exD, txD, fun HE sE => ⟨_, rfl, iteF ?_⟩⟩
      have WE := WD.same sE
      have OE := OD.same sE
      have RE := RD.same sE
      obtain ⟨G6, M6, T6, m6, _, _⟩ := id RE
      obtain ⟨zsE, ezE, tzE⟩ := WE.e2
      refine ⟨.ref y2, rfl, .ref b2, rfl, y2, b2, i2, zsE, G6, M6, rfl, T6, by omega, by omega, ezE, tzE, fun HF sF => ⟨_, rfl, iteF ?_⟩⟩
      have WF := WE.same sF
      have OF := OE.same sF
      clear WE OE RE WD OD RD WB OB RB T4 T5 T6
      -- changes
      obtain ⟨xsF, exF, txF⟩ := WF.e1
      refine ⟨.ref st, rfl, .ref b1, rfl, st, L, b1, i1, xsF, rfl, WF.g, WF.n1, exF, txF, WF.o1, by omega, fun hb cs hs HG dG nhb ehb thb ohs lhs => ?_⟩
      have WG := WF.dr dG
      have OG := OF.dr WF.g dG
      -- passed
      refine ⟨.ref hb, rfl, hb, hs, rfl, .inl (SqL.of ehb), fun pb npb => ?_⟩
      have sH : Same HG (upd HG pb (.lst hs)) := same_new npb
      have WH := WG.same sH
      have OH := OG.same sH
      have ehH := sH _ _ ehb
      have thH := thb.mono (Tk.of sH)
      have epb : (upd HG pb (.lst hs)) pb = some (.lst hs) := upd_same
      revert WH OH ehH thH epb
      generalize upd HG pb (.lst hs) = HH
      intro WH OH ehH thH epb
      -- made
      obtain ⟨G7, M7, T7, m7, n7, _⟩ := id OH
      obtain ⟨dxb, rb, fb, ub, db, _, _, _, _, ba⟩ := id T7
      obtain ⟨p1', p2', p3'⟩ := apply_ok ohs WH.s1 WH.o1
      refine ⟨.ref y1, rfl, y1, dxb, _, rfl, ba.hs, fl_no _ _ _ _ (by decide +kernel) (by decide +kernel) (by decide +kernel) (by decide +kernel), .ref pb, rfl, y1, pb, i1, cs, hs, G7, M7, rfl, T7, epb, thH, ohs, by omega, fun mm Fm HI sI nmm fm Sm => ?_⟩
      have WI := WH.same sI
      obtain ⟨xsI, exI, txI⟩ := WI.e1
      refine ⟨.ref mm, rfl, .ref b1, rfl, .ref hb, rfl, b1, hb, i1, cs, xsI, hs, rfl, exI, txI, WI.s1, WI.o1, by omega, sI _ _ ehH, thH.mono (Tk.of sI), ohs, by omega, fun eb9 ys9 HJ sJ ee9 te9 => ?_⟩
      refine ⟨mm, eb9, _, ys9, Fm, _, rfl, Sm.same sJ, by omega, by omega, ee9, te9, fun HK sK => ⟨_, rfl, iteF ?_⟩⟩
      have sHK : Same HH HK := sI.trans (sJ.trans sK)
      refine ⟨.ref pb, rfl, .ref hb, rfl, same_true (same_chs (sHK _ _ epb) (sHK _ _ ehH) (thH.mono (Tk.of sHK)) (thH.mono (Tk.of sHK)) ohs (by omega)) ⟨_, rfl, iteF ?_⟩⟩
      have SmK := Sm.same (sJ.trans sK)
      obtain ⟨dm, rm, fm', um, dm', krm, kfm, kum, kdm, bm⟩ := id SmK
      -- what is not of the made one stays
      have stay : ∀ a o, HH a = some o → ¬ Fm a := fun a o h z => by
        have := fm a z
        rw [h] at this
        cases this
      have lenF : kfm.length ≤ 100 := by have := bm.fac.2.1; omega
      refine ⟨fun σ H' => (∃ x9 x10, σ = [some (.ref sc), some (.ref st), some (.ref b1), some (.ref b2), some (.ref y1), some (.ref y2), some (.ref hb), some (.ref pb), some (.ref mm), x9, x10, none]) ∧ (∀ a o, ¬ Fm a → HK a = some o → H' a = some o) ∧ H' rm = some (.dK krm) ∧ H' um = some (.dK kum) ∧ H' dm' = some (.dK kdm), ?_, ?_⟩
      · refine ⟨fm', _, bm.hf, trivial, fun od => ?_⟩
        have mf : mm ≠ fm' := bm.ns bm.ff
        refine ⟨.ref mm, rfl, mm, C, dm, _, _, rfl, by rw [upd_ne mf]; exact bm.hs, T.cl, T.nF, fl_fac _ _ _ _, fm', od, rfl, .inl ⟨kfm, upd_same, ?_⟩⟩
        refine for_it walk_keys (fun i σ H' => (∃ x9 x10, σ = [some (.ref sc), some (.ref st), some (.ref b1), some (.ref b2), some (.ref y1), some (.ref y2), some (.ref hb), some (.ref pb), some (.ref mm), x9, x10, none]) ∧ H' fm' = some (.frz od (.dK kfm)) ∧ (∀ a o, ¬ Fm a → HK a = some o → H' a = some o) ∧ (H' rm = some (.dK krm) ∧ H' um = some (.dK kum) ∧ H' dm' = some (.dK kdm)) ∧ ∀ k l, (k, V.ref l) ∈ kfm → ∃ xs, H' l = some (.lst xs) ∧ xs.length ≤ 100 + i)
          ⟨⟨none, none, rfl⟩, upd_same, fun a o na h => by rw [upd_ne (fun z => na (by rw [z]; exact bm.ff))]; exact h, ⟨by rw [upd_ne bm.rf]; exact bm.hr, by rw [upd_ne bm.fu'.symm]; exact bm.hu, by rw [upd_ne bm.fd'.symm]; exact bm.hd⟩, fun k l m => ?_⟩ (fun i σ H' _ hP => hP.2.1) (fun i x σ H' H2 hi hP hY => ?_) (fun σ H' hP => ?_)
        · obtain ⟨nm, l2, rs, e1, e2, e3, ⟨⟨ys, el, tr⟩, _, _, ln⟩, _⟩ := bm.fac.2.2.1 k _ m
          injection e2 with e2
          subst e2
          refine ⟨ys, by rw [upd_ne (lst_ne el bm.hf)]; exact el, ?_⟩
          rw [tr.length, List.length_map]
          omega
        · obtain ⟨rfl, k, v, ek, rfl⟩ := hY
          obtain ⟨⟨x9, x10, rfl⟩, h1, h2, ⟨h3, h4, h5⟩, h6⟩ := hP
          have mk := List.mem_of_getElem? ek
          obtain ⟨nm, l, rs, e1, rfl, e3, ⟨⟨ys, el, tr⟩, _⟩, _⟩ := bm.fac.2.2.1 k v mk
          obtain ⟨zs', ez, lz⟩ := h6 k l mk
          have hm := h2 _ _ bm.fs bm.hs
          have gv : DGet H2 fm' (kV k) (some (.ref l)) := .inl ⟨kfm, k, .inr ⟨od, h1⟩, rfl, ((mem_val bm.fac.1).mpr mk).symm⟩
          refine ⟨.ref mm, rfl, mm, C, dm, _, _, rfl, hm, T.cl, T.nF, fl_fac _ _ _ _, kV k, rfl, fm', .ref l, rfl, gv, ?_⟩
          refine ⟨.ref l, rfl, .inl ⟨rfl, _, SqL.of ez⟩, (by show 1 ≤ sizeLine; decide), fun p np => ?_⟩
          have s2 : Same H2 (upd H2 p (.tup [.str "spoilt"])) := same_new np
          refine ⟨l, zs', .ref p, rfl, rfl, s2 _ _ ez, small1000 (by omega), ⟨_, _, rfl⟩, ?_, fun a o na h => ?_, ⟨?_, ?_, ?_⟩, fun k2 l2 m2 => ?_⟩
          · rw [upd_ne (fun z => by rw [← z, h1] at ez; cases ez)]
            exact s2 _ _ h1
          · rw [upd_ne (fun z => na (by rw [z]; exact e3))]
            exact s2 _ _ (h2 a o na h)
          · rw [upd_ne (lst_ne ez h3).symm]
            exact s2 _ _ h3
          · rw [upd_ne (lst_ne ez h4).symm]
            exact s2 _ _ h4
          · rw [upd_ne (lst_ne ez h5).symm]
            exact s2 _ _ h5
          · by_cases z : l2 = l
            · rw [z, upd_same]
              refine ⟨_, rfl, ?_⟩
              rw [List.length_append, List.length_singleton]
              omega
            · obtain ⟨ws, ew, lw⟩ := h6 k2 l2 m2
              exact ⟨ws, by rw [upd_ne z]; exact s2 _ _ ew, by omega⟩
        · obtain ⟨w1, h1, h2, ⟨h3, h4, h5⟩, h6⟩ := hP
          refine ⟨h1, w1, fun a o na h => ?_, ?_, ?_, ?_⟩
          · rw [upd_ne (fun z => na (by rw [z]; exact bm.ff))]
            exact h2 a o na h
          · rw [upd_ne bm.rf]
            exact h3
          · rw [upd_ne bm.fu'.symm]
            exact h4
          · rw [upd_ne bm.fd'.symm]
            exact h5
      · rintro σ HL ⟨⟨x9, x10, rfl⟩, outL, eRm, eUm, eDm⟩
        have hm := outL _ _ bm.fs bm.hs
        refine ⟨fun σ H' => (∃ x9 x10 x11, σ = [some (.ref sc), some (.ref st), some (.ref b1), some (.ref b2), some (.ref y1), some (.ref y2), some (.ref hb), some (.ref pb), some (.ref mm), x9, x10, x11]) ∧ (∀ a o, ¬ Fm a → HK a = some o → H' a = some o), ?_, ?_⟩
        · refine ⟨.ref mm, rfl, mm, C, dm, _, _, rfl, hm, T.cl, T.nR, fl_rel _ _ _ _, .ref mm, rfl, mm, C, dm, _, _, rfl, hm, T.cl, T.nU, fl_rul _ _ _ _, .ref mm, rfl, mm, C, dm, _, _, rfl, hm, T.cl, T.nD, fl_den _ _ _ _, (by show 3 ≤ sizeLine; decide), fun lp nlp => ?_⟩
          have sN : Same HL (upd HL lp (.lst [.ref rm, .ref um, .ref dm'])) := same_new nlp
          refine ⟨lp, rfl, ⟨_, SqL.of upd_same⟩, ?_⟩
          refine for_list (K := K) (a := lp) (xs := [.ref rm, .ref um, .ref dm']) (fun i σ H' => (∃ x9 x10 x11, σ = [some (.ref sc), some (.ref st), some (.ref b1), some (.ref b2), some (.ref y1), some (.ref y2), some (.ref hb), some (.ref pb), some (.ref mm), x9, x10, x11]) ∧ (∀ a o, ¬ Fm a → HK a = some o → H' a = some o) ∧ H' lp = some (.lst [.ref rm, .ref um, .ref dm']) ∧ ∀ a, a = rm ∨ a = um ∨ a = dm' → ∃ kvs, H' a = some (.dK kvs) ∧ kvs.length ≤ 300 + i)
            ⟨⟨_, _, none, rfl⟩, fun a o na h => sN _ _ (outL a o na h), upd_same, ?_⟩ (fun i σ H' _ hP => SqL.of hP.2.2.1) (fun i x σ H' hx hP => ?_) (fun σ H' hP => ⟨hP.1, hP.2.1⟩)
          · rintro a (rfl | rfl | rfl)
            · exact ⟨_, sN _ _ eRm, by have := bm.rel.2.1; omega⟩
            · exact ⟨_, sN _ _ eUm, by have := bm.rul.2.1; omega⟩
            · exact ⟨_, sN _ _ eDm, by have := bm.den.2.1; omega⟩
          · obtain ⟨⟨x9, x10, x11, rfl⟩, out', elp, h6⟩ := hP
            obtain ⟨a, ha, rfl⟩ : ∃ a, (a = rm ∨ a = um ∨ a = dm') ∧ x = .ref a := by
              have hi : i < 3 := (List.getElem?_eq_some_iff.mp hx).1
              rcases (show i = 0 ∨ i = 1 ∨ i = 2 by omega) with rfl | rfl | rfl
              · exact ⟨rm, .inl rfl, (Option.some.inj hx).symm⟩
              · exact ⟨um, .inr (.inl rfl), (Option.some.inj hx).symm⟩
              · exact ⟨dm', .inr (.inr rfl), (Option.some.inj hx).symm⟩
            have hi : i < 3 := (List.getElem?_eq_some_iff.mp hx).1
            have hFa : Fm a := by
              rcases ha with rfl | rfl | rfl
              · exact bm.fr
              · exact bm.fu
              · exact bm.fd
            obtain ⟨kvs, ek, lk⟩ := h6 a ha
            refine ⟨Nat.zero_le _, fun t nt => ?_⟩
            have s2 : Same H' (upd H' t (.tup [])) := same_new nt
            refine ⟨.ref a, rfl, a, _, rfl, DPut.k (k := Sum.inr "zz") (s2 _ _ ek) (small1000 (by omega)), ⟨_, _, _, rfl⟩, fun c o nc h => ?_, ?_, fun c hc => ?_⟩
            · rw [upd_ne (fun z => nc (by rw [z]; exact hFa))]
              exact s2 _ _ (out' c o nc h)
            · rw [upd_ne (lst_ne elp ek)]
              exact s2 _ _ elp
            · by_cases z : c = a
              · rw [z, upd_same]
                have := length_putK kvs (Sum.inr "zz" : Key) (.ref t)
                exact ⟨_, rfl, by omega⟩
              · obtain ⟨ws, ew, lw⟩ := h6 c hc
                exact ⟨ws, by rw [upd_ne z]; exact s2 _ _ ew, by omega⟩
        · rintro σ HM ⟨⟨x9, x10, x11, rfl⟩, outM⟩
          have smM : Same HH HM := fun a o h => outM a o (stay a o h) (sHK a o h)
          obtain ⟨G8, M8, T8, m8, _, _⟩ := OH.same smM
          obtain ⟨xsM, exM, txM⟩ := (WH.same smM).e1
          exact ⟨.ref y1, rfl, .ref b1, rfl, y1, b1, i1, xsM, G8, M8, rfl, T8, by omega, by omega, exM, txM, fun HN sN => q HN⟩
end
end KD

namespace KD
open PySem PySem.Spec PyProof.Rows L2 KA
/-- a def of the text stands behind the top under its name -/
def DefAt (K : PySem.W.Frag) (x : Str) (st : Stmt) : Prop :=
  ∃ (f : Addr) (od an : Option Addr) (sl : Array (Option Value)) (oc kV dc pm cd ct : Value),
    PySem.W.nsIn K mainGlobals x = some (some (.ref f)) ∧ K.lookup f = some ⟨oc, od, .func (PySem.W.fnOf x x (defArgs st) (defBody st) (defScope st) .none kV dc pm an cd ct), sl⟩ ∧
    PySem.W.codeIn K cd x = true ∧ PySem.W.keepIn K (.ref f) = true
theorem defAt {K : PySem.W.Frag} {x : Str} {st : Stmt} {f : Addr} {od an : Option Addr} {sl : Array (Option Value)} {oc kV dc pm cd ct : Value} (a : PySem.W.nsIn K mainGlobals x = some (some (.ref f)))
    (l : K.lookup f = some ⟨oc, od, .func (PySem.W.fnOf x x (defArgs st) (defBody st) (defScope st) .none kV dc pm an cd ct), sl⟩) (c : PySem.W.codeIn K cd x = true) (k : PySem.W.keepIn K (.ref f) = true) : DefAt K x st :=
  ⟨f, od, an, sl, oc, kV, dc, pm, cd, ct, a, l, c, k⟩
/-- a method of the class -/
def MethAt (K : PySem.W.Frag) (C : Addr) (x q : Str) (st : Stmt) : Prop :=
  ∃ (f : Addr) (od an : Option Addr) (sl : Array (Option Value)) (oc kV dc pm cd ct : Value),
    PySem.W.findIn K (.ref C) x = some (some (.ref f)) ∧ PySem.W.isFn K (.ref f) = true ∧ K.lookup f = some ⟨oc, od, .func (PySem.W.fnOf x q (defArgs st) (defBody st) (defScope st) .none kV dc pm an cd ct), sl⟩ ∧
    PySem.W.codeIn K cd q = true ∧ PySem.W.keepIn K (.ref f) = true
theorem methAt {K : PySem.W.Frag} {C : Addr} {x q : Str} {st : Stmt} {f : Addr} {od an : Option Addr} {sl : Array (Option Value)} {oc kV dc pm cd ct : Value} (a : PySem.W.findIn K (.ref C) x = some (some (.ref f))) (i : PySem.W.isFn K (.ref f) = true)
    (l : K.lookup f = some ⟨oc, od, .func (PySem.W.fnOf x q (defArgs st) (defBody st) (defScope st) .none kV dc pm an cd ct), sl⟩) (c : PySem.W.codeIn K cd q = true) (k : PySem.W.keepIn K (.ref f) = true) : MethAt K C x q st :=
  ⟨f, od, an, sl, oc, kV, dc, pm, cd, ct, a, i, l, c, k⟩
/-- __init__, whose one default is an empty tuple -/
def InitAt (K : PySem.W.Frag) (C : Addr) : Prop :=
  ∃ (f Td Ed : Addr) (od an : Option Addr) (sl : Array (Option Value)) (oc kV dc pm cd ct : Value) (cT : Value) (dT : Option Addr) (nT : Nat) (slT : Array (Option Value)) (dE : Option Addr) (nE : Nat) (slE : Array (Option Value)),
    PySem.W.findIn K (.ref C) "__init__" = some (some (.ref f)) ∧ PySem.W.isFn K (.ref f) = true ∧ K.lookup f = some ⟨oc, od, .func (PySem.W.fnOf "__init__" "State.__init__" (defArgs sInit) (defBody sInit) (defScope sInit) (.ref Td) kV dc pm an cd ct), sl⟩ ∧
    PySem.W.codeIn K cd "State.__init__" = true ∧ PySem.W.keepIn K (.ref f) = true ∧ K.lookup Td = some ⟨cT, dT, .seq #[.ref Ed] nT, slT⟩ ∧ K.lookup Ed = some ⟨.type "tuple", dE, .seq #[] nE, slE⟩
theorem initAt {K : PySem.W.Frag} {C f Td Ed : Addr} {od an : Option Addr} {sl : Array (Option Value)} {oc kV dc pm cd ct : Value} {cT : Value} {dT : Option Addr} {nT : Nat} {slT : Array (Option Value)} {dE : Option Addr} {nE : Nat} {slE : Array (Option Value)}
    (a : PySem.W.findIn K (.ref C) "__init__" = some (some (.ref f))) (i : PySem.W.isFn K (.ref f) = true) (l : K.lookup f = some ⟨oc, od, .func (PySem.W.fnOf "__init__" "State.__init__" (defArgs sInit) (defBody sInit) (defScope sInit) (.ref Td) kV dc pm an cd ct), sl⟩)
    (c : PySem.W.codeIn K cd "State.__init__" = true) (k : PySem.W.keepIn K (.ref f) = true) (t : K.lookup Td = some ⟨cT, dT, .seq #[.ref Ed] nT, slT⟩) (e : K.lookup Ed = some ⟨.type "tuple", dE, .seq #[] nE, slE⟩) : InitAt K C :=
  ⟨f, Td, Ed, od, an, sl, oc, kV, dc, pm, cd, ct, cT, dT, nT, slT, dE, nE, slE, a, i, l, c, k, t, e⟩
section
variable {P : Program} {w : World} {K : PySem.W.Frag} {mg : Str → Option Value} {base h : Heap} {C : Addr}
theorem mk_def {x : Str} {st : Stmt} {ps : List Str} {sp : Sp} {k : Nat} (T : DefAt K x st) (X : K.In h) (G : h.Ns mainGlobals mg)
    (bind : ∀ (kV doc pm : Value) (an : Option Addr) (cdv ct : Value) (us : List Value), us.length = ps.length → bindArgs (PySem.W.fnOf x x (defArgs st) (defBody st) (defScope st) .none kV doc pm an cdv ct) ⟨us, []⟩ = pure (ps.zip us))
    (ok : ∀ (f : Addr) (fd : FuncData), Fun K x x st f fd → FnOk P w K mg base CX0 k f fd ps sp) : Def P w K mg base x k ps sp := by
  obtain ⟨f, od, an, sl, oc, kV, dc, pm, cd, ct, a, l, c, kp⟩ := T
  have F := fun_mk l c kp
  exact ⟨f, _, ok f _ F, PySem.W.mg_of X G a, kp, F.binds bind⟩
theorem mk_meth {x q : Str} {st : Stmt} {ps : List Str} {sp : Sp} {k : Nat} (T : MethAt K C x q st)
    (bind : ∀ (kV doc pm : Value) (an : Option Addr) (cdv ct : Value) (us : List Value), us.length = ps.length → bindArgs (PySem.W.fnOf x q (defArgs st) (defBody st) (defScope st) .none kV doc pm an cdv ct) ⟨us, []⟩ = pure (ps.zip us))
    (ok : ∀ (f : Addr) (fd : FuncData), Fun K x q st f fd → FnOk P w K mg base CX0 k f fd ps sp) : MDef P w K mg base C x k ps sp := by
  obtain ⟨f, od, an, sl, oc, kV, dc, pm, cd, ct, a, i, l, c, kp⟩ := T
  have F := fun_mk l c kp
  exact ⟨f, _, ok f _ F, ⟨a, i, kp⟩, F.binds bind⟩
theorem mk_init (T : InitAt K C) (mkC : PySem.W.makesIn K C = true) (kc : PySem.W.keepIn K (.ref C) = true) (TC : Cs K mg C) (MP : mPut P w K mg base C) : MkSt P w K mg base C := by
  obtain ⟨f, Td, Ed, od, an, sl, oc, kV, dc, pm, cd, ct, cT, dT, nT, slT, dE, nE, slE, a, i, l, c, k, t, e⟩ := T
  have hD : DflV K (.ref Td) [V.ref Ed] := .inr ⟨(fun z => by cases z), Td, _, [.ref Ed], nT, rfl, t, rfl, .cons rfl .nil⟩
  have F : FunD K "__init__" "State.__init__" (defArgs sInit) (defBody sInit) (defScope sInit) [V.ref Ed] [] f _ := ⟨⟨oc, od, .ref Td, kV, dc, pm, an, cd, ct, sl, rfl, l, c, hD, .inl rfl⟩, k⟩
  obtain ⟨ds, v1, b1⟩ := F.binds1 (ps := ["self", "items"]) 1 0 (fun z => by cases z) rfl (fun T2 kV2 doc2 pm2 an2 cdv2 ct2 us its h1 h2 => match us, its, h1, h2 with | [_], [_], _, _ => ⟨_, rfl, rfl⟩)
  obtain ⟨ds2, v2, b2⟩ := F.binds1 (ps := ["self", "items"]) 2 1 (fun z => by cases z) rfl (fun T2 kV2 doc2 pm2 an2 cdv2 ct2 us its h1 h2 => match us, its, h1, h2 with | [_, _], [_], _, _ => ⟨_, rfl, rfl⟩)
  cases v2
  exact ⟨f, _, Ed, ds, ⟨mkC, a, i, kc⟩, ok_init F TC MP, b2, b1, v1, ⟨_, #[], nE, e, rfl, rfl, Nat.zero_le _, .nil⟩⟩
/-- what the top has written, and the built-in names that it has not -/
structure Top (K : PySem.W.Frag) (C : Addr) : Prop where
  cC : PySem.W.nsIn K mainGlobals "State" = some (some (.ref C))
  vk : DefAt K "value_key" sVK
  rk : DefAt K "row_key" sRK
  sr : DefAt K "same_row" sSR
  ko : DefAt K "key_of" sKO
  po : DefAt K "place_of" sPO
  sa : DefAt K "stands_at" sSA
  bt : DefAt K "between" sBt
  next : DefAt K "_law_next" sNext
  sm : DefAt K "_law_same" sSM
  chars : DefAt K "_law_characters" sChars
  val : DefAt K "_law_value" sVal
  row : DefAt K "_law_row" sRow
  name : DefAt K "_law_name" sName
  term : DefAt K "_law_term" sTerm
  terms : DefAt K "_law_terms" sTerms
  lit : DefAt K "_law_literal" sLit
  body : DefAt K "_law_body" sBody
  item : DefAt K "_law_item" sItem
  bf : DefAt K "_law_before" sBF
  or_ : DefAt K "_law_order" sOR
  lk : DefAt K "_law_key" sLK
  lo : DefAt K "_law_key_order" sLO
  pl : DefAt K "_law_placed" sPl
  is_ : DefAt K "_law_items" sIs
  id_ : DefAt K "_law_is_dict" sID
  st : DefAt K "_law_is_state" sSt
  ch : DefAt K "_law_changed" sCh
  cs : DefAt K "_law_changes" sCs
  lb : DefAt K "_law_between" sLB
  law : DefAt K "law" sLaw
  mInit : InitAt K C
  mAll : MethAt K C "all_items" "State.all_items" sAll
  mCopy : MethAt K C "copy" "State.copy" sCopy
  mChange : MethAt K C "change" "State.change" sChange
  mPut : MethAt K C "_put" "State._put" sPut
  mPR : MethAt K C "_put_row" "State._put_row" sPR
  mTake : MethAt K C "_take" "State._take" sTake
  mTR : MethAt K C "_take_row" "State._take_row" sTR
  mFB : MethAt K C "_forget_bare" "State._forget_bare" sFB
  pg : PySem.W.plainGet K C Str.empty = true
  hd : PySem.W.hasDictIn K C = true
  pv : PySem.W.plainOver K C = true
  sat : PySem.W.findIn K (.ref C) "__setattr__" = some (some (.builtin "object.__setattr__"))
  mk_ : PySem.W.makesIn K C = true
  kc : PySem.W.keepIn K (.ref C) = true
  nR : PySem.W.findIn K (.ref C) "relations" = some none
  nF : PySem.W.findIn K (.ref C) "facts" = some none
  nU : PySem.W.findIn K (.ref C) "rules" = some none
  nD : PySem.W.findIn K (.ref C) "denials" = some none
  zlen : PySem.W.nsIn K mainGlobals "len" = some none
  zint : PySem.W.nsIn K mainGlobals "int" = some none
  zisi : PySem.W.nsIn K mainGlobals "isinstance" = some none
  zbool : PySem.W.nsIn K mainGlobals "bool" = some none
  zstr : PySem.W.nsIn K mainGlobals "str" = some none
  ztup : PySem.W.nsIn K mainGlobals "tuple" = some none
  zlst : PySem.W.nsIn K mainGlobals "list" = some none
  zrng : PySem.W.nsIn K mainGlobals "range" = some none
  zmin : PySem.W.nsIn K mainGlobals "min" = some none
  zdict : PySem.W.nsIn K mainGlobals "dict" = some none
  zsort : PySem.W.nsIn K mainGlobals "sorted" = some none
theorem Top.btt (T : Top K C) (X : K.In h) (G : h.Ns mainGlobals mg) : Bt mg :=
  ⟨PySem.W.mg_none_of X G T.zlen, PySem.W.mg_none_of X G T.zint, PySem.W.mg_none_of X G T.zisi, PySem.W.mg_none_of X G T.zbool, PySem.W.mg_none_of X G T.zstr, PySem.W.mg_none_of X G T.ztup,
    PySem.W.mg_none_of X G T.zlst, PySem.W.mg_none_of X G T.zrng, PySem.W.mg_none_of X G T.zmin⟩
theorem Top.cls (T : Top K C) (X : K.In h) (G : h.Ns mainGlobals mg) : Cs K mg C := ⟨⟨T.pg, T.hd, T.pv, T.sat⟩, T.nR, T.nF, T.nU, T.nD, PySem.W.mg_of X G T.cC⟩
theorem Top.ds (T : Top K C) (X : K.In h) (G : h.Ns mainGlobals mg) : Ds P w K mg base C := by
  have B := T.btt X G
  have CC := T.cls X G
  have hdi := PySem.W.mg_none_of X G T.zdict
  have hso := PySem.W.mg_none_of X G T.zsort
  have N : dNext P w K mg base := mk_def T.next X G (fun _ _ _ _ _ _ us hl => match us, hl with | [_, _], _ => rfl) fun f fd F => ok_next F B
  have Cr : Def P w K mg base "_law_characters" 1 [] spChars := mk_def T.chars X G (fun _ _ _ _ _ _ us hl => match us, hl with | [], _ => rfl) fun f fd F => ok_chars F
  have V : dVal P w K mg base := mk_def T.val X G (fun _ _ _ _ _ _ us hl => match us, hl with | [_], _ => rfl) fun f fd F => ok_val F B N Cr
  have R : dRow P w K mg base := mk_def T.row X G (fun _ _ _ _ _ _ us hl => match us, hl with | [_, _], _ => rfl) fun f fd F => ok_row F B V
  have M : dName P w K mg base := mk_def T.name X G (fun _ _ _ _ _ _ us hl => match us, hl with | [_], _ => rfl) fun f fd F => ok_name F N
  have Tm : dTerm P w K mg base := mk_def T.term X G (fun _ _ _ _ _ _ us hl => match us, hl with | [_], _ => rfl) fun f fd F => ok_term F N V M
  have Ts : dTerms P w K mg base := mk_def T.terms X G (fun _ _ _ _ _ _ us hl => match us, hl with | [_], _ => rfl) fun f fd F => ok_terms F B N Tm
  have Lt : dLit P w K mg base := mk_def T.lit X G (fun _ _ _ _ _ _ us hl => match us, hl with | [_], _ => rfl) fun f fd F => ok_lit F N Tm M Ts
  have Bd : dBody P w K mg base := mk_def T.body X G (fun _ _ _ _ _ _ us hl => match us, hl with | [_], _ => rfl) fun f fd F => ok_body F B N Lt
  have I : dItem P w K mg base := mk_def T.item X G (fun _ _ _ _ _ _ us hl => match us, hl with | [_], _ => rfl) fun f fd F => ok_item F N R M Ts Bd
  have VK : Def P w K mg base "value_key" 1 ["value"] spVK := mk_def T.vk X G (fun _ _ _ _ _ _ us hl => match us, hl with | [_], _ => rfl) fun f fd F => ok_vk F B
  have RK : dRK P w K mg base := mk_def T.rk X G (fun _ _ _ _ _ _ us hl => match us, hl with | [_], _ => rfl) fun f fd F => ok_rk F B VK
  have SR : dSR P w K mg base := mk_def T.sr X G (fun _ _ _ _ _ _ us hl => match us, hl with | [_, _], _ => rfl) fun f fd F => ok_sr F RK
  have KO : dKO P w K mg base := mk_def T.ko X G (fun _ _ _ _ _ _ us hl => match us, hl with | [_], _ => rfl) fun f fd F => ok_ko F
  have PO : dPO P w K mg base := mk_def T.po X G (fun _ _ _ _ _ _ us hl => match us, hl with | [_, _], _ => rfl) fun f fd F => ok_po F B RK
  have SA : dSA P w K mg base := mk_def T.sa X G (fun _ _ _ _ _ _ us hl => match us, hl with | [_, _, _], _ => rfl) fun f fd F => ok_sa F B SR
  have BF : dBF P w K mg base := mk_def T.bf X G (fun _ _ _ _ _ _ us hl => match us, hl with | [_, _], _ => rfl) fun f fd F => ok_bf F B
  have OR : dOR P w K mg base := mk_def T.or_ X G (fun _ _ _ _ _ _ us hl => match us, hl with | [_, _], _ => rfl) fun f fd F => ok_or F B BF
  have LK : dLK P w K mg base := mk_def T.lk X G (fun _ _ _ _ _ _ us hl => match us, hl with | [_], _ => rfl) fun f fd F => ok_lk F
  have LO : dLO P w K mg base := mk_def T.lo X G (fun _ _ _ _ _ _ us hl => match us, hl with | [_, _], _ => rfl) fun f fd F => ok_lo F B OR
  have PL : dPl P w K mg base := mk_def T.pl X G (fun _ _ _ _ _ _ us hl => match us, hl with | [_, _], _ => rfl) fun f fd F => ok_pl F LK LO
  have S0 : Def P w K mg base "_law_same" 1 ["actual", "expected"] (spSM 0) := mk_def T.sm X G (fun _ _ _ _ _ _ us hl => match us, hl with | [_, _], _ => rfl) fun f fd F => ok_sm F B 0 (.inl rfl)
  have Sn : ∀ n, Def P w K mg base "_law_same" (n + 1) ["actual", "expected"] (spSM n) := fun n => by
    induction n with
    | zero => exact S0
    | succ n ih => exact mk_def T.sm X G (fun _ _ _ _ _ _ us hl => match us, hl with | [_, _], _ => rfl) fun f fd F => ok_sm F B (n + 1) (.inr ⟨n, rfl, ih⟩)
  have SM : dSame P w K mg base := mk_def T.sm X G (fun _ _ _ _ _ _ us hl => match us, hl with | [_, _], _ => rfl) fun f fd F => by
    have a : FnOk P w K mg base CX0 9 f fd ["actual", "expected"] (spSM 7) := (ok_sm F B 7 (.inr ⟨6, rfl, Sn 6⟩)).mono (by decide)
    have b : FnOk P w K mg base CX0 9 f fd ["actual", "expected"] (spSL 7) := ok_sl F B 7 (Sn 7)
    exact ⟨fun vs H Q E h => h.elim (a.len vs H Q E) (b.len vs H Q E), fun A outer s H args us vs Q E hr e0 bt r h => h.elim (a.run A outer s H args us vs Q E hr e0 bt r) (b.run A outer s H args us vs Q E hr e0 bt r)⟩
  -- the methods
  have PR : KD.mPR P w K mg base C := mk_meth T.mPR (fun _ _ _ _ _ _ us hl => match us, hl with | [_, _, _], _ => rfl) fun f fd F => ok_pr F CC PO SA
  have PU : KD.mPut P w K mg base C := mk_meth T.mPut (fun _ _ _ _ _ _ us hl => match us, hl with | [_, _], _ => rfl) fun f fd F => ok_put F CC PR
  have FB : KD.mFB P w K mg base C := mk_meth T.mFB (fun _ _ _ _ _ _ us hl => match us, hl with | [_, _], _ => rfl) fun f fd F => ok_fb F CC
  have TR : KD.mTR P w K mg base C := mk_meth T.mTR (fun _ _ _ _ _ _ us hl => match us, hl with | [_, _, _], _ => rfl) fun f fd F => ok_tr F CC PO SA FB
  have TK : KD.mTake P w K mg base C := mk_meth T.mTake (fun _ _ _ _ _ _ us hl => match us, hl with | [_, _], _ => rfl) fun f fd F => ok_take F CC TR FB
  have MK : MkSt P w K mg base C := mk_init T.mInit T.mk_ T.kc CC PU
  have CP : KD.mCopy P w K mg base C := mk_meth T.mCopy (fun _ _ _ _ _ _ us hl => match us, hl with | [_], _ => rfl) fun f fd F => ok_copy F CC B hdi MK
  have CG : MDef P w K mg base C "change" 10 ["self", "changes"] (spChange C) := mk_meth T.mChange (fun _ _ _ _ _ _ us hl => match us, hl with | [_, _], _ => rfl) fun f fd F => ok_change F CC CP PU TK
  have AL : KD.mAll P w K mg base C := mk_meth T.mAll (fun _ _ _ _ _ _ us hl => match us, hl with | [_], _ => rfl) fun f fd F => ok_all F CC hso
  -- the law's own
  have BT : Def P w K mg base "between" 2 ["first", "second"] (spBt C) := mk_def T.bt X G (fun _ _ _ _ _ _ us hl => match us, hl with | [_, _], _ => rfl) fun f fd F => ok_bt F CC AL KO
  have IS : Def P w K mg base "_law_items" 8 ["state", "most"] spIs := mk_def T.is_ X G (fun _ _ _ _ _ _ us hl => match us, hl with | [_, _], _ => rfl) fun f fd F => ok_is F B N I PL
  have ID : dID P w K mg base := mk_def T.id_ X G (fun _ _ _ _ _ _ us hl => match us, hl with | [_, _], _ => rfl) fun f fd F => ok_id F B hdi SM
  have ST : Def P w K mg base "_law_is_state" 11 ["actual", "ordered"] (spSt C) := mk_def T.st X G (fun _ _ _ _ _ _ us hl => match us, hl with | [_, _], _ => rfl) fun f fd F => ok_st F CC ID SM AL
  have CH : Def P w K mg base "_law_changed" 10 ["ordered", "changes"] spCh := mk_def T.ch X G (fun _ _ _ _ _ _ us hl => match us, hl with | [_, _], _ => rfl) fun f fd F => ok_chd F PL LK SM
  have CS : Def P w K mg base "_law_changes" 8 ["state", "ordered"] spCs := mk_def T.cs X G (fun _ _ _ _ _ _ us hl => match us, hl with | [_, _], _ => rfl) fun f fd F => ok_cs F B N I LK
  have LB : Def P w K mg base "_law_between" 2 ["first", "second"] spLB := mk_def T.lb X G (fun _ _ _ _ _ _ us hl => match us, hl with | [_, _], _ => rfl) fun f fd F => ok_lb F LK
  exact ⟨N, IS, CS, CH, LB, SM, ST, BT, MK, CG⟩
theorem all_mk {l : PySem.W.OpenLaw} {fa : Addr} (T : Top K C) (X : K.In h) (G : h.Ns mainGlobals mg) (hfa : mg "law" = some (.ref fa)) :
    ∃ fd : FuncData, (∀ (s : Shared) (v : Value), BindsTo s fd ⟨[v], []⟩ [("script", v)]) ∧ ∀ base : Heap, K.In base → base.Ns mainGlobals mg → FnOk l.prog w K mg base CX0 12 fa fd ["script"] (spLaw K) := by
  obtain ⟨f, od, an, sl, oc, kV, dc, pm, cd, ct, a, lk, c, kp⟩ := T.law
  have e := hfa.symm.trans (PySem.W.mg_of X G a)
  cases e
  have F := fun_mk lk c kp
  exact ⟨_, fun s v => .of_eq rfl, fun base _ _ => ok_law F (T.btt X G) (T.cls X G) (T.ds X G)⟩
end
end KD
open PySem PySem.W PyProof.Rows
set_option maxHeartbeats 0 in
theorem PySem.Challenge.cw_rulestead_k03_changes_holds : PySem.Challenge.rw_rulestead_k03_changes.Holds := by
  w_on; o_law; k_head; (case hw => w_witness2)
  k_fill
  refine L2.walk_of (l := PySem.Challenge.rw_rulestead_k03_changes) (n := 63) (k := 12) (x := "script") (CX := fun _ => L2.CX0) (sp := fun w => KD.spLaw _) rfl (by decide) rfl ⟨rfl, by decide, by decide⟩ (fun w h Y => PySem.W.kIn_of Y) ?F (fun _ _ a ns hl _ hS => ⟨a, ns, rfl, hS, hl, fun _ => rfl⟩) (fun _ _ _ _ _ h => h)
  case F =>
    intro w mg fa h KX G hmg
    refine' KD.all_mk ?T KX G hmg
    case T =>
      constructor
      all_goals first
        | k_is
        | (refine' KD.defAt ?a ?l ?c ?k; (case a => k_is); (case l => k_is); (case c => k_is); (case k => k_is))
        | (refine' KD.methAt ?a ?i ?l ?c ?k; (case a => k_is); (case i => k_is); (case l => k_is); (case c => k_is); (case k => k_is))
        | (refine' KD.initAt ?a ?i ?l ?c ?k ?t ?e; (case a => k_is); (case i => k_is); (case l => k_is); (case c => k_is); (case k => k_is); (case t => k_is); (case e => k_is))

