import PyProof.Rows.All
import Wide.All
import OpenK.AllK
import Wide.FinOn
import HandS.Base
import HandS.Call
import HandS.List
import HandS.Comp
import HandS.Ends
import KE.DataEq
import KE.LtSeq
import HandS.ForMost
import HandS.IsInst
import HandS.Wide
import HandS.TupAny
import HandS.Codes
import HandS.RevRange
import HandS.Walk
import HandS.More
import HandS.Sort
import PyProof.Rows.Range3
import HandS.ForExc
import HandS.ExcIs
import HandS.DictComp
import HandS.Iter
import HandS.Zip
import HandS.Dict
import PyProof.MeetsIn
import PyProof.DictUpdate
import HandS.Style
import HandS.TryOnly
import PySem.Challenge.RW_rulestead_k06_disk_keeps_what_was_synced
set_option Elab.async false
set_option linter.all false
set_option maxRecDepth 100000
set_option maxHeartbeats 8000000
/-! Tuples compared by < and >, where only the first pair that differs need be comparable. -/
namespace KA
open PySem PySem.SeqAt
open PySem.AutoSeq1 (wpAny_loadPart')
open PySem.MeetsSeq PySem.MeetsSeq2 PySem.MeetsSeq3

/-- u op v gives k, nothing changes -/
def Rc (op : CmpOp) (A : Around) (s : Shared) (u v : Value) (k : Bool) : Prop :=
  ∀ (prog : Program) (w : World) (E : Value → Shared → Prop) (Q : Value → Shared → Prop), Q (.bool k) s → wpAny (model prog w) A (richCompare op u v) Q E s
theorem lt_mixed (p q : Addr) (as bs : Array Value) (m m2 : Nat) (da db : Option Addr) (sa sb : Array (Option Value)) (e r : Nat → Bool) :
    Meets (Builtin.«tuple.__lt__» ⟨[.ref p, .ref q], []⟩)
      (fun A R s => s.heap.get? p = some { cls := .type "tuple", dict := da, data := .seq as m, slots := sa } ∧ s.heap.get? q = some { cls := .type "tuple", dict := db, data := .seq bs m2, slots := sb } ∧
        (∀ j (h1 : j < as.size) (h2 : j < bs.size), EqAt A.in1 s as[j] bs[j] (e j)) ∧
        (∀ j (h1 : j < as.size) (h2 : j < bs.size), (∀ i, i < j → e i = true) → e j = false → Rc .Lt A.in1 s as[j] bs[j] (r j)) ∧
        R (.ok (.ret (.bool (firstLt e r (decide (as.size < bs.size)) (List.range (min as.size bs.size)))))) s) :=
  .of_wp fun prog w A R s hyp => by
    obtain ⟨hp, gg, dr, tks, ox⟩ := s
    obtain ⟨gp, gq, heq, hrc, hR0⟩ := hyp
    have isT := AutoSeq1.sub_tuple_tuple
    have zl : (as.toList.zip bs.toList).length = min as.size bs.size := by simp
    wp_walk using wpAny_loadPart' gp, wpAny_loadPart' gq, wpAny_forIn_list _ (fun rem st s' => st.1 = none ∧ s' = ⟨hp, gg, dr, tks, ox⟩ ∧ ∃ i, (∀ x, x < i → e x = true) ∧ rem = (as.toList.zip bs.toList).drop i ∧
      R (.ok (.ret (.bool (firstLt e r (decide (as.size < bs.size)) ((List.range (min as.size bs.size)).drop i))))) ⟨hp, gg, dr, tks, ox⟩) _
    case turn =>
      rintro ⟨u, v⟩ rem st s' ⟨st1, rfl, i, same, hz, hR⟩
      have il : i < (as.toList.zip bs.toList).length := by
        rcases Nat.lt_or_ge i (as.toList.zip bs.toList).length with c | c
        · exact c
        · rw [List.drop_of_length_le c] at hz
          cases hz
      have im : i < min as.size bs.size := zl ▸ il
      have ia : i < as.size := Nat.lt_of_lt_of_le im (Nat.min_le_left _ _)
      have ib : i < bs.size := Nat.lt_of_lt_of_le im (Nat.min_le_right _ _)
      rw [List.drop_eq_getElem_cons il] at hz
      injection hz with huv hrem
      have eu : u = as[i] := by
        have t := congrArg Prod.fst huv
        simpa using t
      have ev : v = bs[i] := by
        have t := congrArg Prod.snd huv
        simpa using t
      subst eu ev
      have hcut : (List.range (min as.size bs.size)).drop i = i :: (List.range (min as.size bs.size)).drop (i + 1) := by
        simp [List.drop_eq_getElem_cons, im]
      rw [hcut] at hR
      refine wpAny_bind (heq i ia ib prog w _ _ ?_)
      cases ei : e i with
      | true =>
        rw [firstLt_yes ei] at hR
        wp_walk
        refine ⟨rfl, rfl, i + 1, fun x hx => ?_, hrem, hR⟩
        rcases Nat.lt_or_ge x i with c | c
        · exact same x c
        · rw [show x = i by omega]
          exact ei
      | false =>
        rw [firstLt_no ei] at hR
        have step := hrc i ia ib same ei prog w
        wp_walk using step
        exact ⟨_, rfl, by simpa using hR⟩
    case fin =>
      rintro ⟨c1, c2⟩ s' ⟨st1, rfl, i, same, hz, hR⟩
      simp only at st1
      subst st1
      have hge : min as.size bs.size ≤ i := by
        rcases Nat.lt_or_ge i (as.toList.zip bs.toList).length with c | c
        · rw [List.drop_eq_getElem_cons c] at hz
          cases hz
        · exact zl ▸ c
      rw [List.drop_of_length_le (by simpa using hge)] at hR
      wp_walk
      exact ⟨_, rfl, by simpa [Builtin.Tuple.tupleCompareSizes, firstLt] using hR⟩
    case h =>
      exact ⟨rfl, rfl, 0, fun x hx => absurd hx (Nat.not_lt_zero x), rfl, by simpa using hR0⟩
theorem gt_mixed (p q : Addr) (as bs : Array Value) (m m2 : Nat) (da db : Option Addr) (sa sb : Array (Option Value)) (e r : Nat → Bool) :
    Meets (Builtin.«tuple.__gt__» ⟨[.ref p, .ref q], []⟩)
      (fun A R s => s.heap.get? p = some { cls := .type "tuple", dict := da, data := .seq as m, slots := sa } ∧ s.heap.get? q = some { cls := .type "tuple", dict := db, data := .seq bs m2, slots := sb } ∧
        (∀ j (h1 : j < as.size) (h2 : j < bs.size), EqAt A.in1 s as[j] bs[j] (e j)) ∧
        (∀ j (h1 : j < as.size) (h2 : j < bs.size), (∀ i, i < j → e i = true) → e j = false → Rc .Gt A.in1 s as[j] bs[j] (r j)) ∧
        R (.ok (.ret (.bool (firstLt e r (decide (as.size > bs.size)) (List.range (min as.size bs.size)))))) s) :=
  .of_wp fun prog w A R s hyp => by
    obtain ⟨hp, gg, dr, tks, ox⟩ := s
    obtain ⟨gp, gq, heq, hrc, hR0⟩ := hyp
    have isT := AutoSeq1.sub_tuple_tuple
    have zl : (as.toList.zip bs.toList).length = min as.size bs.size := by simp
    wp_walk using wpAny_loadPart' gp, wpAny_loadPart' gq, wpAny_forIn_list _ (fun rem st s' => st.1 = none ∧ s' = ⟨hp, gg, dr, tks, ox⟩ ∧ ∃ i, (∀ x, x < i → e x = true) ∧ rem = (as.toList.zip bs.toList).drop i ∧
      R (.ok (.ret (.bool (firstLt e r (decide (as.size > bs.size)) ((List.range (min as.size bs.size)).drop i))))) ⟨hp, gg, dr, tks, ox⟩) _
    case turn =>
      rintro ⟨u, v⟩ rem st s' ⟨st1, rfl, i, same, hz, hR⟩
      have il : i < (as.toList.zip bs.toList).length := by
        rcases Nat.lt_or_ge i (as.toList.zip bs.toList).length with c | c
        · exact c
        · rw [List.drop_of_length_le c] at hz
          cases hz
      have im : i < min as.size bs.size := zl ▸ il
      have ia : i < as.size := Nat.lt_of_lt_of_le im (Nat.min_le_left _ _)
      have ib : i < bs.size := Nat.lt_of_lt_of_le im (Nat.min_le_right _ _)
      rw [List.drop_eq_getElem_cons il] at hz
      injection hz with huv hrem
      have eu : u = as[i] := by
        have t := congrArg Prod.fst huv
        simpa using t
      have ev : v = bs[i] := by
        have t := congrArg Prod.snd huv
        simpa using t
      subst eu ev
      have hcut : (List.range (min as.size bs.size)).drop i = i :: (List.range (min as.size bs.size)).drop (i + 1) := by
        simp [List.drop_eq_getElem_cons, im]
      rw [hcut] at hR
      refine wpAny_bind (heq i ia ib prog w _ _ ?_)
      cases ei : e i with
      | true =>
        rw [firstLt_yes ei] at hR
        wp_walk
        refine ⟨rfl, rfl, i + 1, fun x hx => ?_, hrem, hR⟩
        rcases Nat.lt_or_ge x i with c | c
        · exact same x c
        · rw [show x = i by omega]
          exact ei
      | false =>
        rw [firstLt_no ei] at hR
        have step := hrc i ia ib same ei prog w
        wp_walk using step
        exact ⟨_, rfl, by simpa using hR⟩
    case fin =>
      rintro ⟨c1, c2⟩ s' ⟨st1, rfl, i, same, hz, hR⟩
      simp only at st1
      subst st1
      have hge : min as.size bs.size ≤ i := by
        rcases Nat.lt_or_ge i (as.toList.zip bs.toList).length with c | c
        · rw [List.drop_eq_getElem_cons c] at hz
          cases hz
        · exact zl ▸ c
      rw [List.drop_of_length_le (by simpa using hge)] at hR
      wp_walk
      exact ⟨_, rfl, by simpa [Builtin.Tuple.tupleCompareSizes, firstLt] using hR⟩
    case h =>
      exact ⟨rfl, rfl, 0, fun x hx => absurd hx (Nat.not_lt_zero x), rfl, by simpa using hR0⟩
section
variable {A : Around} {s : Shared} {p q : Addr} {as bs : Array Value} {e r : Nat → Bool}
theorem rc_lt_tups (hp : s.heap.IsTuple p as) (hq : s.heap.IsTuple q bs) (hu : A.units < cLine) (he : ∀ j (h1 : j < as.size) (h2 : j < bs.size), EqAt A.in1 s as[j] bs[j] (e j))
    (hr : ∀ j (h1 : j < as.size) (h2 : j < bs.size), (∀ i, i < j → e i = true) → e j = false → Rc .Lt A.in1 s as[j] bs[j] (r j)) :
    Rc .Lt A s (.ref p) (.ref q) (firstLt e r (decide (as.size < bs.size)) (List.range (min as.size bs.size))) := fun prog w E Q k => by
  obtain ⟨⟨c1, d1, x1, z1⟩, o1, k1, n1, w1⟩ := id hp
  obtain ⟨⟨c2, d2, x2, z2⟩, o2, k2, n2, w2⟩ := id hq
  simp only at k1 w1 k2 w2
  subst k1 w1 k2 w2
  refine richCompare_meets_room (op := .Lt) ⟨_, o1, rfl⟩ ⟨_, o2, rfl⟩ F.slot_tuple_lt F.entry_tuple_lt (F.args_tuple_lt_2 _ _) (lt_mixed p q as bs n1 n2 d1 d2 z1 z2 e r) ?_ hu
  exact ⟨o1, o2, he, hr, ⟨(fun x => nomatch x), k⟩⟩
theorem rc_gt_tups (hp : s.heap.IsTuple p as) (hq : s.heap.IsTuple q bs) (hu : A.units < cLine) (he : ∀ j (h1 : j < as.size) (h2 : j < bs.size), EqAt A.in1 s as[j] bs[j] (e j))
    (hr : ∀ j (h1 : j < as.size) (h2 : j < bs.size), (∀ i, i < j → e i = true) → e j = false → Rc .Gt A.in1 s as[j] bs[j] (r j)) :
    Rc .Gt A s (.ref p) (.ref q) (firstLt e r (decide (as.size > bs.size)) (List.range (min as.size bs.size))) := fun prog w E Q k => by
  obtain ⟨⟨c1, d1, x1, z1⟩, o1, k1, n1, w1⟩ := id hp
  obtain ⟨⟨c2, d2, x2, z2⟩, o2, k2, n2, w2⟩ := id hq
  simp only at k1 w1 k2 w2
  subst k1 w1 k2 w2
  refine richCompare_meets_room (op := .Gt) ⟨_, o1, rfl⟩ ⟨_, o2, rfl⟩ F.slot_tuple_gt F.entry_tuple_gt (F.args_tuple_gt_2 _ _) (gt_mixed p q as bs n1 n2 d1 d2 z1 z2 e r) ?_ hu
  exact ⟨o1, o2, he, hr, ⟨(fun x => nomatch x), k⟩⟩
end
end KA

/-! < and > of data whose items may be of unlike kinds behind the first difference. -/
namespace KA
open PySem PySem.SeqAt
mutual
/-- x < y as Python says; none: not comparable -/
def dlt : PyData → PyData → Option Bool
  | .int a, .int b => some (decide (a < b))
  | .str a, .str b => some (decide (a.cps.toList < b.cps.toList))
  | .tuple xs, .tuple ys => dltAll xs ys
  | _, _ => none
def dltAll : List PyData → List PyData → Option Bool
  | [], [] => some false
  | [], _ :: _ => some true
  | _ :: _, [] => some false
  | x :: xs, y :: ys => if PyData.eqv x y = true then dltAll xs ys else dlt x y
end
mutual
def dgt : PyData → PyData → Option Bool
  | .int a, .int b => some (decide (a > b))
  | .str a, .str b => some (decide (b.cps.toList < a.cps.toList))
  | .tuple xs, .tuple ys => dgtAll xs ys
  | _, _ => none
def dgtAll : List PyData → List PyData → Option Bool
  | [], [] => some false
  | [], _ :: _ => some false
  | _ :: _, [] => some true
  | x :: xs, y :: ys => if PyData.eqv x y = true then dgtAll xs ys else dgt x y
end
/-- what the first unequal pair gives, by place -/
def rAt (f : PyData → PyData → Option Bool) (xs ys : List PyData) (j : Nat) : Bool :=
  match xs[j]?, ys[j]? with
  | some x, some y => (f x y).getD false
  | _, _ => false
theorem scan_succ (e r : Nat → Bool) (z : Bool) : ∀ l : List Nat, firstLt e r z (l.map (· + 1)) = firstLt (fun j => e (j + 1)) (fun j => r (j + 1)) z l
  | [] => rfl
  | j :: t => by
    rw [List.map_cons]
    show (if e (j + 1) = true then firstLt e r z (t.map (· + 1)) else r (j + 1)) = _
    rw [scan_succ e r z t]
    rfl
theorem scan_lt : ∀ (xs ys : List PyData) (k : Bool), dltAll xs ys = some k → firstLt (pairEq xs ys) (rAt dlt xs ys) (decide (xs.length < ys.length)) (List.range (min xs.length ys.length)) = k
  | [], [], k, h => by
    rw [dltAll] at h
    exact (Option.some.inj h)
  | [], y :: ys, k, h => by
    rw [dltAll] at h
    rw [← Option.some.inj h]
    simp [firstLt]
  | x :: xs, [], k, h => by
    rw [dltAll] at h
    rw [← Option.some.inj h]
    simp [firstLt]
  | x :: xs, y :: ys, k, h => by
    rw [dltAll] at h
    have em : min (x :: xs).length (y :: ys).length = min xs.length ys.length + 1 := by
      rw [List.length_cons, List.length_cons]
      omega
    rw [em, List.range_succ_eq_map]
    by_cases hxy : PyData.eqv x y = true
    · rw [if_pos hxy] at h
      rw [firstLt_yes (show pairEq (x :: xs) (y :: ys) 0 = true from hxy), scan_succ, ← scan_lt xs ys k h]
      simp only [List.length_cons, Nat.add_lt_add_iff_right]
      rfl
    · rw [if_neg hxy] at h
      have hf : PyData.eqv x y = false := by
        cases c : PyData.eqv x y
        · rfl
        · exact absurd c hxy
      rw [firstLt_no (show pairEq (x :: xs) (y :: ys) 0 = false from hf)]
      show (dlt x y).getD false = k
      rw [h]
      rfl
theorem scan_gt : ∀ (xs ys : List PyData) (k : Bool), dgtAll xs ys = some k → firstLt (pairEq xs ys) (rAt dgt xs ys) (decide (xs.length > ys.length)) (List.range (min xs.length ys.length)) = k
  | [], [], k, h => by
    rw [dgtAll] at h
    exact (Option.some.inj h)
  | [], y :: ys, k, h => by
    rw [dgtAll] at h
    rw [← Option.some.inj h]
    simp [firstLt]
  | x :: xs, [], k, h => by
    rw [dgtAll] at h
    rw [← Option.some.inj h]
    simp [firstLt]
  | x :: xs, y :: ys, k, h => by
    rw [dgtAll] at h
    have em : min (x :: xs).length (y :: ys).length = min xs.length ys.length + 1 := by
      rw [List.length_cons, List.length_cons]
      omega
    rw [em, List.range_succ_eq_map]
    by_cases hxy : PyData.eqv x y = true
    · rw [if_pos hxy] at h
      rw [firstLt_yes (show pairEq (x :: xs) (y :: ys) 0 = true from hxy), scan_succ, ← scan_gt xs ys k h]
      simp only [List.length_cons, gt_iff_lt, Nat.add_lt_add_iff_right]
      rfl
    · rw [if_neg hxy] at h
      have hf : PyData.eqv x y = false := by
        cases c : PyData.eqv x y
        · rfl
        · exact absurd c hxy
      rw [firstLt_no (show pairEq (x :: xs) (y :: ys) 0 = false from hf)]
      show (dgt x y).getD false = k
      rw [h]
      rfl
mutual
theorem rc_lt : ∀ (d e : PyData) (k : Bool) (A : Around) (s : Shared) (a b : Value) (as bs : List Addr), Reads s.heap a d as → Reads s.heap b e bs → d.plain = true → e.plain = true → dlt d e = some k →
    A.units + min d.depth e.depth < cLine → Rc .Lt A s a b k
  | .int x, e, k, A, s, a, b, as, bs, ra, rb, pd, pe, h, hu => by
    cases e with
    | int y =>
      cases ra
      cases rb
      intro prog w E Q hq
      rw [dlt] at h
      cases h
      exact P.lt_int hq
    | _ => exact absurd h (by simp [dlt])
  | .str x, e, k, A, s, a, b, as, bs, ra, rb, pd, pe, h, hu => by
    cases e with
    | str y =>
      cases ra
      cases rb
      intro prog w E Q hq
      rw [dlt] at h
      cases h
      exact P.lt_str hq
    | _ => exact absurd h (by simp [dlt])
  | .tuple xs, e, k, A, s, a, b, as, bs, ra, rb, pd, pe, h, hu => by
    cases e with
    | tuple ys =>
      rw [dlt] at h
      cases ra with
      | @tuple l o vs n _ as1 h1 h2 h3 h4 =>
        cases rb with
        | @tuple l2 o2 vs2 n2 _ bs1 k1 k2 k3 k4 =>
          have z1 : vs.size = xs.length := by simpa using ReadsAll.length _ _ _ h4
          have z2 : vs2.size = ys.length := by simpa using ReadsAll.length _ _ _ k4
          have px : PyData.plainAll xs = true := pd
          have py : PyData.plainAll ys = true := pe
          have q := rc_lt_tups (A := A) (s := s) (e := pairEq xs ys) (r := rAt dlt xs ys) ⟨_, h1, h2, _, h3⟩ ⟨_, k1, k2, _, k3⟩ (room_here hu) (fun j j1 j2 => by
            have t := eqAt_plainAll xs ys A.in1 s vs.toList vs2.toList _ _ h4 k4 px py (room_in hu) j (by simpa using j1) (by simpa using j2)
            simpa using t) (fun j j1 j2 hb hj => by
            have t := rc_ltAll xs ys k A.in1 s vs.toList vs2.toList _ _ h4 k4 px py h (room_in hu) j (by simpa using j1) (by simpa using j2) hb hj
            simpa using t)
          rw [z1, z2, scan_lt xs ys k h] at q
          exact q
    | _ => exact absurd h (by simp [dlt])
  | .none, e, k, _, _, _, _, _, _, _, _, _, _, h, _ => absurd h (by cases e <;> simp [dlt])
  | .bool _, e, k, _, _, _, _, _, _, _, _, _, _, h, _ => absurd h (by cases e <;> simp [dlt])
  | .list _, e, k, _, _, _, _, _, _, _, _, _, _, h, _ => absurd h (by cases e <;> simp [dlt])
  | .dict _, e, k, _, _, _, _, _, _, _, _, _, _, h, _ => absurd h (by cases e <;> simp [dlt])
theorem rc_ltAll : ∀ (xs ys : List PyData) (k : Bool) (A : Around) (s : Shared) (vs ws : List Value) (as bs : List Addr), ReadsAll s.heap vs xs as → ReadsAll s.heap ws ys bs → PyData.plainAll xs = true → PyData.plainAll ys = true →
    dltAll xs ys = some k → A.units + min (PyData.depthAll xs) (PyData.depthAll ys) < cLine → ∀ j (h1 : j < vs.length) (h2 : j < ws.length), (∀ i, i < j → pairEq xs ys i = true) → pairEq xs ys j = false →
    Rc .Lt A s vs[j] ws[j] (rAt dlt xs ys j)
  | [], _, _, _, _, _, _, _, _, ra, _, _, _, _, _, j, h1, _, _, _ => by
    cases ra
    exact absurd h1 (Nat.not_lt_zero _)
  | _ :: _, [], _, _, _, _, _, _, _, _, rb, _, _, _, _, j, _, h2, _, _ => by
    cases rb
    exact absurd h2 (Nat.not_lt_zero _)
  | x :: xs, y :: ys, k, A, s, _, _, _, _, ra, rb, pa, pb, h, hu, j, h1, h2, hb, hj => by
    have pa2 : x.plain = true ∧ PyData.plainAll xs = true := by simpa [PyData.plainAll] using pa
    have pb2 : y.plain = true ∧ PyData.plainAll ys = true := by simpa [PyData.plainAll] using pb
    rw [dltAll] at h
    cases ra with
    | cons r rs =>
      cases rb with
      | cons t ts =>
        cases j with
        | zero =>
          have hf : PyData.eqv x y = false := hj
          rw [if_neg (by rw [hf]; exact Bool.false_ne_true)] at h
          have q := rc_lt x y k A s _ _ _ _ r t pa2.1 pb2.1 h (room_head hu)
          have ek : rAt dlt (x :: xs) (y :: ys) 0 = k := by
            show (dlt x y).getD false = k
            rw [h]
            rfl
          rw [ek]
          exact q
        | succ j =>
          have ht : PyData.eqv x y = true := hb 0 (Nat.zero_lt_succ j)
          rw [if_pos ht] at h
          exact rc_ltAll xs ys k A s _ _ _ _ rs ts pa2.2 pb2.2 h (room_tail hu) j (Nat.lt_of_succ_lt_succ h1) (Nat.lt_of_succ_lt_succ h2) (fun i hi => hb (i + 1) (Nat.succ_lt_succ hi)) hj
end
mutual
theorem rc_gt : ∀ (d e : PyData) (k : Bool) (A : Around) (s : Shared) (a b : Value) (as bs : List Addr), Reads s.heap a d as → Reads s.heap b e bs → d.plain = true → e.plain = true → dgt d e = some k →
    A.units + min d.depth e.depth < cLine → Rc .Gt A s a b k
  | .int x, e, k, A, s, a, b, as, bs, ra, rb, pd, pe, h, hu => by
    cases e with
    | int y =>
      cases ra
      cases rb
      intro prog w E Q hq
      rw [dgt] at h
      cases h
      exact P.gt_int hq
    | _ => exact absurd h (by simp [dgt])
  | .str x, e, k, A, s, a, b, as, bs, ra, rb, pd, pe, h, hu => by
    cases e with
    | str y =>
      cases ra
      cases rb
      intro prog w E Q hq
      rw [dgt] at h
      cases h
      exact P.gt_str hq
    | _ => exact absurd h (by simp [dgt])
  | .tuple xs, e, k, A, s, a, b, as, bs, ra, rb, pd, pe, h, hu => by
    cases e with
    | tuple ys =>
      rw [dgt] at h
      cases ra with
      | @tuple l o vs n _ as1 h1 h2 h3 h4 =>
        cases rb with
        | @tuple l2 o2 vs2 n2 _ bs1 k1 k2 k3 k4 =>
          have z1 : vs.size = xs.length := by simpa using ReadsAll.length _ _ _ h4
          have z2 : vs2.size = ys.length := by simpa using ReadsAll.length _ _ _ k4
          have px : PyData.plainAll xs = true := pd
          have py : PyData.plainAll ys = true := pe
          have q := rc_gt_tups (A := A) (s := s) (e := pairEq xs ys) (r := rAt dgt xs ys) ⟨_, h1, h2, _, h3⟩ ⟨_, k1, k2, _, k3⟩ (room_here hu) (fun j j1 j2 => by
            have t := eqAt_plainAll xs ys A.in1 s vs.toList vs2.toList _ _ h4 k4 px py (room_in hu) j (by simpa using j1) (by simpa using j2)
            simpa using t) (fun j j1 j2 hb hj => by
            have t := rc_gtAll xs ys k A.in1 s vs.toList vs2.toList _ _ h4 k4 px py h (room_in hu) j (by simpa using j1) (by simpa using j2) hb hj
            simpa using t)
          rw [z1, z2, scan_gt xs ys k h] at q
          exact q
    | _ => exact absurd h (by simp [dgt])
  | .none, e, k, _, _, _, _, _, _, _, _, _, _, h, _ => absurd h (by cases e <;> simp [dgt])
  | .bool _, e, k, _, _, _, _, _, _, _, _, _, _, h, _ => absurd h (by cases e <;> simp [dgt])
  | .list _, e, k, _, _, _, _, _, _, _, _, _, _, h, _ => absurd h (by cases e <;> simp [dgt])
  | .dict _, e, k, _, _, _, _, _, _, _, _, _, _, h, _ => absurd h (by cases e <;> simp [dgt])
theorem rc_gtAll : ∀ (xs ys : List PyData) (k : Bool) (A : Around) (s : Shared) (vs ws : List Value) (as bs : List Addr), ReadsAll s.heap vs xs as → ReadsAll s.heap ws ys bs → PyData.plainAll xs = true → PyData.plainAll ys = true →
    dgtAll xs ys = some k → A.units + min (PyData.depthAll xs) (PyData.depthAll ys) < cLine → ∀ j (h1 : j < vs.length) (h2 : j < ws.length), (∀ i, i < j → pairEq xs ys i = true) → pairEq xs ys j = false →
    Rc .Gt A s vs[j] ws[j] (rAt dgt xs ys j)
  | [], _, _, _, _, _, _, _, _, ra, _, _, _, _, _, j, h1, _, _, _ => by
    cases ra
    exact absurd h1 (Nat.not_lt_zero _)
  | _ :: _, [], _, _, _, _, _, _, _, _, rb, _, _, _, _, j, _, h2, _, _ => by
    cases rb
    exact absurd h2 (Nat.not_lt_zero _)
  | x :: xs, y :: ys, k, A, s, _, _, _, _, ra, rb, pa, pb, h, hu, j, h1, h2, hb, hj => by
    have pa2 : x.plain = true ∧ PyData.plainAll xs = true := by simpa [PyData.plainAll] using pa
    have pb2 : y.plain = true ∧ PyData.plainAll ys = true := by simpa [PyData.plainAll] using pb
    rw [dgtAll] at h
    cases ra with
    | cons r rs =>
      cases rb with
      | cons t ts =>
        cases j with
        | zero =>
          have hf : PyData.eqv x y = false := hj
          rw [if_neg (by rw [hf]; exact Bool.false_ne_true)] at h
          have q := rc_gt x y k A s _ _ _ _ r t pa2.1 pb2.1 h (room_head hu)
          have ek : rAt dgt (x :: xs) (y :: ys) 0 = k := by
            show (dgt x y).getD false = k
            rw [h]
            rfl
          rw [ek]
          exact q
        | succ j =>
          have ht : PyData.eqv x y = true := hb 0 (Nat.zero_lt_succ j)
          rw [if_pos ht] at h
          exact rc_gtAll xs ys k A s _ _ _ _ rs ts pa2.2 pb2.2 h (room_tail hu) j (Nat.lt_of_succ_lt_succ h1) (Nat.lt_of_succ_lt_succ h2) (fun i hi => hb (i + 1) (Nat.succ_lt_succ hi)) hj
end
end KA

/-! Rules over the layer: data of tuples read by values, their comparisons, items of lists. -/
namespace KA
open PySem PySem.Spec PyProof.Rows L2
mutual
/-- a value that reads as data over the tuples that stand at H -/
inductive Tp (H : Hp) : V → PyData → Prop
  | non : Tp H .non .none
  | bl (b : Bool) : Tp H (.bl b) (.bool b)
  | int (i : Int) : Tp H (.int i) (.int i)
  | str (x : Str) : Tp H (.str x) (.str x)
  | tup {a : Addr} {xs : List V} {ds : List PyData} : H a = some (.tup xs) → Tps H xs ds → Tp H (.ref a) (.tuple ds)
inductive Tps (H : Hp) : List V → List PyData → Prop
  | nil : Tps H [] []
  | cons {v : V} {vs : List V} {d : PyData} {ds : List PyData} : Tp H v d → Tps H vs ds → Tps H (v :: vs) (d :: ds)
end
/-- the tuples stay -/
def Tk (H H' : Hp) : Prop := ∀ a xs, H a = some (.tup xs) → H' a = some (.tup xs)
theorem Tk.refl (H : Hp) : Tk H H := fun _ _ h => h
theorem Tk.trans {H H1 H2 : Hp} (a : Tk H H1) (b : Tk H1 H2) : Tk H H2 := fun x o h => b x o (a x o h)
theorem Tk.of {H H' : Hp} (s : Same H H') : Tk H H' := fun a _ h => s a _ h
theorem Tk.new {H : Hp} {p : Addr} {o : HO} (h : H p = none) : Tk H (upd H p o) := fun a xs e => by
  rw [upd_ne (ne_of_none e h)]
  exact e
theorem Tk.lst {H : Hp} {p : Addr} {ys : List V} {o : HO} (h : H p = some (.lst ys)) : Tk H (upd H p o) := fun a xs e => by
  rw [upd_ne (ne_of e h (fun z => by cases z))]
  exact e
mutual
theorem Tp.mono {H H' : Hp} (k : Tk H H') : ∀ {d : PyData} {v : V}, Tp H v d → Tp H' v d
  | .none, _, h => by cases h; exact .non
  | .bool _, _, h => by cases h; exact .bl _
  | .int _, _, h => by cases h; exact .int _
  | .str _, _, h => by cases h; exact .str _
  | .tuple _, _, h => by
    cases h with
    | tup e r => exact .tup (k _ _ e) (Tps.mono k r)
  | .list _, _, h => nomatch h
  | .dict _, _, h => nomatch h
theorem Tps.mono {H H' : Hp} (k : Tk H H') : ∀ {ds : List PyData} {vs : List V}, Tps H vs ds → Tps H' vs ds
  | [], _, h => by cases h; exact .nil
  | _ :: _, _, h => by
    cases h with
    | cons a r => exact .cons (Tp.mono k a) (Tps.mono k r)
end
mutual
theorem Tp.dp {K : PySem.W.Frag} {H : Hp} : ∀ {d : PyData} {v : V}, Tp H v d → Dp K H v d
  | .none, _, h => by cases h; exact .non
  | .bool _, _, h => by cases h; exact .bl _
  | .int _, _, h => by cases h; exact .int _
  | .str _, _, h => by cases h; exact .str _
  | .tuple _, _, h => by
    cases h with
    | tup e r => exact .tup (SqT.of e) (Tps.dp r)
  | .list _, _, h => nomatch h
  | .dict _, _, h => nomatch h
theorem Tps.dp {K : PySem.W.Frag} {H : Hp} : ∀ {ds : List PyData} {vs : List V}, Tps H vs ds → DpAll K H vs ds
  | [], _, h => by cases h; exact .nil
  | _ :: _, _, h => by
    cases h with
    | cons a r => exact .cons (Tp.dp a) (Tps.dp r)
end
mutual
theorem Tp.plain {H : Hp} : ∀ {d : PyData} {v : V}, Tp H v d → d.plain = true
  | .none, _, _ => rfl
  | .bool _, _, _ => rfl
  | .int _, _, _ => rfl
  | .str _, _, _ => rfl
  | .tuple _, _, h => by
    cases h with
    | tup e r => exact Tps.plain r
  | .list _, _, h => nomatch h
  | .dict _, _, h => nomatch h
theorem Tps.plain {H : Hp} : ∀ {ds : List PyData} {vs : List V}, Tps H vs ds → PyData.plainAll ds = true
  | [], _, _ => rfl
  | _ :: _, _, h => by
    cases h with
    | cons a r =>
      rw [PyData.plainAll, Tp.plain a, Tps.plain r]
      rfl
end
theorem Tps.length {H : Hp} : ∀ {ds : List PyData} {vs : List V}, Tps H vs ds → vs.length = ds.length
  | [], _, h => by cases h; rfl
  | _ :: _, _, h => by
    cases h with
    | cons a r => rw [List.length_cons, List.length_cons, Tps.length r]
theorem Tps.get {H : Hp} : ∀ {ds : List PyData} {vs : List V} {i : Nat} {v : V}, Tps H vs ds → vs[i]? = some v → ∃ d, ds[i]? = some d ∧ Tp H v d
  | [], _, _, _, h, e => by
    cases h
    simp at e
  | d :: _, _, 0, _, h, e => by
    cases h with
    | cons a r =>
      cases e
      exact ⟨d, rfl, a⟩
  | _ :: _, _, i + 1, _, h, e => by
    cases h with
    | cons a r => exact Tps.get (i := i) r e
theorem Tps.at_ {H : Hp} : ∀ {ds : List PyData} {vs : List V} {i : Nat} {d : PyData}, Tps H vs ds → ds[i]? = some d → ∃ v, vs[i]? = some v ∧ Tp H v d
  | [], _, _, _, h, e => by
    simp at e
  | d :: _, _, 0, _, h, e => by
    cases h with
    | cons a r =>
      cases e
      exact ⟨_, rfl, a⟩
  | _ :: _, _, i + 1, _, h, e => by
    cases h with
    | cons a r => exact Tps.at_ (i := i) r e
theorem Tps.append {H : Hp} : ∀ {ds es : List PyData} {vs ws : List V}, Tps H vs ds → Tps H ws es → Tps H (vs ++ ws) (ds ++ es)
  | [], _, _, _, h, h2 => by cases h; exact h2
  | _ :: _, _, _, _, h, h2 => by
    cases h with
    | cons a r => exact .cons a (Tps.append r h2)

section
variable {X : Cx}
/-- the room that a comparison of data wants -/
def small (d : PyData) : Prop := d.depth ≤ 64
theorem room_d {X : Cx} {d e : PyData} (hu : X.A.units + 64 < cLine) (sd : small d) : X.A.units + min d.depth e.depth < cLine :=
  Nat.lt_of_le_of_lt (Nat.add_le_add_left (Nat.le_trans (Nat.min_le_left _ _) sd) _) hu
def rEqP : R2 := fun x y H Q => ∃ d e, Tp H x d ∧ Tp H y e ∧ small d ∧ Q (.bl (PyData.eqv d e)) H
def rNeP : R2 := fun x y H Q => ∃ d e, Tp H x d ∧ Tp H y e ∧ small d ∧ Q (.bl (!PyData.eqv d e)) H
def rLtP : R2 := fun x y H Q => ∃ d e k, Tp H x d ∧ Tp H y e ∧ small d ∧ dlt d e = some k ∧ Q (.bl k) H
def rGtP : R2 := fun x y H Q => ∃ d e k, Tp H x d ∧ Tp H y e ∧ small d ∧ dgt d e = some k ∧ Q (.bl k) H
theorem op_eqP (hu : X.A.units + 64 < cLine) : OpR X (compareOp .Eq) rEqP := by
  intro pins s σ H x y v u Q I rx ry h
  obtain ⟨d, e, hd, he, sd, q⟩ := h
  obtain ⟨as, r1⟩ := Dp.reads I d x v hd.dp rx
  obtain ⟨bs, r2⟩ := Dp.reads I e y u he.dp ry
  exact SeqAt.eq_plain r1 r2 hd.plain he.plain (room_d hu sd) ⟨.bl _, H, I, rfl, q⟩
theorem op_neP (hu : X.A.units + 64 < cLine) : OpR X (compareOp .NotEq) rNeP := by
  intro pins s σ H x y v u Q I rx ry h
  obtain ⟨d, e, hd, he, sd, q⟩ := h
  obtain ⟨as, r1⟩ := Dp.reads I d x v hd.dp rx
  obtain ⟨bs, r2⟩ := Dp.reads I e y u he.dp ry
  exact SeqAt.ne_plain r1 r2 hd.plain he.plain (room_d hu sd) ⟨.bl _, H, I, rfl, q⟩
theorem op_ltP (hu : X.A.units + 64 < cLine) : OpR X (compareOp .Lt) rLtP := by
  intro pins s σ H x y v u Q I rx ry h
  obtain ⟨d, e, k, hd, he, sd, hk, q⟩ := h
  obtain ⟨as, r1⟩ := Dp.reads I d x v hd.dp rx
  obtain ⟨bs, r2⟩ := Dp.reads I e y u he.dp ry
  exact rc_lt d e k _ _ _ _ _ _ r1 r2 hd.plain he.plain hk (room_d hu sd) _ _ _ _ ⟨.bl _, H, I, rfl, q⟩
theorem op_gtP (hu : X.A.units + 64 < cLine) : OpR X (compareOp .Gt) rGtP := by
  intro pins s σ H x y v u Q I rx ry h
  obtain ⟨d, e, k, hd, he, sd, hk, q⟩ := h
  obtain ⟨as, r1⟩ := Dp.reads I d x v hd.dp rx
  obtain ⟨bs, r2⟩ := Dp.reads I e y u he.dp ry
  exact rc_gt d e k _ _ _ _ _ _ r1 r2 hd.plain he.plain hk (room_d hu sd) _ _ _ _ ⟨.bl _, H, I, rfl, q⟩
/-- xs[i] of a list, the place not below 0, as an operator's left side asks it -/
def rGetN : V → V → Hp → VK → Prop := fun x y H Q => ∃ p xs, ∃ i : Nat, ∃ v, x = .ref p ∧ y = .int i ∧ H p = some (.lst xs) ∧ xs[i]? = some v ∧ Q v H
theorem get_list : PGet X rGetN := by
  intro pins s σ H o i ov iv Q I ro ri h
  obtain ⟨p, xs, n, v, rfl, rfl, hp, hv, q⟩ := h
  cases ro
  obtain ⟨t, rfl⟩ := ri
  obtain ⟨its, r, pl, hz⟩ := I.list (SqL.of hp)
  obtain ⟨w, ew, rw'⟩ := r.get hv
  have hl := r.length
  have hn := line63
  have hi : n < xs.length := by
    rcases Nat.lt_or_ge n xs.length with c | c
    · exact c
    · rw [List.getElem?_eq_none c] at hv
      cases hv
  exact wpAny_getItem_list pl.isList (by omega) (by omega) (by simpa using ew) ⟨v, H, I, rw', q⟩
end
/-- what a value is, for isinstance -/
theorem Tp.tyx {K : PySem.W.Frag} {H : Hp} {v : V} {d : PyData} (h : Tp H v d) : ∃ n, TyX K H v (.type n) ∧
    n = (match d with | .none => "NoneType" | .bool _ => "bool" | .int _ => "int" | .str _ => "str" | .tuple _ => "tuple" | .list _ => "list" | .dict _ => "dict") := by
  cases h with
  | non => exact ⟨_, .base .non, rfl⟩
  | bl b => exact ⟨_, .base (.bl b), rfl⟩
  | int i => exact ⟨_, .base (.int i), rfl⟩
  | str x => exact ⟨_, .base (.str x), rfl⟩
  | tup e r => exact ⟨_, .base (.tup e), rfl⟩
end KA

/-! Ranges with a step as values; data of lists and tuples. -/
namespace KA
open PySem PySem.Spec PyProof.Rows L2
/-- a range object a, a + c, .. below b, at p -/
def rng3 (p : Addr) (a b c : Int) : HO := .ext fun h => ∃ t u v, IsRange h p a b c t u v
section
variable {X : Cx}
theorem cr_range3 : CallR X (.type "range") (fun vs H Q => ∃ i j c, vs = [V.int i, V.int j, V.int c] ∧ c ≠ 0 ∧ c.natAbs < 1073741824 ∧ ∀ p, H p = none → Q (.ref p) (upd H p (rng3 p i j c))) := by
  intro pins s σ H vs us Q I r h
  obtain ⟨i, j, c, rfl, c0, c1, q⟩ := h
  cases r with
  | cons r1 rr =>
    cases rr with
    | cons r2 rr =>
      cases rr with
      | cons r3 rr =>
        cases rr
        obtain ⟨t, rfl⟩ := r1
        obtain ⟨u, rfl⟩ := r2
        obtain ⟨v, rfl⟩ := r3
        refine call_range_3 c0 ?_ (.inl (PyProof.noPylong_small c1))
        refine ⟨.ref s.heap.objs.size, upd H s.heap.objs.size (rng3 s.heap.objs.size i j c), I.laid (t' := s.toks) (fun b o e => Heap.get?_push_of_some _ e) (Nat.le_refl _) ?_, rfl, q _ (I.hok.fresh (Nat.le_refl _))⟩
        refine ⟨⟨t, u, v, IsRange.new ..⟩, ⟨_, Heap.get?_push_size _ rfl⟩, fun h1 h2 ⟨t1, u1, v1, e⟩ k => ⟨t1, u1, v1, k _ e⟩⟩
theorem call_len_rng3 : CallR X (.builtin "len") (fun xs H Q => ∃ p i j c n, xs = [.ref p] ∧ H p = some (rng3 p i j c) ∧ RgC i j c n ∧ n < 2 ^ 62 ∧ Q (.int (n : Nat)) H) := by
  intro pins s σ H xs us Q I r h
  obtain ⟨p, i, j, c, n, rfl, hp, ⟨_, _, _, c3⟩, hn, q⟩ := h
  obtain ⟨u, rfl, rx⟩ := vals1 r
  cases rx
  obtain ⟨⟨t, u, v, e⟩, _⟩ := I.hok p _ hp
  exact call_len_range e c3 (by omega) ⟨.int (n : Nat), H, I.tok _, ⟨_, rfl⟩, q⟩
def iRngV (te : TE) : TI := fun σ H R => te σ H fun x H1 => ∃ p i j c n, x = .ref p ∧ H1 p = some (rng3 p i j c) ∧ RgC i j c n ∧ R (Itc i c n) H1
theorem pi_rng3 {tg e : Expr} {te : TE} (he : PE X e te) : PI X tg e (iRngV te) := by
  refine ⟨fun pins s σ H R I h => ?_⟩
  refine thn (he.run pins s σ H _ I h) fun v s1 ⟨x, H1, I1, r1, q1⟩ => ?_
  obtain ⟨p, i, j, c, n, e, hp, ⟨c0, c1, c2, c3⟩, q⟩ := q1
  subst e
  cases r1
  obtain ⟨⟨t, u, v, ho⟩, _⟩ := I1.hok p _ hp
  refine wpAny_pyIter_range ho c2 ?_
  refine pi_one (tk := s1.toks) I1 _ (turn_rangeC _ i c n) ?_ q
  have e1 : i + ((0 : Nat) : Int) * c = i := by simp
  have e2 : (n : Int) - ((0 : Nat) : Int) = Builtin.Range.rangeSize i j c := by rw [c3]; simp
  show IsRangeIter _ _ (i + ((0 : Nat) : Int) * c) ((n : Int) - ((0 : Nat) : Int)) c
  rw [e1, e2]
  exact Heap.get?_push_size _ rfl
end
theorem fits_l {i : Int} (h1 : -(2 ^ 62) ≤ i) (h2 : i < 2 ^ 62) : Builtin.Range.rangeFitsLong i = true := by
  unfold Builtin.Range.rangeFitsLong
  rw [Bool.and_eq_true]
  exact ⟨decide_eq_true (by omega), decide_eq_true (by omega)⟩
/-- range(0, m, 54): its turns -/
theorem rg_up {m : Nat} (hm : m < 1000000) : RgC 0 m 54 ((m + 53) / 54) := by
  have e : Builtin.Range.rangeSize 0 (m : Int) 54 = (((m + 53) / 54 : Nat) : Int) := by
    unfold Builtin.Range.rangeSize
    rw [if_pos (by decide)]
    split
    · omega
    · omega
  refine ⟨by decide, by decide, ?_, e⟩
  unfold Builtin.Range.small
  rw [e, fits_l (by omega) (by omega), fits_l (by omega) (by omega), fits_l (by omega) (by omega), fits_l (by omega) (by omega), if_pos (by decide), fits_l (by omega) (by omega), Bool.or_true]
  rfl
end KA

/-! Data over lists and tuples that stand at H; lists of ints; lists of such. -/
namespace KA
open PySem PySem.Spec PyProof.Rows L2
mutual
inductive Dl (H : Hp) : V → PyData → Prop
  | non : Dl H .non .none
  | bl (b : Bool) : Dl H (.bl b) (.bool b)
  | int (i : Int) : Dl H (.int i) (.int i)
  | str (x : Str) : Dl H (.str x) (.str x)
  | tup {a : Addr} {xs : List V} {ds : List PyData} : H a = some (.tup xs) → Dls H xs ds → Dl H (.ref a) (.tuple ds)
  | lst {a : Addr} {xs : List V} {ds : List PyData} : H a = some (.lst xs) → Dls H xs ds → Dl H (.ref a) (.list ds)
inductive Dls (H : Hp) : List V → List PyData → Prop
  | nil : Dls H [] []
  | cons {v : V} {vs : List V} {d : PyData} {ds : List PyData} : Dl H v d → Dls H vs ds → Dls H (v :: vs) (d :: ds)
end
mutual
theorem Dl.mono {H H' : Hp} (k : Same H H') : ∀ {d : PyData} {v : V}, Dl H v d → Dl H' v d
  | .none, _, h => by cases h; exact .non
  | .bool _, _, h => by cases h; exact .bl _
  | .int _, _, h => by cases h; exact .int _
  | .str _, _, h => by cases h; exact .str _
  | .tuple _, _, h => by
    cases h with
    | tup e r => exact .tup (k _ _ e) (Dls.mono k r)
  | .list _, _, h => by
    cases h with
    | lst e r => exact .lst (k _ _ e) (Dls.mono k r)
  | .dict _, _, h => nomatch h
theorem Dls.mono {H H' : Hp} (k : Same H H') : ∀ {ds : List PyData} {vs : List V}, Dls H vs ds → Dls H' vs ds
  | [], _, h => by cases h; exact .nil
  | _ :: _, _, h => by
    cases h with
    | cons a r => exact .cons (Dl.mono k a) (Dls.mono k r)
end
mutual
theorem Dl.dp {K : PySem.W.Frag} {H : Hp} : ∀ {d : PyData} {v : V}, Dl H v d → Dp K H v d
  | .none, _, h => by cases h; exact .non
  | .bool _, _, h => by cases h; exact .bl _
  | .int _, _, h => by cases h; exact .int _
  | .str _, _, h => by cases h; exact .str _
  | .tuple _, _, h => by
    cases h with
    | tup e r => exact .tup (SqT.of e) (Dls.dp r)
  | .list _, _, h => by
    cases h with
    | lst e r => exact .lst (SqL.of e) (Dls.dp r)
  | .dict _, _, h => nomatch h
theorem Dls.dp {K : PySem.W.Frag} {H : Hp} : ∀ {ds : List PyData} {vs : List V}, Dls H vs ds → DpAll K H vs ds
  | [], _, h => by cases h; exact .nil
  | _ :: _, _, h => by
    cases h with
    | cons a r => exact .cons (Dl.dp a) (Dls.dp r)
end
mutual
theorem Dl.plain {H : Hp} : ∀ {d : PyData} {v : V}, Dl H v d → d.plain = true
  | .none, _, _ => rfl
  | .bool _, _, _ => rfl
  | .int _, _, _ => rfl
  | .str _, _, _ => rfl
  | .tuple _, _, h => by
    cases h with
    | tup e r => exact Dls.plain r
  | .list _, _, h => by
    cases h with
    | lst e r => exact Dls.plain r
  | .dict _, _, h => nomatch h
theorem Dls.plain {H : Hp} : ∀ {ds : List PyData} {vs : List V}, Dls H vs ds → PyData.plainAll ds = true
  | [], _, _ => rfl
  | _ :: _, _, h => by
    cases h with
    | cons a r =>
      rw [PyData.plainAll, Dl.plain a, Dls.plain r]
      rfl
end
mutual
theorem Tp.dl {H : Hp} : ∀ {d : PyData} {v : V}, Tp H v d → Dl H v d
  | .none, _, h => by cases h; exact .non
  | .bool _, _, h => by cases h; exact .bl _
  | .int _, _, h => by cases h; exact .int _
  | .str _, _, h => by cases h; exact .str _
  | .tuple _, _, h => by
    cases h with
    | tup e r => exact .tup e (Tps.dl r)
  | .list _, _, h => nomatch h
  | .dict _, _, h => nomatch h
theorem Tps.dl {H : Hp} : ∀ {ds : List PyData} {vs : List V}, Tps H vs ds → Dls H vs ds
  | [], _, h => by cases h; exact .nil
  | _ :: _, _, h => by
    cases h with
    | cons a r => exact .cons (Tp.dl a) (Tps.dl r)
end
theorem Dls.length {H : Hp} : ∀ {ds : List PyData} {vs : List V}, Dls H vs ds → vs.length = ds.length
  | [], _, h => by cases h; rfl
  | _ :: _, _, h => by
    cases h with
    | cons a r => rw [List.length_cons, List.length_cons, Dls.length r]
theorem Dls.at_ {H : Hp} : ∀ {ds : List PyData} {vs : List V} {i : Nat} {d : PyData}, Dls H vs ds → ds[i]? = some d → ∃ v, vs[i]? = some v ∧ Dl H v d
  | [], _, _, _, h, e => by
    simp at e
  | d :: _, _, 0, _, h, e => by
    cases h with
    | cons a r =>
      cases e
      exact ⟨_, rfl, a⟩
  | _ :: _, _, i + 1, _, h, e => by
    cases h with
    | cons a r => exact Dls.at_ (i := i) r e
mutual
/-- no dict in it, nothing too long -/
def okD : PyData → Prop
  | .none => True
  | .bool _ => True
  | .int _ => True
  | .str _ => True
  | .tuple ds => ds.length ≤ 1000000 ∧ okDs ds
  | .list ds => ds.length ≤ 1000000 ∧ okDs ds
  | _ => False
def okDs : List PyData → Prop
  | [] => True
  | d :: r => okD d ∧ okDs r
end
theorem okDs_mem : ∀ {ds : List PyData} {d : PyData}, okDs ds → d ∈ ds → okD d
  | x :: r, d, h, m => by
    rw [okDs] at h
    rcases List.mem_cons.mp m with e | e
    · rw [e]
      exact h.1
    · exact okDs_mem h.2 e
theorem okDs_of : ∀ {ds : List PyData}, (∀ d ∈ ds, okD d) → okDs ds
  | [], _ => by rw [okDs]; trivial
  | x :: r, h => by
    rw [okDs]
    exact ⟨h x List.mem_cons_self, okDs_of fun d m => h d (List.mem_cons_of_mem _ m)⟩
theorem depth_at2 : ∀ {ds : List PyData} {i : Nat} {d : PyData}, ds[i]? = some d → d.depth ≤ PyData.depthAll ds
  | [], i, d, h => by simp at h
  | x :: r, 0, d, h => by
    cases h
    rw [PyData.depthAll]
    exact Nat.le_max_left _ _
  | x :: r, i + 1, d, h => by
    rw [PyData.depthAll]
    exact Nat.le_trans (depth_at2 (i := i) h) (Nat.le_max_right _ _)
theorem depthAll_of {n : Nat} : ∀ {ds : List PyData}, (∀ d ∈ ds, d.depth ≤ n) → PyData.depthAll ds ≤ n
  | [], _ => Nat.zero_le _
  | x :: r, h => by
    rw [PyData.depthAll]
    exact Nat.max_le.mpr ⟨h x List.mem_cons_self, depthAll_of fun d m => h d (List.mem_cons_of_mem _ m)⟩
/-- == and != of data -/
def rEqD (neg : Bool) : R2 := fun x y H Q => ∃ d e, Dl H x d ∧ Dl H y e ∧ small e ∧ Q (.bl (if neg then !PyData.eqv d e else PyData.eqv d e)) H
theorem op_eqQ {X : Cx} (hu : X.A.units + 64 < cLine) : OpR X (compareOp .Eq) (rEqD false) := by
  intro pins s σ H x y v u Q I rx ry h
  obtain ⟨d, e, hd, he, se, q⟩ := h
  obtain ⟨as, r1⟩ := Dp.reads I d x v hd.dp rx
  obtain ⟨bs, r2⟩ := Dp.reads I e y u he.dp ry
  refine SeqAt.eq_plain r1 r2 hd.plain he.plain ?_ ⟨.bl _, H, I, rfl, q⟩
  have h1 : e.depth ≤ 64 := se
  have h2 : min d.depth e.depth ≤ e.depth := Nat.min_le_right _ _
  omega
theorem op_neQ {X : Cx} (hu : X.A.units + 64 < cLine) : OpR X (compareOp .NotEq) (rEqD true) := by
  intro pins s σ H x y v u Q I rx ry h
  obtain ⟨d, e, hd, he, se, q⟩ := h
  obtain ⟨as, r1⟩ := Dp.reads I d x v hd.dp rx
  obtain ⟨bs, r2⟩ := Dp.reads I e y u he.dp ry
  refine SeqAt.ne_plain r1 r2 hd.plain he.plain ?_ ⟨.bl _, H, I, rfl, q⟩
  have h1 : e.depth ≤ 64 := se
  have h2 : min d.depth e.depth ≤ e.depth := Nat.min_le_right _ _
  omega
/-! ### lists of ints -/
abbrev intsD (ns : List Int) : List PyData := ns.map PyData.int
theorem dls_ints {H : Hp} : ∀ ns : List Int, Dls H (ns.map V.int) (intsD ns)
  | [] => .nil
  | n :: r => .cons (.int n) (dls_ints r)
/-- the value is a list of these ints -/
def IL (H : Hp) (v : V) (ns : List Int) : Prop := ∃ p, v = .ref p ∧ H p = some (.lst (ns.map V.int))
theorem IL.dl {H : Hp} {v : V} {ns : List Int} (h : IL H v ns) : Dl H v (.list (intsD ns)) := by
  obtain ⟨p, rfl, e⟩ := h
  exact .lst e (dls_ints ns)
theorem IL.mono {H H' : Hp} {v : V} {ns : List Int} (h : IL H v ns) (k : Same H H') : IL H' v ns := by
  obtain ⟨p, e, e2⟩ := h
  exact ⟨p, e, k _ _ e2⟩
/-- lists of ints, one for each -/
inductive Ils (H : Hp) : List V → List (List Int) → Prop
  | nil : Ils H [] []
  | cons {v : V} {vs : List V} {d : List Int} {ds : List (List Int)} : IL H v d → Ils H vs ds → Ils H (v :: vs) (d :: ds)
theorem Ils.length {H : Hp} {vs : List V} {ds : List (List Int)} (h : Ils H vs ds) : vs.length = ds.length := by
  induction h with
  | nil => rfl
  | cons a r ih => rw [List.length_cons, List.length_cons, ih]
theorem Ils.mono {H H' : Hp} {vs : List V} {ds : List (List Int)} (h : Ils H vs ds) (k : Same H H') : Ils H' vs ds := by
  induction h with
  | nil => exact .nil
  | cons a r ih => exact .cons (a.mono k) ih
theorem Ils.app {H : Hp} {vs ws : List V} {ds es : List (List Int)} (h : Ils H vs ds) (h2 : Ils H ws es) : Ils H (vs ++ ws) (ds ++ es) := by
  induction h with
  | nil => exact h2
  | cons a r ih => exact .cons a ih
theorem Ils.one {H : Hp} {v : V} {d : List Int} (h : IL H v d) : Ils H [v] [d] := .cons h .nil
theorem Ils.take {H : Hp} {vs : List V} {ds : List (List Int)} (h : Ils H vs ds) : ∀ n, Ils H (vs.take n) (ds.take n) := by
  induction h with
  | nil => intro n; rw [List.take_nil, List.take_nil]; exact .nil
  | cons a r ih =>
    intro n
    cases n with
    | zero => exact .nil
    | succ n => exact .cons a (ih n)
theorem Ils.drop {H : Hp} {vs : List V} {ds : List (List Int)} (h : Ils H vs ds) : ∀ n, Ils H (vs.drop n) (ds.drop n) := by
  induction h with
  | nil => intro n; rw [List.drop_nil, List.drop_nil]; exact .nil
  | cons a r ih =>
    intro n
    cases n with
    | zero => exact .cons a r
    | succ n => exact ih n
theorem Ils.at_ {H : Hp} {vs : List V} {ds : List (List Int)} (h : Ils H vs ds) : ∀ {i : Nat} {d : List Int}, ds[i]? = some d → ∃ v, vs[i]? = some v ∧ IL H v d := by
  induction h with
  | nil => intro i d e; simp at e
  | cons a r ih =>
    intro i d e
    cases i with
    | zero => cases e; exact ⟨_, rfl, a⟩
    | succ i => exact ih (i := i) e
theorem Ils.get {H : Hp} {vs : List V} {ds : List (List Int)} (h : Ils H vs ds) : ∀ {i : Nat} {v : V}, vs[i]? = some v → ∃ d, ds[i]? = some d ∧ IL H v d := by
  induction h with
  | nil => intro i d e; simp at e
  | cons a r ih =>
    intro i d e
    cases i with
    | zero => cases e; exact ⟨_, rfl, a⟩
    | succ i => exact ih (i := i) e
theorem Ils.dls {H : Hp} {vs : List V} {ds : List (List Int)} (h : Ils H vs ds) : Dls H vs (ds.map fun ns => PyData.list (intsD ns)) := by
  induction h with
  | nil => exact .nil
  | cons a r ih => exact .cons a.dl ih
/-- the value is a list of lists of ints -/
def LL (H : Hp) (v : V) (nss : List (List Int)) : Prop := ∃ p xs, v = .ref p ∧ H p = some (.lst xs) ∧ Ils H xs nss
theorem LL.mono {H H' : Hp} {v : V} {nss : List (List Int)} (h : LL H v nss) (k : Same H H') : LL H' v nss := by
  obtain ⟨p, xs, e, e2, e3⟩ := h
  exact ⟨p, xs, e, k _ _ e2, e3.mono k⟩
theorem LL.dl {H : Hp} {v : V} {nss : List (List Int)} (h : LL H v nss) : Dl H v (.list (nss.map fun ns => PyData.list (intsD ns))) := by
  obtain ⟨p, xs, rfl, e, r⟩ := h
  exact .lst e r.dls
theorem okD_ints {ns : List Int} (h : ns.length ≤ 1000000) : okD (.list (intsD ns)) := by
  rw [okD]
  refine ⟨by rw [List.length_map]; exact h, okDs_of fun d m => ?_⟩
  obtain ⟨n, _, rfl⟩ := List.mem_map.mp m
  rw [okD]
  trivial
theorem depth_ints (ns : List Int) : (PyData.list (intsD ns)).depth ≤ 1 := by
  show PyData.depthAll (intsD ns) + 1 ≤ 1
  have : PyData.depthAll (intsD ns) ≤ 0 := depthAll_of fun d m => by
    obtain ⟨n, _, rfl⟩ := List.mem_map.mp m
    exact Nat.le_refl _
  omega
theorem okD_lls {nss : List (List Int)} (h : nss.length ≤ 1000000) (h2 : ∀ ns ∈ nss, ns.length ≤ 1000000) : okD (.list (nss.map fun ns => PyData.list (intsD ns))) := by
  rw [okD]
  refine ⟨by rw [List.length_map]; exact h, okDs_of fun d m => ?_⟩
  obtain ⟨n, hn, rfl⟩ := List.mem_map.mp m
  exact okD_ints (h2 n hn)
theorem depth_lls (nss : List (List Int)) : (PyData.list (nss.map fun ns => PyData.list (intsD ns))).depth ≤ 2 := by
  show PyData.depthAll _ + 1 ≤ 2
  have : PyData.depthAll (nss.map fun ns => PyData.list (intsD ns)) ≤ 1 := depthAll_of fun d m => by
    obtain ⟨n, _, rfl⟩ := List.mem_map.mp m
    exact depth_ints n
  omega
/-! ### == of data by equality -/
theorem eqvI (i j : Int) : PyData.eqv (.int i) (.int j) = decide (i = j) := by
  show (i == j) = _
  by_cases h : i = j
  · rw [h, decide_eq_true rfl, beq_self_eq_true]
  · rw [decide_eq_false h, beq_eq_false_iff_ne.mpr h]
theorem eqv_ints : ∀ a b : List Int, PyData.eqvAll (intsD a) (intsD b) = decide (a = b)
  | [], [] => rfl
  | [], _ :: _ => rfl
  | _ :: _, [] => rfl
  | x :: a, y :: b => by
    show (PyData.eqv (.int x) (.int y) && PyData.eqvAll (intsD a) (intsD b)) = _
    rw [eqv_ints a b, eqvI]
    by_cases h : x = y
    · subst h
      simp
    · simp [h]
theorem eqv_il (a b : List Int) : PyData.eqv (.list (intsD a)) (.list (intsD b)) = decide (a = b) := eqv_ints a b
/-! ### slices -/
theorem cut_to (xs : List V) (k : Nat) : cutV xs none (some (k : Int)) = xs.take k := by
  unfold cutV
  rw [HT.sIx_none, HT.sIx_nat, List.drop_zero, Nat.sub_zero]
  rcases Nat.le_total k xs.length with h | h
  · rw [Nat.min_eq_left h]
  · rw [Nat.min_eq_right h, List.take_of_length_le h, List.take_of_length_le (Nat.le_refl _)]
theorem cut_from (xs : List V) (k : Nat) : cutV xs (some (k : Int)) none = xs.drop k := by
  unfold cutV
  rw [HT.sIx_none, HT.sIx_nat]
  rcases Nat.le_total k xs.length with h | h
  · rw [Nat.min_eq_left h, List.take_of_length_le (by rw [List.length_drop]; exact Nat.le_refl _)]
  · rw [Nat.min_eq_right h, Nat.sub_self, List.take_zero, List.drop_eq_nil_of_le h]
theorem cut_mid (xs : List V) (i j : Nat) : cutV xs (some (i : Int)) (some ((i + j : Nat) : Int)) = (xs.drop i).take j := by
  unfold cutV
  rw [HT.sIx_nat, HT.sIx_nat]
  rcases Nat.le_total (i + j) xs.length with h | h
  · rw [Nat.min_eq_left h, Nat.min_eq_left (by omega)]
    congr 1
    omega
  · rcases Nat.le_total i xs.length with h2 | h2
    · rw [Nat.min_eq_right h, Nat.min_eq_left h2, List.take_of_length_le (i := xs.length - i) (by rw [List.length_drop]; exact Nat.le_refl _), List.take_of_length_le (by rw [List.length_drop]; omega)]
    · rw [Nat.min_eq_right h, Nat.min_eq_right h2, Nat.sub_self, List.drop_eq_nil_of_le h2, List.drop_eq_nil_of_le (Nat.le_refl _)]
      simp
theorem cut_to' {xs : List V} {z : Int} (h : 0 ≤ z) : cutV xs none (some z) = xs.take z.toNat := by
  have : z = ((z.toNat : Nat) : Int) := by omega
  rw [this, cut_to, Int.toNat_natCast]
theorem map_take {ns : List Int} (k : Nat) : (ns.map V.int).take k = (ns.take k).map V.int := List.map_take.symm
theorem map_drop {ns : List Int} (k : Nat) : (ns.map V.int).drop k = (ns.drop k).map V.int := List.map_drop.symm
section
variable {X : Cx}
/-- a module's constant -/
theorem pe_con {x : Str} {i : Int} {pos : Pos} (hg : Gl X x) (h : ∃ t, X.mg x = some (.int i t)) (hd : (x == ("__debug__" : Str)) = false := by decide) : PE X (.Name x pos) (tC (.int i)) := by
  obtain ⟨t, h⟩ := h
  exact pe_glob hg h ⟨_, rfl⟩ hd
end
end KA

/-! Defs as their callers know them; the drawing state of every law. -/
namespace KA
open PySem PySem.Spec PyProof.Rows L2
/-- a def of the text as its callers know it -/
structure Def (P : Program) (w : World) (K : PySem.W.Frag) (mg : Str → Option Value) (base : Heap) (x : Str) (k : Nat) (ps : List Str) (sp : Sp) : Prop where
  ex : ∃ (f : Addr) (fd : FuncData), FnOk P w K mg base CX0 k f fd ps sp ∧ mg x = some (.ref f) ∧ PySem.W.keepIn K (.ref f) = true ∧ Binds K fd ps []
section
variable {X : Cx} {k : Nat} {x : Str} {ps : List Str} {sp : Sp} {e : Expr} {es : List Expr} {t : TA} {p pos : Pos}
theorem pe_def (D : Def X.prog X.w X.K X.mg X.base x k ps sp) (hr : Room k X.A) (hg : Gl X x) (ha : PA X (e :: es) t) (hdb : (x == ("__debug__" : Str)) = false := by decide)
    (he : starEach (e :: es) X.env = (false, eval e X.env) :: starEach es X.env := by rfl) (hpl : (backTo pos (starEach es X.env)).any (·.1) = false := by rfl) : PE X (.Call (.Name x p) (e :: es) [] pos) (tCall sp [] E0 t) := by
  obtain ⟨f, fd, F, hm, hk, hb⟩ := D.ex
  exact pe_call F hr hg hm hk hb .nil pass0 ha hdb he hpl
theorem pe_def0 (D : Def X.prog X.w X.K X.mg X.base x k ps sp) (hr : Room k X.A) (hg : Gl X x) (hdb : (x == ("__debug__" : Str)) = false := by decide) : PE X (.Call (.Name x p) [] [] pos) (tCall sp [] E0 tNil) := by
  obtain ⟨f, fd, F, hm, hk, hb⟩ := D.ex
  exact pe_call0 F hr hg hm hk hb .nil pass0 hdb
end
/-! ### the drawing state -/
/-- all that is tracked but the state's own list stays -/
def Kp (st : Addr) (H H' : Hp) : Prop := ∀ a o, a ≠ st → H a = some o → H' a = some o
theorem Kp.refl (st : Addr) (H : Hp) : Kp st H H := fun _ _ _ h => h
theorem Kp.trans {st : Addr} {H H1 H2 : Hp} (a : Kp st H H1) (b : Kp st H1 H2) : Kp st H H2 := fun x o n h => b x o n (a x o n h)
theorem Kp.of {st : Addr} {H H' : Hp} (s : Same H H') : Kp st H H' := fun a o _ h => s a o h
theorem Kp.st {st : Addr} {H : Hp} {o : HO} : Kp st H (upd H st o) := fun a u n h => by
  rw [upd_ne n]
  exact h
theorem Kp.new {st p : Addr} {H : Hp} {o : HO} (h : H p = none) : Kp st H (upd H p o) := fun a u _ e => by
  rw [upd_ne (ne_of_none e h)]
  exact e
/-- the drawing state at st: the script's copy at L, the place, the rest of a great cell, the seed -/
def Good (st L : Addr) (H : Hp) : Prop := ∃ (ns : List Int) (i : Nat) (a b : Int), H st = some (.lst [.ref L, .int i, .int a, .int b]) ∧ H L = some (.lst (ns.map V.int)) ∧ 0 ≤ a ∧ 0 ≤ b
/-- from H on only drawing and new objects -/
structure Dr (st L : Addr) (H H' : Hp) : Prop where
  kp : Kp st H H'
  good : Good st L H'
theorem Dr.refl {st L : Addr} {H : Hp} (g : Good st L H) : Dr st L H H := ⟨Kp.refl st H, g⟩
theorem Dr.trans {st L : Addr} {H H1 H2 : Hp} (a : Dr st L H H1) (b : Dr st L H1 H2) : Dr st L H H2 := ⟨a.kp.trans b.kp, b.good⟩
theorem Good.tk {st L : Addr} {H H' : Hp} (g : Good st L H) (k : Kp st H H') : Tk H H' := fun a xs h => by
  obtain ⟨ns, i, c, b, e, _⟩ := g
  exact k a _ (ne_of h e (fun z => by cases z)) h
theorem Dr.tk {st L : Addr} {H H' : Hp} (d : Dr st L H H') (g : Good st L H) : Tk H H' := g.tk d.kp
/-- an object that H does not know is written -/
theorem Dr.put {st L D : Addr} {H H' : Hp} {o : HO} (d : Dr st L H H') (g : Good st L H) (n : H D = none) : Dr st L H (upd H' D o) := by
  refine ⟨fun a u h1 h2 => ?_, ?_⟩
  · rw [upd_ne (ne_of_none h2 n)]
    exact d.kp a u h1 h2
  · obtain ⟨ns0, i0, a0, b0, e0, l0, _⟩ := g
    obtain ⟨ns, i, a, b, e, l, r⟩ := d.good
    refine ⟨ns, i, a, b, ?_, ?_, r⟩
    · rw [upd_ne (ne_of_none e0 n)]
      exact e
    · rw [upd_ne (ne_of_none l0 n)]
      exact l
theorem Dr.new {st L p : Addr} {H : Hp} {o : HO} (g : Good st L H) (h : H p = none) : Dr st L H (upd H p o) := (Dr.refl g).put g h
theorem Dr.add {st L p : Addr} {H H' : Hp} {o : HO} (d : Dr st L H H') (h : H' p = none) : Dr st L H (upd H' p o) := d.trans (Dr.new d.good h)
theorem Dr.same {st L : Addr} {H H' : Hp} (g : Good st L H) (s : Same H H') : Dr st L H H' := by
  refine ⟨Kp.of s, ?_⟩
  obtain ⟨ns, i, a, b, e, l, r⟩ := g
  exact ⟨ns, i, a, b, s _ _ e, s _ _ l, r⟩
/-- what was there is there -/
theorem Dr.at_ {st L p : Addr} {H H' : Hp} {o : HO} (d : Dr st L H H') (n : p ≠ st) (h : H p = some o) : H' p = some o := d.kp p o n h
theorem Dr.tup {st L p : Addr} {H H' : Hp} {xs : List V} (d : Dr st L H H') (g : Good st L H) (h : H p = some (.tup xs)) : H' p = some (.tup xs) := d.tk g p xs h
/-- an address that is free behind is free ahead -/
theorem Dr.free {st L p : Addr} {H H' : Hp} (d : Dr st L H H') (h : H' p = none) : H p = none := by
  cases c : H p with
  | none => rfl
  | some o =>
    by_cases e : p = st
    · subst e
      obtain ⟨ns, i, a, b, e2, _⟩ := d.good
      rw [e2] at h
      cases h
    · rw [d.kp p o e c] at h
      cases h
theorem ref_ne_ints {L : Addr} {ns : List Int} {r : List V} : HO.lst (.ref L :: r) ≠ HO.lst (ns.map V.int) := by
  cases ns with
  | nil => intro e; cases e
  | cons x xs => intro e; cases e

theorem Good.not_none {st L : Addr} {H : Hp} (g : Good st L H) : H st ≠ none := by
  obtain ⟨_, _, _, _, e, _⟩ := g
  rw [e]
  exact fun z => nomatch z
theorem Good.ne_new {st L p : Addr} {H : Hp} (g : Good st L H) (n : H p = none) : p ≠ st := fun z => g.not_none (by rw [← z]; exact n)
theorem Dr.keep {st L p : Addr} {H H' : Hp} {o : HO} (g : Good st L H) (n : H p = none) (d : Dr st L (upd H p o) H') : H' p = some o :=
  d.at_ (fun z => g.not_none (by rw [← z]; exact n)) upd_same
theorem iteT' {a : Prop} {b : Prop} {c : Bool} (e : c = true) (h : a) : if c = true then a else b := by rw [if_pos e]; exact h
theorem iteF' {a : Prop} {b : Prop} {c : Bool} (e : c = false) (h : b) : if c = true then a else b := by rw [if_neg (by rw [e]; exact Bool.false_ne_true)]; exact h
theorem same_new {H : Hp} {p : Addr} {o : HO} (h : H p = none) : Same H (upd H p o) := fun a u e => by
  rw [upd_ne (ne_of_none e h)]
  exact e
theorem same_add {H H' : Hp} {p : Addr} {o : HO} (s : Same H H') (h : H' p = none) : Same H (upd H' p o) := s.trans (same_new h)
/-- what H does not know is written -/
theorem same_put {H H' : Hp} {p : Addr} {o : HO} (s : Same H H') (h : H p = none) : Same H (upd H' p o) := fun a u e => by
  rw [upd_ne (ne_of_none e h)]
  exact s a u e
/-- a new object, its heap by a name: `generalize h : upd _ p _ = H'` -/
theorem gen_up {H H' : Hp} {p : Addr} {o : HO} (h : upd H p o = H') (n : H p = none) : Same H H' ∧ H' p = some o := by
  subst h
  exact ⟨same_new n, upd_same⟩
/-! ### lists of ints stay while one draws -/
theorem Good.ne_ints {st L p : Addr} {H : Hp} {ns : List Int} (g : Good st L H) (h : H p = some (.lst (ns.map V.int))) : p ≠ st := by
  obtain ⟨_, _, _, _, e, _⟩ := g
  intro z
  subst z
  rw [e] at h
  exact ref_ne_ints (Option.some.inj h)
theorem IL.dr {st L : Addr} {H H' : Hp} {v : V} {ns : List Int} (h : IL H v ns) (g : Good st L H) (d : Dr st L H H') : IL H' v ns := by
  obtain ⟨p, e, e2⟩ := h
  exact ⟨p, e, d.at_ (g.ne_ints e2) e2⟩
theorem Ils.dr {st L : Addr} {H H' : Hp} {vs : List V} {ds : List (List Int)} (h : Ils H vs ds) (g : Good st L H) (d : Dr st L H H') : Ils H' vs ds := by
  induction h with
  | nil => exact .nil
  | cons a r ih => exact .cons (a.dr g d) ih
theorem Ils.refs {H : Hp} {vs : List V} {ds : List (List Int)} (h : Ils H vs ds) {i : Nat} {n : Int} (e : vs[i]? = some (.int n)) : False := by
  obtain ⟨d, _, p, e2, _⟩ := h.get e
  cases e2
theorem Good.ne_ils {st L p : Addr} {H : Hp} {xs : List V} {nss : List (List Int)} (g : Good st L H) (h : H p = some (.lst xs)) (r : Ils H xs nss) : p ≠ st := by
  obtain ⟨_, i, _, _, e, _⟩ := g
  intro z
  subst z
  rw [e] at h
  have h := HO.lst.inj (Option.some.inj h)
  subst h
  exact r.refs (i := 1) rfl
theorem LL.dr {st L : Addr} {H H' : Hp} {v : V} {nss : List (List Int)} (h : LL H v nss) (g : Good st L H) (d : Dr st L H H') : LL H' v nss := by
  obtain ⟨p, xs, e, e2, e3⟩ := h
  exact ⟨p, xs, e, d.at_ (g.ne_ils e2 e3) e2, e3.dr g d⟩
/-- another object is written -/
theorem Ils.upd {H : Hp} {D : Addr} {o : HO} {vs : List V} {ds : List (List Int)} (h : Ils H vs ds) : (∀ p, V.ref p ∈ vs → p ≠ D) → Ils (L2.upd H D o) vs ds := by
  induction h with
  | nil => intro _; exact .nil
  | cons a r ih =>
    intro hn
    obtain ⟨p, rfl, e⟩ := a
    refine .cons ⟨p, rfl, ?_⟩ (ih fun p m => hn p (List.mem_cons_of_mem _ m))
    rw [upd_ne (hn p List.mem_cons_self)]
    exact e
theorem at0 {α : Type} (x : α) (xs : List α) : atI (x :: xs) 0 = some x := atI_nat (j := 0) rfl
/-! ### readings of built-in calls, their fragment by name (for te := ..) -/
abbrev rLenK (K : PySem.W.Frag) : List V → Hp → VK → Prop := fun xs H Q => ∃ p ys, xs = [.ref p] ∧ (SqL K H p ys ∨ SqT K H p ys) ∧ Q (.int ys.length) H
abbrev rListK (K : PySem.W.Frag) : List V → Hp → VK → Prop := fun xs H Q => ∃ p ys, xs = [.ref p] ∧ (SqL K H p ys ∨ SqT K H p ys) ∧ ∀ l, H l = none → Q (.ref l) (upd H l (.lst ys))
abbrev rTupK (K : PySem.W.Frag) : List V → Hp → VK → Prop := fun xs H Q => ∃ p ys, xs = [.ref p] ∧ ((SqL K H p ys ∧ ∀ l, H l = none → Q (.ref l) (upd H l (.tup ys))) ∨ (SqT K H p ys ∧ Q (.ref p) H))
end KA

namespace MK
open PySem PySem.Spec PyProof.Rows L2 KA
/-! ### the text -/
def topS (i : Nat) : Stmt := PySem.Challenge.pw_rulestead_k06_disk_keeps_what_was_synced.main.body.getD i (.Pass ⟨0, 0, 0, 0⟩)
/-- the built-in names that are still the built-in ones -/
structure Bt (mg : Str → Option Value) : Prop where
  len : mg "len" = none
  int : mg "int" = none
  isi : mg "isinstance" = none
  bool : mg "bool" = none
  str : mg "str" = none
  tup : mg "tuple" = none
  lst : mg "list" = none
  rng : mg "range" = none
  min : mg "min" = none
  zip : mg "zip" = none
section
variable {P : Program} {w : World} {K : PySem.W.Frag} {mg : Str → Option Value} {base : Heap}
theorem pM : (0 : Int) < 2147483647 := by decide
/-! ### _law_next -/
abbrev sNext : Stmt := topS 10
theorem scNext : FnScope ["state", "limit", "cell", "value"] ["state", "limit"] (defScope sNext) := ⟨rfl, rfl, rfl, by decide +kernel, rfl, by decide +kernel, by decide +kernel⟩
def spNext : Sp := fun vs H Q _ => ∃ (st L : Addr) (lim : Int), vs = [.ref st, .int lim] ∧ Good st L H ∧ 0 < lim ∧ lim < 2 ^ 200 ∧ ∀ (v : Int) H', Dr st L H H' → 0 ≤ v → v < lim → Q (.int v) H'
theorem ok_next {f : Addr} {fd : FuncData} {k : Nat} (F : Fun K "_law_next" "_law_next" sNext f fd) (B : Bt mg) : FnOk P w K mg base CX0 (k + 1) f fd ["state", "limit"] spNext := by
  refine F.ok scNext (fun vs H Q E h => ?_) (fun cdv A outer s H vs Q E hr h => ?_)
  · obtain ⟨st, L, lim, rfl, _⟩ := h
    rfl
  · obtain ⟨st, L, lim, rfl, g, l0, l1, q⟩ := h
    refine ⟨_, C8.pss_cut (ps_if (PW.pt (pw_and (pt_cmpR op_eq (pe_ix ix_list (pv 0) pe_int (fun _ _ => rfl)) pe_int (nomark _))
          (pw_and1 (pt_cmpR op_lt (pe_ix ix_list (pv 0) pe_int (fun _ _ => rfl)) (pe_callB call_len_seq (by rfl) B.len PySem.boot_len (pa_cons (pe_ix ix_list (pv 0) pe_int (fun _ _ => rfl)) pa_nil)) (nomark _)))))
        (pss_cons (ps_set (i := 2) scNext.nd rfl (.inl rfl) (pe_ix ix_list (pe_ix ix_list (pv 0) pe_int (fun _ _ => rfl)) (pe_ix ix_list (pv 0) pe_int (fun _ _ => rfl)) (fun _ _ => rfl)))
        (pss_cons (ps_augS (pv 0) pe_int get_list pe_int ip_add set_list)
        (pss_one (ps_if (pt_cmpR op_ge (pv 2) (pe_op op_pow pe_int pe_int) (nomark _))
          (pss_one (ps_asg (pv 2) (pg_sub (pv 0) pe_int set_list)))
          (pss_one (ps_asg (pe_op op_mod (pe_callTy call_int1 (by rfl) B.int (by decide +kernel) (pa_cons (pe_op op_add (pe_op op_add (pe_op op_mul (pe_ix ix_list (pv 0) pe_int (fun _ _ => rfl)) pe_int)
              (pe_op op_mod (pe_callTy call_int1 (by rfl) B.int (by decide +kernel) (pa_cons (pv 2) pa_nil)) pe_int)) pe_int) pa_nil)) pe_int) (pg_sub (pv 0) pe_int set_list)))))))
        pss_nil)
      (C8.pss_cut (ps_if (pt_cmpR op_gt (pe_ix ix_list (pv 0) pe_int (fun _ _ => rfl)) pe_int (nomark _))
        (pss_cons (ps_set (i := 3) scNext.nd rfl (.inl rfl) (pe_op op_mod (pe_callTy call_int1 (by rfl) B.int (by decide +kernel) (pa_cons (pe_ix ix_list (pv 0) pe_int (fun _ _ => rfl)) pa_nil)) (pv 1)))
        (pss_cons (ps_asg (pe_op op_fdivW (pe_ix ix_list (pv 0) pe_int (fun _ _ => rfl)) (pv 1)) (pg_sub (pv 0) pe_int set_list))
        (pss_one (ps_ret (pv 3)))))
        pss_nil)
      (pss_cons (ps_asg (pe_op op_mod (pe_callTy call_int1 (by rfl) B.int (by decide +kernel) (pa_cons (pe_op op_add (pe_op op_mul (pe_ix ix_list (pv 0) pe_int (fun _ _ => rfl)) pe_int) pe_int) pa_nil)) pe_int) (pg_sub (pv 0) pe_int set_list))
      (pss_one (ps_ret (pe_op op_mod (pe_callTy call_int1 (by rfl) B.int (by decide +kernel) (pa_cons (pe_op op_fdiv (pe_ix ix_list (pv 0) pe_int (fun _ _ => rfl)) pe_int) pa_nil)) (pv 1)))))), ?_⟩
    obtain ⟨ns, i, a, b, e, eL, a0, b0⟩ := g
    have nL : L ≠ st := fun z => by
      subst z
      rw [e] at eL
      exact ref_ne_ints (Option.some.inj eL)
    have put : ∀ {H1 : Hp} (i' : Nat) (a' b' : Int), Kp st H H1 → 0 ≤ a' → 0 ≤ b' → Dr st L H (upd H1 st (.lst [.ref L, .int i', .int a', .int b'])) := fun i' a' b' k ha hb =>
      ⟨k.trans Kp.st, ns, i', a', b', upd_same, by
        rw [upd_ne nL]
        exact k L _ nL eL, ha, hb⟩
    refine ⟨fun σ' H' => ∃ x2 x3 i' a' b', σ' = [some (.ref st), some (.int lim), x2, x3] ∧ Kp st H H' ∧ H' st = some (.lst [.ref L, .int ((i' : Nat) : Int), .int a', .int b']) ∧ 0 ≤ a' ∧ 0 ≤ b', ?_, ?_⟩
    · -- the first if
      refine ⟨.ref st, rfl, st, _, 2, .int a, rfl, rfl, SqL.of e, rfl, rfl, _, rfl, ite2 (fun z => ?_) (fun z => ?_)⟩
      · refine ⟨.ref st, rfl, st, _, 1, .int (i : Nat), rfl, rfl, SqL.of e, rfl, .ref st, rfl, st, _, 0, .ref L, rfl, rfl, SqL.of e, rfl, L, _, rfl, .inl (SqL.of eL), _, _, rfl, rfl, _, rfl, ite2 (fun hi => ?_) (fun hi => ?_)⟩
        · have hlt : i < ns.length := by
            have t := of_decide_eq_true hi
            rw [List.length_map] at t
            omega
          have gc : (ns.map V.int)[i]? = some (.int ns[i]) := by
            rw [List.getElem?_map, List.getElem?_eq_getElem hlt]
            rfl
          refine ⟨.ref st, rfl, st, _, 0, .ref L, rfl, rfl, SqL.of e, rfl, .ref st, rfl, st, _, 1, .int (i : Nat), rfl, rfl, SqL.of e, rfl, L, _, (i : Nat), .int ns[i], rfl, rfl, SqL.of eL, atI_nat gc, ?_⟩
          refine ⟨.ref st, rfl, st, _, 1, .int (i : Nat), rfl, rfl, e, rfl, _, _, rfl, rfl, st, _, 1, 1, rfl, rfl, e, rfl, ?_⟩
          have e1 : upd H st (.lst (([.ref L, .int (i : Nat), .int a, .int b] : List V).set 1 (.int ((i : Nat) + 1)))) st = some (.lst [.ref L, .int ((i + 1 : Nat) : Int), .int a, .int b]) := upd_same
          have k1 : Kp st H (upd H st (.lst (([.ref L, .int (i : Nat), .int a, .int b] : List V).set 1 (.int ((i : Nat) + 1))))) := Kp.st
          refine ⟨.int ns[i], rfl, 10, 18, rfl, rfl, ⟨by decide, by decide, by decide⟩, _, _, rfl, rfl, _, rfl, ite2 (fun hb => ?_) (fun hb => ?_)⟩
          · have hb2 : (10 : Int) ^ 18 ≤ ns[i] := of_decide_eq_true hb
            refine ⟨.int ns[i], rfl, .ref st, rfl, st, _, 2, 2, rfl, rfl, e1, rfl, ?_⟩
            exact ⟨some (.int ns[i]), none, i + 1, ns[i], b, rfl, k1.trans Kp.st, upd_same, by omega, b0⟩
          · refine ⟨.ref st, rfl, st, _, 3, .int b, rfl, rfl, SqL.of e1, rfl, b, 48271, rfl, rfl, .inr ⟨by decide, by decide⟩, .int ns[i], rfl, .inl ⟨_, rfl, _, _, rfl, rfl, pM, _, _, rfl, rfl, _, _, rfl, rfl, .inl ⟨_, rfl, _, _, rfl, rfl, pM, ?_⟩⟩⟩
            refine ⟨.ref st, rfl, st, _, 3, 3, rfl, rfl, e1, rfl, ?_⟩
            exact ⟨some (.int ns[i]), none, i + 1, a, _, rfl, k1.trans Kp.st, upd_same, a0, Int.emod_nonneg _ (by decide)⟩
        · exact ⟨none, none, i, a, b, rfl, Kp.refl st H, e, a0, b0⟩
      · exact iteF ⟨none, none, i, a, b, rfl, Kp.refl st H, e, a0, b0⟩
    · intro σ' H' hm
      obtain ⟨x2, x3, i', a', b', rfl, k', e', a0', b0'⟩ := hm
      refine ⟨fun σ2 H2 => ∃ x2 x3, σ2 = [some (.ref st), some (.int lim), x2, x3] ∧ H2 = H', ?_, ?_⟩
      · refine ⟨.ref st, rfl, st, _, 2, .int a', rfl, rfl, SqL.of e', rfl, _, _, rfl, rfl, _, rfl, ite2 (fun z => ?_) (fun z => ?_)⟩
        · have z2 : (0 : Int) < a' := of_decide_eq_true z
          refine ⟨.ref st, rfl, st, _, 2, .int a', rfl, rfl, SqL.of e', rfl, .inl ⟨_, rfl, .int lim, rfl, _, _, rfl, rfl, l0, ?_⟩⟩
          refine ⟨.ref st, rfl, st, _, 2, .int a', rfl, rfl, SqL.of e', rfl, .int lim, rfl, _, _, rfl, rfl, wide_div (b := 200) l0 (by omega) (by decide) (by decide), .ref st, rfl, st, _, 2, 2, rfl, rfl, e', rfl, ?_⟩
          refine ⟨.int (a' % lim), rfl, ?_⟩
          exact q _ _ (put i' (a' / lim) b' k' (Int.ediv_nonneg a0' (Int.le_of_lt l0)) b0') (Int.emod_nonneg _ (by omega)) (Int.emod_lt_of_pos _ l0)
        · exact ⟨x2, x3, rfl, rfl⟩
      · intro σ2 H2 hm2
        obtain ⟨y2, y3, rfl, rfl⟩ := hm2
        refine ⟨.ref st, rfl, st, _, 3, .int b', rfl, rfl, SqL.of e', rfl, _, _, rfl, rfl, .inr ⟨by decide, by decide⟩, _, _, rfl, rfl, .inl ⟨_, rfl, _, _, rfl, rfl, pM, ?_⟩⟩
        refine ⟨.ref st, rfl, st, _, 3, 3, rfl, rfl, e', rfl, ?_⟩
        refine ⟨.ref st, rfl, st, _, 3, .int ((b' * 69621 + 12345) % 2147483647), rfl, rfl, SqL.of upd_same, rfl, _, _, rfl, rfl, ⟨by decide, by decide⟩, .inl ⟨_, rfl, .int lim, rfl, _, _, rfl, rfl, l0, ?_⟩⟩
        exact q _ _ (put i' a' _ k' a0' (Int.emod_nonneg _ (by decide))) (Int.emod_nonneg _ (by omega)) (Int.emod_lt_of_pos _ l0)
abbrev dNext (P : Program) (w : World) (K : PySem.W.Frag) (mg : Str → Option Value) (base : Heap) : Prop := Def P w K mg base "_law_next" 1 ["state", "limit"] spNext

abbrev sSM : Stmt := topS 11
abbrev nSM : List Str := ["actual", "expected", "k"]
theorem scSM : FnScope nSM ["actual", "expected"] (defScope sSM) := ⟨rfl, rfl, rfl, by decide +kernel, rfl, by decide +kernel, by decide +kernel⟩
/-- _law_same of the same data -/
def spSQ (n : Nat) : Sp := fun vs H Q _ => ∃ (v u : V) (d : PyData), vs = [v, u] ∧ Dl H v d ∧ Dl H u d ∧ okD d ∧ d.depth ≤ n ∧ Q (.bl true) H
theorem isi_no {x : V} {t : Value} {T : String} {H : Hp} {Q : VK} (h : TyX K H x t) (e : PySem.W.kitOne K t (.type T) = some false) (q : Q (.bl false) H) : rIsi K [x, .ty T] H Q := ⟨x, .ty T, t, .type T, false, rfl, .ty T, h, e, q⟩
theorem isi_yes {x : V} {t : Value} {T : String} {H : Hp} {Q : VK} (h : TyX K H x t) (e : PySem.W.kitOne K t (.type T) = some true) (q : Q (.bl true) H) : rIsi K [x, .ty T] H Q := ⟨x, .ty T, t, .type T, true, rfl, .ty T, h, e, q⟩
theorem ok_sq {f : Addr} {fd : FuncData} (F : Fun K "_law_same" "_law_same" sSM f fd) (B : Bt mg) (n : Nat) (DS : n = 0 ∨ ∃ m, n = m + 1 ∧ Def P w K mg base "_law_same" (m + 1) ["actual", "expected"] (spSQ m)) :
    FnOk P w K mg base CX0 (n + 1) f fd ["actual", "expected"] (spSQ n) := by
  refine F.ok scSM (fun vs H Q E h => ?_) (fun cdv A outer s H vs Q E hr h => ?_)
  · obtain ⟨v, u, _, rfl, _⟩ := h
    rfl
  · obtain ⟨v, u, d, rfl, tv, tu, nd, dn, q⟩ := h
    cases tu with
    | non =>
      cases tv
      refine ⟨_, pss_cons (ps_if (pt_cmpR op_isN (pv 1) pe_non (nomark _)) (pss_one (ps_ret (pe_cmpR op_isN (pv 0) pe_non (nomark _)))) pss_nil) pss_never, ?_⟩
      refine ⟨.non, rfl, rfl, _, rfl, iteT' rfl ⟨.non, rfl, rfl, ?_⟩⟩
      rw [decide_eq_true rfl]
      exact q
    | bl b =>
      refine ⟨_, pss_cons (ps_if (pt_cmpR op_isN (pv 1) pe_non (nomark _)) pss_never pss_nil)
        (pss_cons (ps_if (pt_val (pe_callB call_isi (by rfl) B.isi (by decide +kernel) (pa_cons (pv 1) (pa_cons (pe_bltn (v := .ty "bool") (u := .type "bool") (by rfl) B.bool (by decide +kernel) rfl) pa_nil))))
          (pss_one (ps_ret (pe_and (pe_callB call_isi (by rfl) B.isi (by decide +kernel) (pa_cons (pv 0) (pa_cons (pe_bltn (v := .ty "bool") (u := .type "bool") (by rfl) B.bool (by decide +kernel) rfl) pa_nil))) (pe_one (pe_cmpR op_eq (pv 0) (pv 1) (nomark _)))))) pss_nil)
        pss_never), ?_⟩
      refine ⟨.bl b, rfl, rfl, _, rfl, iteF' (decide_eq_false (fun z => nomatch z)) ?_⟩
      refine ⟨.bl b, rfl, .bl b, .ty "bool", _, _, true, rfl, .ty "bool", .base (.bl b), kit_ty (by decide +kernel), true, rfl, iteT ?_⟩
      cases tv
      refine ⟨.bl b, rfl, .bl b, .ty "bool", _, _, true, rfl, .ty "bool", .base (.bl b), kit_ty (by decide +kernel), true, rfl, iteT ?_⟩
      refine ⟨.bl b, rfl, .bl b, rfl, rfl, ?_⟩
      rw [decide_eq_true rfl]
      exact q
    | int i =>
      refine ⟨_, pss_cons (ps_if (pt_cmpR op_isN (pv 1) pe_non (nomark _)) pss_never pss_nil)
        (pss_cons (ps_if (pt_val (pe_callB call_isi (by rfl) B.isi (by decide +kernel) (pa_cons (pv 1) (pa_cons (pe_bltn (v := .ty "bool") (u := .type "bool") (by rfl) B.bool (by decide +kernel) rfl) pa_nil)))) pss_never pss_nil)
        (pss_cons (ps_if (pt_val (pe_callB call_isi (by rfl) B.isi (by decide +kernel) (pa_cons (pv 1) (pa_cons (pe_bltn (v := .ty "int") (u := .type "int") (by rfl) B.int (by decide +kernel) rfl) pa_nil))))
          (pss_one (ps_ret (pe_and (pe_callB call_isi (by rfl) B.isi (by decide +kernel) (pa_cons (pv 0) (pa_cons (pe_bltn (v := .ty "int") (u := .type "int") (by rfl) B.int (by decide +kernel) rfl) pa_nil))) (pe_and (pe_not (pe_callB call_isi (by rfl) B.isi (by decide +kernel) (pa_cons (pv 0) (pa_cons (pe_bltn (v := .ty "bool") (u := .type "bool") (by rfl) B.bool (by decide +kernel) rfl) pa_nil)))) (pe_one (pe_cmpR op_eq (pv 0) (pv 1) (nomark _))))))) pss_nil)
        pss_never)), ?_⟩
      refine ⟨.int i, rfl, rfl, _, rfl, iteF' (decide_eq_false (fun z => nomatch z)) ?_⟩
      refine ⟨.int i, rfl, .int i, .ty "bool", _, _, false, rfl, .ty "bool", .base (.int i), kit_ty (by decide +kernel), false, rfl, iteF ?_⟩
      refine ⟨.int i, rfl, .int i, .ty "int", _, _, true, rfl, .ty "int", .base (.int i), kit_ty (by decide +kernel), true, rfl, iteT ?_⟩
      cases tv
      refine ⟨.int i, rfl, .int i, .ty "int", _, _, true, rfl, .ty "int", .base (.int i), kit_ty (by decide +kernel), true, rfl, iteT ?_⟩
      refine ⟨.int i, rfl, .int i, .ty "bool", _, _, false, rfl, .ty "bool", .base (.int i), kit_ty (by decide +kernel), false, rfl, true, rfl, iteT ?_⟩
      refine ⟨.int i, rfl, .int i, rfl, rfl, ?_⟩
      rw [decide_eq_true rfl]
      exact q
    | str z =>
      refine ⟨_, pss_cons (ps_if (pt_cmpR op_isN (pv 1) pe_non (nomark _)) pss_never pss_nil)
        (pss_cons (ps_if (pt_val (pe_callB call_isi (by rfl) B.isi (by decide +kernel) (pa_cons (pv 1) (pa_cons (pe_bltn (v := .ty "bool") (u := .type "bool") (by rfl) B.bool (by decide +kernel) rfl) pa_nil)))) pss_never pss_nil)
        (pss_cons (ps_if (pt_val (pe_callB call_isi (by rfl) B.isi (by decide +kernel) (pa_cons (pv 1) (pa_cons (pe_bltn (v := .ty "int") (u := .type "int") (by rfl) B.int (by decide +kernel) rfl) pa_nil)))) pss_never pss_nil)
        (pss_cons (ps_if (pt_val (pe_callB call_isi (by rfl) B.isi (by decide +kernel) (pa_cons (pv 1) (pa_cons (pe_bltn (v := .ty "str") (u := .type "str") (by rfl) B.str (by decide +kernel) rfl) pa_nil))))
          (pss_one (ps_ret (pe_and (pe_callB call_isi (by rfl) B.isi (by decide +kernel) (pa_cons (pv 0) (pa_cons (pe_bltn (v := .ty "str") (u := .type "str") (by rfl) B.str (by decide +kernel) rfl) pa_nil))) (pe_one (pe_cmpR op_eq (pv 0) (pv 1) (nomark _)))))) pss_nil)
        pss_never))), ?_⟩
      refine ⟨.str z, rfl, rfl, _, rfl, iteF' (decide_eq_false (fun z => nomatch z)) ?_⟩
      refine ⟨.str z, rfl, .str z, .ty "bool", _, _, false, rfl, .ty "bool", .base (.str z), kit_ty (by decide +kernel), false, rfl, iteF ?_⟩
      refine ⟨.str z, rfl, .str z, .ty "int", _, _, false, rfl, .ty "int", .base (.str z), kit_ty (by decide +kernel), false, rfl, iteF ?_⟩
      refine ⟨.str z, rfl, .str z, .ty "str", _, _, true, rfl, .ty "str", .base (.str z), kit_ty (by decide +kernel), true, rfl, iteT ?_⟩
      cases tv
      refine ⟨.str z, rfl, .str z, .ty "str", _, _, true, rfl, .ty "str", .base (.str z), kit_ty (by decide +kernel), true, rfl, iteT ?_⟩
      refine ⟨.str z, rfl, .str z, rfl, rfl, ?_⟩
      rw [decide_eq_true rfl]
      exact q
    | @tup b ys es e2 r2 =>
      rcases DS with rfl | ⟨m, rfl, DS⟩
      · exact absurd dn (by
          show ¬ PyData.depthAll es + 1 ≤ 0
          omega)
      have ly := r2.length
      rw [okD] at nd
      have dm : PyData.depthAll es ≤ m := by
        have t : PyData.depthAll es + 1 ≤ m + 1 := dn
        omega
      refine ⟨_, pss_cons (ps_if (pt_cmpR op_isN (pv 1) pe_non (nomark _)) pss_never pss_nil)
        (pss_cons (ps_if (pt_val (pe_callB call_isi (by rfl) B.isi (by decide +kernel) (pa_cons (pv 1) (pa_cons (pe_bltn (v := .ty "bool") (u := .type "bool") (by rfl) B.bool (by decide +kernel) rfl) pa_nil)))) pss_never pss_nil)
        (pss_cons (ps_if (pt_val (pe_callB call_isi (by rfl) B.isi (by decide +kernel) (pa_cons (pv 1) (pa_cons (pe_bltn (v := .ty "int") (u := .type "int") (by rfl) B.int (by decide +kernel) rfl) pa_nil)))) pss_never pss_nil)
        (pss_cons (ps_if (pt_val (pe_callB call_isi (by rfl) B.isi (by decide +kernel) (pa_cons (pv 1) (pa_cons (pe_bltn (v := .ty "str") (u := .type "str") (by rfl) B.str (by decide +kernel) rfl) pa_nil)))) pss_never pss_nil)
        (pss_cons (ps_if (PW.pt (pw_and (pt_val (pe_callB call_isi (by rfl) B.isi (by decide +kernel) (pa_cons (pv 1) (pa_cons (pe_bltn (v := .ty "tuple") (u := .type "tuple") (by rfl) B.tup (by decide +kernel) rfl) pa_nil)))) (pw_and1 (pt_not (pt_val (pe_callB call_isi (by rfl) B.isi (by decide +kernel) (pa_cons (pv 0) (pa_cons (pe_bltn (v := .ty "tuple") (u := .type "tuple") (by rfl) B.tup (by decide +kernel) rfl) pa_nil)))))))) (pss_one (ps_ret pe_bl)) pss_nil)
        (pss_cons (ps_if (PW.pt (pw_and (pt_val (pe_callB call_isi (by rfl) B.isi (by decide +kernel) (pa_cons (pv 1) (pa_cons (pe_bltn (v := .ty "list") (u := .type "list") (by rfl) B.lst (by decide +kernel) rfl) pa_nil)))) (pw_and1 (pt_not (pt_val (pe_callB call_isi (by rfl) B.isi (by decide +kernel) (pa_cons (pv 0) (pa_cons (pe_bltn (v := .ty "list") (u := .type "list") (by rfl) B.lst (by decide +kernel) rfl) pa_nil)))))))) pss_never pss_nil)
        (pss_cons (ps_if (pt_cmpR op_ne (pe_callB call_len_seq (by rfl) B.len PySem.boot_len (pa_cons (pv 0) pa_nil)) (pe_callB call_len_seq (by rfl) B.len PySem.boot_len (pa_cons (pv 1) pa_nil)) (nomark _)) (pss_one (ps_ret pe_bl)) pss_nil)
        (pss_cons (ps_for PassesOwn.never rfl (pi_range1 (by rfl) B.rng (pa_cons (pe_callB call_len_seq (by rfl) B.len PySem.boot_len (pa_cons (pv 1) pa_nil)) pa_nil)) (pg_name (i := 2) scSM.nd rfl (.inl rfl))
            (pss_one (ps_if (pt_not (pt_val (pe_def DS hr (by rfl) (pa_cons (pe_ix ix_tup (pv 0) (pv 2) (fun _ _ => rfl)) (pa_cons (pe_ix ix_tup (pv 1) (pv 2) (fun _ _ => rfl)) pa_nil))))) (pss_one (ps_ret pe_bl)) pss_nil)))
        (pss_one (ps_ret pe_bl))))))))), ?_⟩
      refine ⟨.ref b, rfl, rfl, _, rfl, iteF' (decide_eq_false (fun z => nomatch z)) ?_⟩
      refine ⟨.ref b, rfl, .ref b, .ty "bool", _, _, false, rfl, .ty "bool", .base (.tup e2), kit_ty (by decide +kernel), false, rfl, iteF ?_⟩
      refine ⟨.ref b, rfl, .ref b, .ty "int", _, _, false, rfl, .ty "int", .base (.tup e2), kit_ty (by decide +kernel), false, rfl, iteF ?_⟩
      refine ⟨.ref b, rfl, .ref b, .ty "str", _, _, false, rfl, .ty "str", .base (.tup e2), kit_ty (by decide +kernel), false, rfl, iteF ?_⟩
      refine ⟨.ref b, rfl, .ref b, .ty "tuple", _, _, true, rfl, .ty "tuple", .base (.tup e2), kit_ty (by decide +kernel), true, rfl, iteT ?_⟩
      cases tv with
      | @tup a xs _ e r =>
        have lx := r.length
        refine ⟨.ref a, rfl, .ref a, .ty "tuple", _, _, true, rfl, .ty "tuple", .base (.tup e), kit_ty (by decide +kernel), true, rfl, iteF ?_⟩
        refine ⟨.ref b, rfl, .ref b, .ty "list", _, _, false, rfl, .ty "list", .base (.tup e2), kit_ty (by decide +kernel), false, rfl, iteF (iteF ?_)⟩
        refine ⟨.ref a, rfl, a, xs, rfl, .inr (SqT.of e), .ref b, rfl, b, ys, rfl, .inr (SqT.of e2), rfl, _, rfl, ?_⟩
        rw [lx, ly, decide_eq_true rfl]
        refine iteF ?_
        refine ⟨.ref b, rfl, b, ys, rfl, .inr (SqT.of e2), _, rfl, by omega, by omega, ?_⟩
        rw [ly, Int.toNat_natCast]
        refine for_range (lo := 0) (n := es.length) (fun i σ H' => H' = H ∧ ∃ x2, σ = [some (.ref a), some (.ref b), x2]) ⟨rfl, none, rfl⟩ (fun i σ H' hi hP => ?_) (fun σ H' hP => ?_)
        · obtain ⟨rfl, x2, rfl⟩ := hP
          have g2 := List.getElem?_eq_getElem hi
          obtain ⟨x, ex, tx⟩ := r.at_ g2
          obtain ⟨y, ey, ty⟩ := r2.at_ g2
          have e0 : (0 : Int) + (i : Int) = ((i : Nat) : Int) := Int.zero_add _
          refine ⟨.ref a, rfl, .int (0 + i), rfl, a, xs, 0 + i, x, rfl, rfl, SqT.of e, at_of e0 ex, .ref b, rfl, .int (0 + i), rfl, b, ys, 0 + i, y, rfl, rfl, SqT.of e2, at_of e0 ey, ?_⟩
          exact ⟨x, y, _, rfl, tx, ty, okDs_mem nd.2 (List.mem_of_getElem? g2), Nat.le_trans (depth_at2 g2) dm, _, rfl, iteF ⟨rfl, _, rfl⟩⟩
        · obtain ⟨rfl, x2, rfl⟩ := hP
          exact q
    | @lst b ys es e2 r2 =>
      rcases DS with rfl | ⟨m, rfl, DS⟩
      · exact absurd dn (by
          show ¬ PyData.depthAll es + 1 ≤ 0
          omega)
      have ly := r2.length
      rw [okD] at nd
      have dm : PyData.depthAll es ≤ m := by
        have t : PyData.depthAll es + 1 ≤ m + 1 := dn
        omega
      refine ⟨_, pss_cons (ps_if (pt_cmpR op_isN (pv 1) pe_non (nomark _)) pss_never pss_nil)
        (pss_cons (ps_if (pt_val (pe_callB call_isi (by rfl) B.isi (by decide +kernel) (pa_cons (pv 1) (pa_cons (pe_bltn (v := .ty "bool") (u := .type "bool") (by rfl) B.bool (by decide +kernel) rfl) pa_nil)))) pss_never pss_nil)
        (pss_cons (ps_if (pt_val (pe_callB call_isi (by rfl) B.isi (by decide +kernel) (pa_cons (pv 1) (pa_cons (pe_bltn (v := .ty "int") (u := .type "int") (by rfl) B.int (by decide +kernel) rfl) pa_nil)))) pss_never pss_nil)
        (pss_cons (ps_if (pt_val (pe_callB call_isi (by rfl) B.isi (by decide +kernel) (pa_cons (pv 1) (pa_cons (pe_bltn (v := .ty "str") (u := .type "str") (by rfl) B.str (by decide +kernel) rfl) pa_nil)))) pss_never pss_nil)
        (pss_cons (ps_if (PW.pt (pw_and (pt_val (pe_callB call_isi (by rfl) B.isi (by decide +kernel) (pa_cons (pv 1) (pa_cons (pe_bltn (v := .ty "tuple") (u := .type "tuple") (by rfl) B.tup (by decide +kernel) rfl) pa_nil)))) (pw_and1 (pt_not (pt_val (pe_callB call_isi (by rfl) B.isi (by decide +kernel) (pa_cons (pv 0) (pa_cons (pe_bltn (v := .ty "tuple") (u := .type "tuple") (by rfl) B.tup (by decide +kernel) rfl) pa_nil)))))))) pss_never pss_nil)
        (pss_cons (ps_if (PW.pt (pw_and (pt_val (pe_callB call_isi (by rfl) B.isi (by decide +kernel) (pa_cons (pv 1) (pa_cons (pe_bltn (v := .ty "list") (u := .type "list") (by rfl) B.lst (by decide +kernel) rfl) pa_nil)))) (pw_and1 (pt_not (pt_val (pe_callB call_isi (by rfl) B.isi (by decide +kernel) (pa_cons (pv 0) (pa_cons (pe_bltn (v := .ty "list") (u := .type "list") (by rfl) B.lst (by decide +kernel) rfl) pa_nil)))))))) pss_never pss_nil)
        (pss_cons (ps_if (pt_cmpR op_ne (pe_callB call_len_seq (by rfl) B.len PySem.boot_len (pa_cons (pv 0) pa_nil)) (pe_callB call_len_seq (by rfl) B.len PySem.boot_len (pa_cons (pv 1) pa_nil)) (nomark _)) (pss_one (ps_ret pe_bl)) pss_nil)
        (pss_cons (ps_for PassesOwn.never rfl (pi_range1 (by rfl) B.rng (pa_cons (pe_callB call_len_seq (by rfl) B.len PySem.boot_len (pa_cons (pv 1) pa_nil)) pa_nil)) (pg_name (i := 2) scSM.nd rfl (.inl rfl))
            (pss_one (ps_if (pt_not (pt_val (pe_def DS hr (by rfl) (pa_cons (pe_ix ix_list (pv 0) (pv 2) (fun _ _ => rfl)) (pa_cons (pe_ix ix_list (pv 1) (pv 2) (fun _ _ => rfl)) pa_nil))))) (pss_one (ps_ret pe_bl)) pss_nil)))
        (pss_one (ps_ret pe_bl))))))))), ?_⟩
      refine ⟨.ref b, rfl, rfl, _, rfl, iteF' (decide_eq_false (fun z => nomatch z)) ?_⟩
      refine ⟨.ref b, rfl, .ref b, .ty "bool", _, _, false, rfl, .ty "bool", .base (.lst e2), kit_ty (by decide +kernel), false, rfl, iteF ?_⟩
      refine ⟨.ref b, rfl, .ref b, .ty "int", _, _, false, rfl, .ty "int", .base (.lst e2), kit_ty (by decide +kernel), false, rfl, iteF ?_⟩
      refine ⟨.ref b, rfl, .ref b, .ty "str", _, _, false, rfl, .ty "str", .base (.lst e2), kit_ty (by decide +kernel), false, rfl, iteF ?_⟩
      refine ⟨.ref b, rfl, .ref b, .ty "tuple", _, _, false, rfl, .ty "tuple", .base (.lst e2), kit_ty (by decide +kernel), false, rfl, iteF (iteF ?_)⟩
      cases tv with
      | @lst a xs _ e r =>
        have lx := r.length
        refine ⟨.ref b, rfl, .ref b, .ty "list", _, _, true, rfl, .ty "list", .base (.lst e2), kit_ty (by decide +kernel), true, rfl, iteT ?_⟩
        refine ⟨.ref a, rfl, .ref a, .ty "list", _, _, true, rfl, .ty "list", .base (.lst e), kit_ty (by decide +kernel), true, rfl, iteF ?_⟩
        refine ⟨.ref a, rfl, a, xs, rfl, .inl (SqL.of e), .ref b, rfl, b, ys, rfl, .inl (SqL.of e2), rfl, _, rfl, ?_⟩
        rw [lx, ly, decide_eq_true rfl]
        refine iteF ?_
        refine ⟨.ref b, rfl, b, ys, rfl, .inl (SqL.of e2), _, rfl, by omega, by omega, ?_⟩
        rw [ly, Int.toNat_natCast]
        refine for_range (lo := 0) (n := es.length) (fun i σ H' => H' = H ∧ ∃ x2, σ = [some (.ref a), some (.ref b), x2]) ⟨rfl, none, rfl⟩ (fun i σ H' hi hP => ?_) (fun σ H' hP => ?_)
        · obtain ⟨rfl, x2, rfl⟩ := hP
          have g2 := List.getElem?_eq_getElem hi
          obtain ⟨x, ex, tx⟩ := r.at_ g2
          obtain ⟨y, ey, ty⟩ := r2.at_ g2
          have e0 : (0 : Int) + (i : Int) = ((i : Nat) : Int) := Int.zero_add _
          refine ⟨.ref a, rfl, .int (0 + i), rfl, a, xs, 0 + i, x, rfl, rfl, SqL.of e, at_of e0 ex, .ref b, rfl, .int (0 + i), rfl, b, ys, 0 + i, y, rfl, rfl, SqL.of e2, at_of e0 ey, ?_⟩
          exact ⟨x, y, _, rfl, tx, ty, okDs_mem nd.2 (List.mem_of_getElem? g2), Nat.le_trans (depth_at2 g2) dm, _, rfl, iteF ⟨rfl, _, rfl⟩⟩
        · obtain ⟨rfl, x2, rfl⟩ := hP
          exact q
abbrev dSQ (P : Program) (w : World) (K : PySem.W.Frag) (mg : Str → Option Value) (base : Heap) : Prop := Def P w K mg base "_law_same" 5 ["actual", "expected"] (spSQ 4)
end
end MK

namespace MK
open PySem PySem.Spec PyProof.Rows L2 KA
theorem _root_.KA.Ils.set {H : Hp} {vs : List V} {ds : List (List Int)} {v : V} {n : List Int} (h : Ils H vs ds) : ∀ (k : Nat), IL H v n → Ils H (vs.set k v) (ds.set k n) := by
  induction h with
  | nil => intro k _; exact .nil
  | cons a r ih =>
    intro k hv
    cases k with
    | zero => exact .cons hv r
    | succ k => exact .cons a (ih k hv)
/-! ### the disk, by mathematics -/
structure DM where
  sy : List (List Int)
  wr : List (List Int)
  wt : List (Nat × List Int)
  ws : Nat
  ss : Nat
  fa : Nat
  on : Bool
  al : Option Nat
def optV : Option Nat → V
  | none => .non
  | some n => .int (n : Int)
def failM (m : DM) : DM := { m with on := false, fa := m.fa + 1, al := none }
def dueM (m : DM) : DM := if m.al = some 0 then failM m else m
def opM (m : DM) : DM := { dueM m with al := (dueM m).al.map (· - 1) }
def arr (sy : List (List Int)) (wt : List (Nat × List Int)) : List (List Int) := wt.foldl (fun s p => s.set p.1 p.2) sy
def settleM (m : DM) (wt : List (Nat × List Int)) : DM := { m with sy := arr m.sy wt, wr := arr m.sy wt, wt := [] }
/-! ### the disk at an address -/
def dF (Sy Wr Wa : Addr) (m : DM) : List (Str × V) := [("in_use", .bl false), ("synced", .ref Sy), ("written", .ref Wr), ("waiting", .ref Wa), ("writes", .int (m.ws : Nat)), ("syncs", .int (m.ss : Nat)), ("failures", .int (m.fa : Nat)), ("on", .bl m.on), ("allowed", optV m.al)]
/-- a waiting write -/
inductive Wts (H : Hp) : List V → List (Nat × List Int) → Prop
  | nil : Wts H [] []
  | cons {t p : Addr} {i : Nat} {d : List Int} {vs : List V} {ps : List (Nat × List Int)} : H t = some (.tup [.int (i : Int), .ref p]) → H p = some (.lst (d.map V.int)) → Wts H vs ps → Wts H (.ref t :: vs) ((i, d) :: ps)
theorem Wts.length {H : Hp} {vs : List V} {ps : List (Nat × List Int)} (h : Wts H vs ps) : vs.length = ps.length := by
  induction h with
  | nil => rfl
  | cons _ _ _ ih => rw [List.length_cons, List.length_cons, ih]
theorem Wts.get {H : Hp} {vs : List V} {ps : List (Nat × List Int)} (h : Wts H vs ps) : ∀ {k : Nat} {v : V}, vs[k]? = some v → ∃ t p i d, v = .ref t ∧ ps[k]? = some (i, d) ∧ H t = some (.tup [.int (i : Int), .ref p]) ∧ H p = some (.lst (d.map V.int)) := by
  induction h with
  | nil => intro k v e; simp at e
  | @cons t p i d vs ps a b c ih =>
    intro k v e
    cases k with
    | zero => cases e; exact ⟨t, p, i, d, rfl, rfl, a, b⟩
    | succ k => exact ih (k := k) e
theorem Wts.app {H : Hp} {vs ws : List V} {ps qs : List (Nat × List Int)} (h : Wts H vs ps) (h2 : Wts H ws qs) : Wts H (vs ++ ws) (ps ++ qs) := by
  induction h with
  | nil => exact h2
  | cons a b _ ih => exact .cons a b ih
def Out (F : Addr → Prop) (H H' : Hp) : Prop := ∀ a o, ¬ F a → H a = some o → H' a = some o
theorem Out.trans {F : Addr → Prop} {H H1 H2 : Hp} (a : Out F H H1) (b : Out F H1 H2) : Out F H H2 := fun x o n h => b x o n (a x o n h)
theorem Out.of {F : Addr → Prop} {H H' : Hp} (s : Same H H') : Out F H H' := fun a o _ h => s a o h
theorem Out.put {F : Addr → Prop} {H : Hp} {p : Addr} {o : HO} (h : F p) : Out F H (upd H p o) := fun a u n e => by
  rw [upd_ne (fun z => n (by rw [z]; exact h))]
  exact e
/-- F holds no tuple and no list of 64 ints -/
def Mu (F : Addr → Prop) (H : Hp) : Prop := ∀ a, F a → (∀ xs, H a ≠ some (.tup xs)) ∧ ∀ ns : List Int, ns.length = 64 → H a ≠ some (.lst (ns.map V.int))
theorem _root_.KA.Ils.out {F : Addr → Prop} {H H' : Hp} {vs : List V} {ds : List (List Int)} (h : Ils H vs ds) (o : Out F H H') (m : Mu F H) (l : ∀ d ∈ ds, d.length = 64) : Ils H' vs ds := by
  induction h with
  | nil => exact .nil
  | cons a r ih =>
    obtain ⟨p, rfl, e⟩ := a
    exact .cons ⟨p, rfl, o _ _ (fun z => (m p z).2 _ (l _ List.mem_cons_self) e) e⟩ (ih fun d md => l d (List.mem_cons_of_mem _ md))
theorem Wts.out {F : Addr → Prop} {H H' : Hp} {vs : List V} {ps : List (Nat × List Int)} (h : Wts H vs ps) (o : Out F H H') (m : Mu F H) (l : ∀ p ∈ ps, p.2.length = 64) : Wts H' vs ps := by
  induction h with
  | nil => exact .nil
  | cons a b _ ih => exact .cons (o _ _ (fun z => (m _ z).1 _ a) a) (o _ _ (fun z => (m _ z).2 _ (l _ List.mem_cons_self) b) b) (ih fun d md => l d (List.mem_cons_of_mem _ md))
theorem Wts.same {H H' : Hp} {vs : List V} {ps : List (Nat × List Int)} (h : Wts H vs ps) (s : Same H H') : Wts H' vs ps := by
  induction h with
  | nil => exact .nil
  | cons a b _ ih => exact .cons (s _ _ a) (s _ _ b) ih
/-- the numbers are right -/
structure Fit (m : DM) : Prop where
  len : m.wr.length = m.sy.length
  lo : 60 ≤ m.sy.length
  hi : m.sy.length ≤ 400
  s64 : ∀ d ∈ m.sy, d.length = 64
  w64 : ∀ d ∈ m.wr, d.length = 64
  t64 : ∀ p ∈ m.wt, p.1 < m.sy.length ∧ p.2.length = 64
  few : m.wt.length ≤ 1000
structure DkB (C : Addr) (H : Hp) (s dx Sy Wr Wa : Addr) (xs ys zs : List V) (m : DM) : Prop where
  hs : H s = some (.ins C dx (dF Sy Wr Wa m))
  hsy : H Sy = some (.lst xs)
  hwr : H Wr = some (.lst ys)
  hwa : H Wa = some (.lst zs)
  is : Ils H xs m.sy
  iw : Ils H ys m.wr
  it : Wts H zs m.wt
  n1 : Sy ≠ Wr
  n2 : Sy ≠ Wa
  n3 : Wr ≠ Wa
  fit : Fit m
def dFt (s Sy Wr Wa : Addr) : Addr → Prop := fun a => a = s ∨ a = Sy ∨ a = Wr ∨ a = Wa
theorem _root_.KA.Ils.mixed {H : Hp} {vs : List V} {ds : List (List Int)} {ns : List Int} (h : Ils H vs ds) (e : vs = ns.map V.int) : vs = [] := by
  cases h with
  | nil => rfl
  | cons a _ =>
    obtain ⟨p, rfl, _⟩ := a
    cases ns with
    | nil => cases e
    | cons n r => injection e with e; cases e
theorem Wts.mixed {H : Hp} {vs : List V} {ds : List (Nat × List Int)} {ns : List Int} (h : Wts H vs ds) (e : vs = ns.map V.int) : vs = [] := by
  cases h with
  | nil => rfl
  | cons a _ =>
    cases ns with
    | nil => cases e
    | cons n r => injection e with e; cases e
theorem len64 {ns : List Int} (h : ns.length = 64) (e : ns.map V.int = []) : False := by
  rw [List.map_eq_nil_iff] at e
  rw [e] at h
  cases h
theorem DkB.mu {C : Addr} {H : Hp} {s dx Sy Wr Wa : Addr} {xs ys zs : List V} {m : DM} (b : DkB C H s dx Sy Wr Wa xs ys zs m) : Mu (dFt s Sy Wr Wa) H := by
  rintro a (rfl | rfl | rfl | rfl)
  · exact ⟨(fun xs z => by rw [b.hs] at z; cases z), fun ns _ z => by rw [b.hs] at z; cases z⟩
  · refine ⟨(fun xs z => by rw [b.hsy] at z; cases z), fun ns l z => ?_⟩
    rw [b.hsy] at z
    have e := HO.lst.inj (Option.some.inj z)
    exact len64 l (e.symm.trans (b.is.mixed e))
  · refine ⟨(fun xs z => by rw [b.hwr] at z; cases z), fun ns l z => ?_⟩
    rw [b.hwr] at z
    have e := HO.lst.inj (Option.some.inj z)
    exact len64 l (e.symm.trans (b.iw.mixed e))
  · refine ⟨(fun xs z => by rw [b.hwa] at z; cases z), fun ns l z => ?_⟩
    rw [b.hwa] at z
    have e := HO.lst.inj (Option.some.inj z)
    exact len64 l (e.symm.trans (b.it.mixed e))
def DkAt (C : Addr) (H : Hp) (s : Addr) (m : DM) (F : Addr → Prop) : Prop := ∃ dx Sy Wr Wa xs ys zs, DkB C H s dx Sy Wr Wa xs ys zs m ∧ F = dFt s Sy Wr Wa
/-- what stands stays: the disk stays -/
theorem DkB.to {C : Addr} {H H' : Hp} {s dx Sy Wr Wa : Addr} {xs ys zs : List V} {m : DM} (b : DkB C H s dx Sy Wr Wa xs ys zs m) (k : ∀ a o, H a = some o → (dFt s Sy Wr Wa a ∨ (∃ xs, o = .tup xs) ∨ ∃ ns : List Int, ns.length = 64 ∧ o = .lst (ns.map V.int)) → H' a = some o) : DkB C H' s dx Sy Wr Wa xs ys zs m := by
  have ki : ∀ {vs : List V} {ds : List (List Int)}, Ils H vs ds → (∀ d ∈ ds, d.length = 64) → Ils H' vs ds := fun h => by
    induction h with
    | nil => exact fun _ => .nil
    | cons a r ih =>
      intro l
      obtain ⟨p, rfl, e⟩ := a
      exact .cons ⟨p, rfl, k _ _ e (.inr (.inr ⟨_, l _ List.mem_cons_self, rfl⟩))⟩ (ih fun d md => l d (List.mem_cons_of_mem _ md))
  have kt : ∀ {vs : List V} {ps : List (Nat × List Int)}, Wts H vs ps → (∀ p ∈ ps, p.2.length = 64) → Wts H' vs ps := fun h => by
    induction h with
    | nil => exact fun _ => .nil
    | cons a b _ ih => exact fun l => .cons (k _ _ a (.inr (.inl ⟨_, rfl⟩))) (k _ _ b (.inr (.inr ⟨_, l _ List.mem_cons_self, rfl⟩))) (ih fun d md => l d (List.mem_cons_of_mem _ md))
  exact ⟨k _ _ b.hs (.inl (.inl rfl)), k _ _ b.hsy (.inl (.inr (.inl rfl))), k _ _ b.hwr (.inl (.inr (.inr (.inl rfl)))), k _ _ b.hwa (.inl (.inr (.inr (.inr rfl)))), ki b.is b.fit.s64, ki b.iw b.fit.w64, kt b.it (fun p m => (b.fit.t64 p m).2), b.n1, b.n2, b.n3, b.fit⟩
theorem DkAt.same {C : Addr} {H H' : Hp} {s : Addr} {m : DM} {F : Addr → Prop} (b : DkAt C H s m F) (k : Same H H') : DkAt C H' s m F := by
  obtain ⟨dx, Sy, Wr, Wa, xs, ys, zs, b, e⟩ := b
  exact ⟨dx, Sy, Wr, Wa, xs, ys, zs, b.to (fun a o h _ => k a o h), e⟩
theorem DkAt.mu {C : Addr} {H : Hp} {s : Addr} {m : DM} {F : Addr → Prop} (b : DkAt C H s m F) : Mu F H := by
  obtain ⟨dx, Sy, Wr, Wa, xs, ys, zs, b, rfl⟩ := b
  exact b.mu
/-- the class Disk as the top has made it -/
structure Cd (K : PySem.W.Frag) (mg : Str → Option Value) (C P R I : Addr) : Prop where
  cl : Cls K C
  nIU : NoAttr K C "in_use"
  nSy : NoAttr K C "synced"
  nWr : NoAttr K C "written"
  nWa : NoAttr K C "waiting"
  nWs : NoAttr K C "writes"
  nSs : NoAttr K C "syncs"
  nFa : NoAttr K C "failures"
  nOn : NoAttr K C "on"
  nAl : NoAttr K C "allowed"
  mgC : mg "Disk" = some (.ref C)
  c60 : ∃ t, mg "LEAST_SECTORS" = some (.int 60 t)
  c400 : ∃ t, mg "MOST_SECTORS" = some (.int 400 t)
  c64 : ∃ t, mg "SECTOR_BYTES" = some (.int 64 t)
  gP : mg "PowerOff" = some (.ref P)
  xP : PySem.W.excIn K P [.type "ValueError", .type "Exception", .type "BaseException", .type "object"] "ValueError.__new__" = true
  kP : PySem.W.keepIn K (.ref P) = true
  bP : PySem.W.subIn K (.ref P) (.type "BaseException") = some true
  tP : PySem.W.typeIn K (.ref P) = some (.type "type")
  gI : mg "InvalidArgument" = some (.ref I)
  xI : PySem.W.excIn K I [.type "ValueError", .type "Exception", .type "BaseException", .type "object"] "ValueError.__new__" = true
  kI : PySem.W.keepIn K (.ref I) = true
  bI : PySem.W.subIn K (.ref I) (.type "BaseException") = some true
  tI : PySem.W.typeIn K (.ref I) = some (.type "type")
  gR : mg "RuleError" = some (.ref R)
  eP : PySem.W.exmOne K (.ref P) (.ref P) = some true
  eI : PySem.W.exmOne K (.ref I) (.ref R) = some true
  iI : ExcC K I
  i1 : PySem.W.kitOne K (.ref I) (.ref I) = some true
  i2 : PySem.W.kitOne K (.ref I) (.type "ValueError") = some true
  gV : mg "ValueError" = none
/-- a method as its callers know it -/
structure MDef (P : Program) (w : World) (K : PySem.W.Frag) (mg : Str → Option Value) (base : Heap) (C : Addr) (m : Str) (k : Nat) (ps : List Str) (sp : Sp) : Prop where
  ex : ∃ (f : Addr) (fd : FuncData), FnOk P w K mg base CX0 k f fd ps sp ∧ Meth K C m f ∧ Binds K fd ps []
structure MDefX (P : Program) (w : World) (K : PySem.W.Frag) (mg : Str → Option Value) (base : Heap) (C : Addr) (m : Str) (k : Nat) (ps : List Str) (sp : Sp) : Prop where
  ex : ∃ (f : Addr) (fd : FuncData), FnOk P w K mg base (L2.CX P w) k f fd ps sp ∧ Meth K C m f ∧ Binds K fd ps []
section
variable {X : Cx} {k : Nat} {m : Str} {C : Addr} {ps : List Str} {sp : Sp} {o e : Expr} {es : List Expr} {ta : TE} {t : TA} {pos apos : Pos} {E : XK}
theorem pe_mdef (D : MDef X.prog X.w X.K X.mg X.base C m k ps sp) (he : PE X o ta) (c : Cls X.K C) (hr : Room k X.A) (ha : PA X (e :: es) t) {pl : Sem Bool}
    (hst : starEach (e :: es) X.env = (false, eval e X.env) :: starEach es X.env := by rfl) (hpl : (backTo pos (starEach es X.env)).any (·.1) = false := by rfl)
    (ht : eval (.Call (.Attribute o m apos) (e :: es) [] pos) X.env = (do
      let ov ← eval o X.env
      standAt apos.atName
      let (f, first) ← holding [ov] (getMethod ov m pl)
      callWith pos f first (backTo pos (starEach (e :: es) X.env)) (backToKw pos (keywordEach [] X.env))) := by rfl) : PE X (.Call (.Attribute o m apos) (e :: es) [] pos) (tMeth C m sp [] E0 ta t) := by
  obtain ⟨f, fd, F, M, hb⟩ := D.ex
  exact pe_meth he c M F hr hb .nil pass0 ha hst hpl ht
theorem pe_mdef0 (D : MDef X.prog X.w X.K X.mg X.base C m k ps sp) (he : PE X o ta) (c : Cls X.K C) (hr : Room k X.A) {pl : Sem Bool}
    (ht : eval (.Call (.Attribute o m apos) [] [] pos) X.env = (do
      let ov ← eval o X.env
      standAt apos.atName
      let (f, first) ← holding [ov] (getMethod ov m pl)
      callWith pos f first (backTo pos (starEach [] X.env)) (backToKw pos (keywordEach [] X.env))) := by rfl) : PE X (.Call (.Attribute o m apos) [] [] pos) (tMeth C m sp [] E0 ta tNil) := by
  obtain ⟨f, fd, F, M, hb⟩ := D.ex
  exact pe_meth0 he c M F hr hb .nil pass0 ht
theorem pe_mdefX (D : MDefX X.prog X.w X.K X.mg X.base C m k ps sp) (he : PE X o ta) (c : Cls X.K C) (hr : Room k X.A) (hx : Passes (L2.CX X.prog X.w) X E) (ha : PA X (e :: es) t) {pl : Sem Bool}
    (hst : starEach (e :: es) X.env = (false, eval e X.env) :: starEach es X.env := by rfl) (hpl : (backTo pos (starEach es X.env)).any (·.1) = false := by rfl)
    (ht : eval (.Call (.Attribute o m apos) (e :: es) [] pos) X.env = (do
      let ov ← eval o X.env
      standAt apos.atName
      let (f, first) ← holding [ov] (getMethod ov m pl)
      callWith pos f first (backTo pos (starEach (e :: es) X.env)) (backToKw pos (keywordEach [] X.env))) := by rfl) : PE X (.Call (.Attribute o m apos) (e :: es) [] pos) (tMeth C m sp [] E ta t) := by
  obtain ⟨f, fd, F, M, hb⟩ := D.ex
  exact pe_meth he c M F hr hb .nil hx ha hst hpl ht
theorem pe_mdefX0 (D : MDefX X.prog X.w X.K X.mg X.base C m k ps sp) (he : PE X o ta) (c : Cls X.K C) (hr : Room k X.A) (hx : Passes (L2.CX X.prog X.w) X E) {pl : Sem Bool}
    (ht : eval (.Call (.Attribute o m apos) [] [] pos) X.env = (do
      let ov ← eval o X.env
      standAt apos.atName
      let (f, first) ← holding [ov] (getMethod ov m pl)
      callWith pos f first (backTo pos (starEach [] X.env)) (backToKw pos (keywordEach [] X.env))) := by rfl) : PE X (.Call (.Attribute o m apos) [] [] pos) (tMeth C m sp [] E ta tNil) := by
  obtain ⟨f, fd, F, M, hb⟩ := D.ex
  exact pe_meth0 he c M F hr hb .nil hx ht
end
/-! ### methods and makings within a try: what is raised is wished for at the slots -/
def tMethS (C : Addr) (m : Str) (sp : Sp) (E : L2.St → XK) (ta : TE) (t : TA) : TE := fun σ H Q => ta σ H fun x H1 => ∃ a dx fs, x = .ref a ∧ H1 a = some (.ins C dx fs) ∧ fs.lookup m = none ∧ t σ H1 fun vs H2 => sp (x :: vs) H2 Q (E σ)
def tMakeS (C : Addr) (sp : Sp) (E : L2.St → XK) (t : TA) : TE := fun σ H Q => t σ H fun vs H1 => ∀ x dx, H1 x = none → H1 dx = none → dx ≠ x → sp (.ref x :: vs) (upd (upd H1 dx (.own x)) x (.ins C dx [])) (fun v H2 => v = .non ∧ Q (.ref x) H2) (E σ)
section
variable {X : Cx} {CX : CXT} {k : Nat} {m x : Str} {C f : Addr} {fd : FuncData} {ps : List Str} {sp : Sp} {o e : Expr} {es : List Expr} {ta : TE} {t : TA} {p pos apos : Pos} {E : L2.St → XK}
theorem pe_methS' {pl : Sem Bool} (he : PE X o ta) (c : Cls X.K C) (hm : Meth X.K C m f) (F : FnOk X.prog X.w X.K X.mg X.base CX k f fd ps sp) (hr : Room k X.A) (hb : Binds X.K fd ps []) (hx : ∀ σ, PassesAt CX X σ (E σ)) (ha : PA X (e :: es) t)
    (hst : starEach (e :: es) X.env = (false, eval e X.env) :: starEach es X.env := by rfl) (hpl : (backTo pos (starEach es X.env)).any (·.1) = false := by rfl)
    (ht : eval (.Call (.Attribute o m apos) (e :: es) [] pos) X.env = (do
      let ov ← eval o X.env
      standAt apos.atName
      let (f, first) ← holding [ov] (getMethod ov m pl)
      callWith pos f first (backTo pos (starEach (e :: es) X.env)) (backToKw pos (keywordEach [] X.env))) := by rfl) :
    PE X (.Call (.Attribute o m apos) (e :: es) [] pos) (tMethS C m sp E ta t) := by
  refine ⟨fun pins s σ H Q I h => ?_⟩
  refine PySem.W.methodCall_KW (pl := pl) (thn (he.run pins s σ H _ I h) fun u s1 ⟨x, H1, I1, rx, a, dx, fs, ex, ea, l, q⟩ => ?_) ht
  subst ex
  obtain rfl : u = Value.ref a := rx
  refine getmeth_ok I1 ea c hm l ?_
  refine PySem.W.callWith_K (first := [.ref a]) (h₀ := X.base) I.ok.mod.kin hm.kp (thn (ha.run pos pins s1 σ H1 _ I1 q) fun us s2 ⟨vs, H2, I2, r, q2⟩ => ⟨I2.kIn, ?_⟩) hst hpl
  exact run_fnS (us := .ref a :: us) (vs := .ref a :: vs) F hr hb (hx σ) I2 (.cons rfl r) q2
theorem pe_methS0' {pl : Sem Bool} (he : PE X o ta) (c : Cls X.K C) (hm : Meth X.K C m f) (F : FnOk X.prog X.w X.K X.mg X.base CX k f fd ps sp) (hr : Room k X.A) (hb : Binds X.K fd ps []) (hx : ∀ σ, PassesAt CX X σ (E σ))
    (ht : eval (.Call (.Attribute o m apos) [] [] pos) X.env = (do
      let ov ← eval o X.env
      standAt apos.atName
      let (f, first) ← holding [ov] (getMethod ov m pl)
      callWith pos f first (backTo pos (starEach [] X.env)) (backToKw pos (keywordEach [] X.env))) := by rfl) :
    PE X (.Call (.Attribute o m apos) [] [] pos) (tMethS C m sp E ta tNil) := by
  refine ⟨fun pins s σ H Q I h => ?_⟩
  refine PySem.W.methodCall_KW (pl := pl) (thn (he.run pins s σ H _ I h) fun u s1 ⟨x, H1, I1, rx, a, dx, fs, ex, ea, l, q⟩ => ?_) ht
  subst ex
  obtain rfl : u = Value.ref a := rx
  refine getmeth_ok I1 ea c hm l ?_
  refine PySem.W.callWith_K0 (first := [.ref a]) I1.kIn hm.kp ?_
  exact run_fnS (us := [.ref a]) (vs := [.ref a]) F hr hb (hx σ) I1 (.cons rfl .nil) q
theorem run_makeS {pins : List (Addr × Obj)} {σ : L2.St} {H : Hp} {s : Shared} {Q : VK} {us : List Value} {vs : List V} (M : Mk X.K C f) (F : FnOk X.prog X.w X.K X.mg X.base CX k f fd ps sp) (hr : Room (k + 1) X.A) (hb : Binds X.K fd ps [])
    (hx : PassesAt CX X σ (E σ)) (I : Inv X pins σ H s) (r : Vals vs us)
    (h : ∀ x dx, H x = none → H dx = none → dx ≠ x → sp (.ref x :: vs) (upd (upd H dx (.own x)) x (.ins C dx [])) (fun v H2 => v = .non ∧ Q (.ref x) H2) (E σ)) :
    wpAny (model X.prog X.w) X.A (call (.ref C) us) (EP X pins σ Q) X.xe s := by
  have hq := h (s.heap.objs.size + 1) s.heap.objs.size (I.hok.fresh (Nat.le_succ _)) (I.hok.fresh (Nat.le_refl _)) (Nat.ne_of_lt (Nat.lt_succ_self _))
  have I2 := Inv.made (C := C) I
  have r2 : Vals (V.ref (s.heap.objs.size + 1) :: vs) (Value.ref (s.heap.objs.size + 1) :: us) := .cons rfl r
  have hl : (Value.ref (s.heap.objs.size + 1) :: us ++ []).length = ps.length := by
    have e := r2.length
    rw [F.len _ _ _ _ hq] at e
    rw [List.append_nil]
    exact e.symm
  refine wpAny_call (make_map (f := f) I.kIn M.makes M.init (beq_iff_eq.mp M.fn) (codeAny_mono (F.run _ X.stack _ _ ⟨Value.ref (s.heap.objs.size + 1) :: us, []⟩ (Value.ref (s.heap.objs.size + 1) :: us) _ _ (E σ) (hr.make C us [])
    (I2.env0.make C us []) (by have := hb _ (Value.ref (s.heap.objs.size + 1) :: us) I2.kIn hl; rw [List.append_nil] at this; exact this) r2 hq) fun r s' hq' => ?_))
  cases r with
  | error e => exact hx pins _ _ e s' I2 hq'
  | ok fl =>
    cases fl with
    | ret u =>
      obtain ⟨v, H', I3, rv, ev, q3⟩ := I2.after hq'
      subst ev
      exact ⟨rv, ⟨V.ref (s.heap.objs.size + 1), H', I3, rfl, q3⟩⟩
    | next => exact False.elim hq'
    | brk => exact False.elim hq'
    | cont => exact False.elim hq'
theorem pe_makeS (M : Mk X.K C f) (F : FnOk X.prog X.w X.K X.mg X.base CX k f fd ps sp) (hr : Room (k + 1) X.A) (hg : Gl X x) (hm : X.mg x = some (.ref C)) (hb : Binds X.K fd ps []) (hx : ∀ σ, PassesAt CX X σ (E σ))
    (ha : PA X (e :: es) t) (hdb : (x == ("__debug__" : Str)) = false := by decide) (he : starEach (e :: es) X.env = (false, eval e X.env) :: starEach es X.env := by rfl) (hpl : (backTo pos (starEach es X.env)).any (·.1) = false := by rfl) :
    PE X (.Call (.Name x p) (e :: es) [] pos) (tMakeS C sp E t) := by
  refine ⟨fun pins s σ H Q I h => ?_⟩
  refine wpAny_Call_Name_kw (ld_glob I hg hm ?_ hdb)
  refine PySem.W.callWith_K (h₀ := X.base) I.ok.mod.kin M.kp (thn (ha.run pos pins s σ H _ I h) fun us s1 ⟨vs, H1, I1, r, q⟩ => ⟨I1.kIn, ?_⟩) he hpl
  exact run_makeS M F hr hb (hx σ) I1 r q
theorem pe_mdefXS (D : MDefX X.prog X.w X.K X.mg X.base C m k ps sp) (he : PE X o ta) (c : Cls X.K C) (hr : Room k X.A) (hx : ∀ σ, PassesAt (L2.CX X.prog X.w) X σ (E σ)) (ha : PA X (e :: es) t) {pl : Sem Bool}
    (hst : starEach (e :: es) X.env = (false, eval e X.env) :: starEach es X.env := by rfl) (hpl : (backTo pos (starEach es X.env)).any (·.1) = false := by rfl)
    (ht : eval (.Call (.Attribute o m apos) (e :: es) [] pos) X.env = (do
      let ov ← eval o X.env
      standAt apos.atName
      let (f, first) ← holding [ov] (getMethod ov m pl)
      callWith pos f first (backTo pos (starEach (e :: es) X.env)) (backToKw pos (keywordEach [] X.env))) := by rfl) : PE X (.Call (.Attribute o m apos) (e :: es) [] pos) (tMethS C m sp E ta t) := by
  obtain ⟨f, fd, F, M, hb⟩ := D.ex
  exact pe_methS' he c M F hr hb hx ha hst hpl ht
theorem pe_mdefX0S (D : MDefX X.prog X.w X.K X.mg X.base C m k ps sp) (he : PE X o ta) (c : Cls X.K C) (hr : Room k X.A) (hx : ∀ σ, PassesAt (L2.CX X.prog X.w) X σ (E σ)) {pl : Sem Bool}
    (ht : eval (.Call (.Attribute o m apos) [] [] pos) X.env = (do
      let ov ← eval o X.env
      standAt apos.atName
      let (f, first) ← holding [ov] (getMethod ov m pl)
      callWith pos f first (backTo pos (starEach [] X.env)) (backToKw pos (keywordEach [] X.env))) := by rfl) : PE X (.Call (.Attribute o m apos) [] [] pos) (tMethS C m sp E ta tNil) := by
  obtain ⟨f, fd, F, M, hb⟩ := D.ex
  exact pe_methS0' he c M F hr hb hx ht
end
theorem small6 {n : Nat} (h : n ≤ 1000000) : n ≤ sizeLine := by rw [sizeLine_eq]; omega
theorem small7 {n : Nat} (h : n ≤ 1000000) : n < sizeLine := by rw [sizeLine_eq]; omega
section
variable {P : Program} {w : World} {K : PySem.W.Frag} {mg : Str → Option Value} {base : Heap} {C XP XR XI : Addr}
/-! ### what is told -/
abbrev sMSz : Stmt := inClass (topS 8) 1
abbrev nMSz : List Str := ["self"]
theorem scMSz : FnScope nMSz ["self"] (defScope sMSz) := ⟨rfl, rfl, rfl, by decide +kernel, rfl, by decide +kernel, by decide +kernel⟩
def spMSz (C : Addr) : Sp := fun vs H Q _ => ∃ (s : Addr) (m : DM) (F : Addr → Prop), vs = [.ref s] ∧ DkAt C H s m F ∧ Q (.int (m.wr.length : Nat)) H
theorem ok_msz {f0 : Addr} {fd : FuncData} (F0 : Fun K "size" "Disk.size" sMSz f0 fd) (B : Bt mg) (T : Cd K mg C XP XR XI) : FnOk P w K mg base CX0 1 f0 fd ["self"] (spMSz C) := by
  refine F0.ok scMSz (fun vs H Q E h => ?_) (fun cdv A outer s0 H vs Q E hr h => ?_)
  · obtain ⟨_, _, _, rfl, _⟩ := h
    rfl
  · obtain ⟨s, m, F, rfl, D, q⟩ := h
    obtain ⟨dx, Sy, Wr, Wa, xs, ys, zs, b, rfl⟩ := D
    refine ⟨_, (pss_one (ps_ret (pe_callB call_len_seq (by rfl) B.len PySem.boot_len (pa_cons (pe_fld (pv 0) rfl) pa_nil)))), ?_⟩
    refine ⟨.ref s, rfl, s, C, dx, _, .ref Wr, rfl, b.hs, T.cl, T.nWr, rfl, Wr, _, rfl, .inl (SqL.of b.hwr), ?_⟩
    rw [b.iw.length]
    exact q
abbrev sMRe : Stmt := inClass (topS 8) 2
abbrev nMRe : List Str := ["self", "index"]
theorem scMRe : FnScope nMRe ["self", "index"] (defScope sMRe) := ⟨rfl, rfl, rfl, by decide +kernel, rfl, by decide +kernel, by decide +kernel⟩
def spMRe (C : Addr) : Sp := fun vs H Q _ => ∃ (s : Addr) (m : DM) (F : Addr → Prop) (i : Nat) (d : List Int), vs = [.ref s, .int (i : Int)] ∧ DkAt C H s m F ∧ m.wr[i]? = some d ∧ ∀ p H', Same H H' → H p = none → H' p = some (.lst (d.map V.int)) → Q (.ref p) H'
theorem ok_mre {f0 : Addr} {fd : FuncData} (F0 : Fun K "read" "Disk.read" sMRe f0 fd) (B : Bt mg) (T : Cd K mg C XP XR XI) : FnOk P w K mg base CX0 1 f0 fd ["self", "index"] (spMRe C) := by
  refine F0.ok scMRe (fun vs H Q E h => ?_) (fun cdv A outer s0 H vs Q E hr h => ?_)
  · obtain ⟨_, _, _, _, _, rfl, _⟩ := h
    rfl
  · obtain ⟨s, m, F, i, d, rfl, D, ei, q⟩ := h
    obtain ⟨dx, Sy, Wr, Wa, xs, ys, zs, b, rfl⟩ := D
    refine ⟨_, (pss_one (ps_ret (pe_callTy call_list_of (by rfl) B.lst (by decide +kernel) (pa_cons (pe_ix ix_list (pe_fld (pv 0) rfl) (pv 1) (fun _ _ => rfl)) pa_nil)))), ?_⟩
    obtain ⟨v, ev, p, rfl, ep⟩ := b.iw.at_ ei
    refine ⟨.ref s, rfl, s, C, dx, _, .ref Wr, rfl, b.hs, T.cl, T.nWr, rfl, .int (i : Int), rfl, Wr, _, (i : Int), .ref p, rfl, rfl, SqL.of b.hwr, atI_nat ev, p, _, rfl, .inl (SqL.of ep), fun l nl => ?_⟩
    exact q l _ (same_new nl) nl upd_same
abbrev sMPe : Stmt := inClass (topS 8) 3
abbrev nMPe : List Str := ["self"]
theorem scMPe : FnScope nMPe ["self"] (defScope sMPe) := ⟨rfl, rfl, rfl, by decide +kernel, rfl, by decide +kernel, by decide +kernel⟩
def spMPe (C : Addr) : Sp := fun vs H Q _ => ∃ (s : Addr) (m : DM) (F : Addr → Prop), vs = [.ref s] ∧ DkAt C H s m F ∧ Q (.int (m.wt.length : Nat)) H
theorem ok_mpe {f0 : Addr} {fd : FuncData} (F0 : Fun K "pending" "Disk.pending" sMPe f0 fd) (B : Bt mg) (T : Cd K mg C XP XR XI) : FnOk P w K mg base CX0 1 f0 fd ["self"] (spMPe C) := by
  refine F0.ok scMPe (fun vs H Q E h => ?_) (fun cdv A outer s0 H vs Q E hr h => ?_)
  · obtain ⟨_, _, _, rfl, _⟩ := h
    rfl
  · obtain ⟨s, m, F, rfl, D, q⟩ := h
    obtain ⟨dx, Sy, Wr, Wa, xs, ys, zs, b, rfl⟩ := D
    refine ⟨_, (pss_one (ps_ret (pe_callB call_len_seq (by rfl) B.len PySem.boot_len (pa_cons (pe_fld (pv 0) rfl) pa_nil)))), ?_⟩
    refine ⟨.ref s, rfl, s, C, dx, _, .ref Wa, rfl, b.hs, T.cl, T.nWa, rfl, Wa, _, rfl, .inl (SqL.of b.hwa), ?_⟩
    rw [b.it.length]
    exact q
abbrev sMCn : Stmt := inClass (topS 8) 4
abbrev nMCn : List Str := ["self"]
theorem scMCn : FnScope nMCn ["self"] (defScope sMCn) := ⟨rfl, rfl, rfl, by decide +kernel, rfl, by decide +kernel, by decide +kernel⟩
def spMCn (C : Addr) : Sp := fun vs H Q _ => ∃ (s : Addr) (m : DM) (F : Addr → Prop), vs = [.ref s] ∧ DkAt C H s m F ∧ ∀ p H', Same H H' → H p = none → H' p = some (.tup [.int (m.ws : Nat), .int (m.ss : Nat)]) → Q (.ref p) H'
theorem ok_mcn {f0 : Addr} {fd : FuncData} (F0 : Fun K "counts" "Disk.counts" sMCn f0 fd) (T : Cd K mg C XP XR XI) : FnOk P w K mg base CX0 1 f0 fd ["self"] (spMCn C) := by
  refine F0.ok scMCn (fun vs H Q E h => ?_) (fun cdv A outer s0 H vs Q E hr h => ?_)
  · obtain ⟨_, _, _, rfl, _⟩ := h
    rfl
  · obtain ⟨s, m, F, rfl, D, q⟩ := h
    obtain ⟨dx, Sy, Wr, Wa, xs, ys, zs, b, rfl⟩ := D
    refine ⟨_, (pss_one (ps_ret (pe_tup (pa_cons (pe_fld (pv 0) rfl) (pa_cons (pe_fld (pv 0) rfl) pa_nil))))), ?_⟩
    exact ⟨.ref s, rfl, s, C, dx, _, _, rfl, b.hs, T.cl, T.nWs, rfl, .ref s, rfl, s, C, dx, _, _, rfl, b.hs, T.cl, T.nSs, rfl, (by show 2 ≤ sizeLine; exact small6 (by decide)), fun p np => q p _ (same_new np) np upd_same⟩
abbrev sMOn : Stmt := inClass (topS 8) 5
abbrev nMOn : List Str := ["self"]
theorem scMOn : FnScope nMOn ["self"] (defScope sMOn) := ⟨rfl, rfl, rfl, by decide +kernel, rfl, by decide +kernel, by decide +kernel⟩
def spMOn (C : Addr) : Sp := fun vs H Q _ => ∃ (s : Addr) (m : DM) (F : Addr → Prop), vs = [.ref s] ∧ DkAt C H s m F ∧ Q (.bl m.on) H
theorem ok_mon {f0 : Addr} {fd : FuncData} (F0 : Fun K "is_on" "Disk.is_on" sMOn f0 fd) (T : Cd K mg C XP XR XI) : FnOk P w K mg base CX0 1 f0 fd ["self"] (spMOn C) := by
  refine F0.ok scMOn (fun vs H Q E h => ?_) (fun cdv A outer s0 H vs Q E hr h => ?_)
  · obtain ⟨_, _, _, rfl, _⟩ := h
    rfl
  · obtain ⟨s, m, F, rfl, D, q⟩ := h
    obtain ⟨dx, Sy, Wr, Wa, xs, ys, zs, b, rfl⟩ := D
    refine ⟨_, (pss_one (ps_ret (pe_fld (pv 0) rfl))), ?_⟩
    exact ⟨.ref s, rfl, s, C, dx, _, _, rfl, b.hs, T.cl, T.nOn, rfl, q⟩
abbrev sMLo : Stmt := inClass (topS 8) 6
abbrev nMLo : List Str := ["self"]
theorem scMLo : FnScope nMLo ["self"] (defScope sMLo) := ⟨rfl, rfl, rfl, by decide +kernel, rfl, by decide +kernel, by decide +kernel⟩
def spMLo (C : Addr) : Sp := fun vs H Q _ => ∃ (s : Addr) (m : DM) (F : Addr → Prop), vs = [.ref s] ∧ DkAt C H s m F ∧ Q (.int (m.fa : Nat)) H
theorem ok_mlo {f0 : Addr} {fd : FuncData} (F0 : Fun K "losses" "Disk.losses" sMLo f0 fd) (T : Cd K mg C XP XR XI) : FnOk P w K mg base CX0 1 f0 fd ["self"] (spMLo C) := by
  refine F0.ok scMLo (fun vs H Q E h => ?_) (fun cdv A outer s0 H vs Q E hr h => ?_)
  · obtain ⟨_, _, _, rfl, _⟩ := h
    rfl
  · obtain ⟨s, m, F, rfl, D, q⟩ := h
    obtain ⟨dx, Sy, Wr, Wa, xs, ys, zs, b, rfl⟩ := D
    refine ⟨_, (pss_one (ps_ret (pe_fld (pv 0) rfl))), ?_⟩
    exact ⟨.ref s, rfl, s, C, dx, _, _, rfl, b.hs, T.cl, T.nFa, rfl, q⟩
end
end MK

namespace MK
open PySem PySem.Spec PyProof.Rows L2 KA
/-- the disk's own object is written, its lists stay -/
theorem DkB.fld {C : Addr} {H : Hp} {s dx Sy Wr Wa : Addr} {xs ys zs : List V} {m m' : DM} (b : DkB C H s dx Sy Wr Wa xs ys zs m) (h1 : m'.sy = m.sy) (h2 : m'.wr = m.wr) (h3 : m'.wt = m.wt) : DkB C (upd H s (.ins C dx (dF Sy Wr Wa m'))) s dx Sy Wr Wa xs ys zs m' := by
  have mu := b.mu
  have ns : Sy ≠ s := fun z => by have := b.hsy; rw [z, b.hs] at this; cases this
  have nw : Wr ≠ s := fun z => by have := b.hwr; rw [z, b.hs] at this; cases this
  have na : Wa ≠ s := fun z => by have := b.hwa; rw [z, b.hs] at this; cases this
  have o : Out (dFt s Sy Wr Wa) H (upd H s (.ins C dx (dF Sy Wr Wa m'))) := Out.put (.inl rfl)
  refine ⟨upd_same, by rw [upd_ne ns]; exact b.hsy, by rw [upd_ne nw]; exact b.hwr, by rw [upd_ne na]; exact b.hwa, ?_, ?_, ?_, b.n1, b.n2, b.n3, ?_⟩
  · rw [h1]; exact b.is.out o mu b.fit.s64
  · rw [h2]; exact b.iw.out o mu b.fit.w64
  · rw [h3]; exact b.it.out o mu (fun p q => (b.fit.t64 p q).2)
  · have f := b.fit
    exact ⟨by rw [h1, h2]; exact f.len, by rw [h1]; exact f.lo, by rw [h1]; exact f.hi, by rw [h1]; exact f.s64, by rw [h2]; exact f.w64, by rw [h1, h3]; exact f.t64, by rw [h3]; exact f.few⟩
section
variable {P : Program} {w : World} {K : PySem.W.Frag} {mg : Str → Option Value} {base : Heap} {C XP XR XI : Addr}
abbrev sMFl : Stmt := inClass (topS 8) 12
abbrev nMFl : List Str := ["self"]
theorem scMFl : FnScope nMFl ["self"] (defScope sMFl) := ⟨rfl, rfl, rfl, by decide +kernel, rfl, by decide +kernel, by decide +kernel⟩
def spMFl (C : Addr) : Sp := fun vs H Q _ => ∃ (s dx Sy Wr Wa : Addr) (xs ys zs : List V) (m : DM), vs = [.ref s] ∧ DkB C H s dx Sy Wr Wa xs ys zs m ∧ ∀ H', Out (dFt s Sy Wr Wa) H H' → DkB C H' s dx Sy Wr Wa xs ys zs (failM m) → Q .non H'
theorem ok_mfl {f0 : Addr} {fd : FuncData} (F0 : Fun K "_fail" "Disk._fail" sMFl f0 fd) (T : Cd K mg C XP XR XI) : FnOk P w K mg base CX0 1 f0 fd ["self"] (spMFl C) := by
  refine F0.ok scMFl (fun vs H Q E h => ?_) (fun cdv A outer s0 H vs Q E hr h => ?_)
  · obtain ⟨_, _, _, _, _, _, _, _, _, rfl, _⟩ := h
    rfl
  · obtain ⟨s, dx, Sy, Wr, Wa, xs, ys, zs, m, rfl, b, q⟩ := h
    refine ⟨_, (pss_cons (ps_fld (pv 0) pe_bl rfl)
      (pss_cons (ps_fld (pv 0) pe_bl rfl)
      (pss_cons (ps_fldaug (pv 0) pe_int in_add)
      (pss_one (ps_fld (pv 0) pe_non rfl))))), ?_⟩
    have b1 := b.fld (m' := { m with on := false }) rfl rfl rfl
    have b2 := b1.fld (m' := { m with on := false }) rfl rfl rfl
    have b3 := b2.fld (m' := { m with on := false, fa := m.fa + 1 }) rfl rfl rfl
    have b4 := b3.fld (m' := failM m) rfl rfl rfl
    have o1 : Out (dFt s Sy Wr Wa) H _ := Out.put (p := s) (o := .ins C dx (dF Sy Wr Wa { m with on := false })) (.inl rfl)
    have o2 := o1.trans (Out.put (p := s) (o := .ins C dx (dF Sy Wr Wa { m with on := false })) (.inl rfl))
    have o3 := o2.trans (Out.put (p := s) (o := .ins C dx (dF Sy Wr Wa { m with on := false, fa := m.fa + 1 })) (.inl rfl))
    have o4 := o3.trans (Out.put (p := s) (o := .ins C dx (dF Sy Wr Wa (failM m))) (.inl rfl))
    refine ⟨.ref s, rfl, s, C, dx, _, rfl, b.hs, T.cl, T.nOn, (by show 9 < 1000; decide), ?_⟩
    refine ⟨.ref s, rfl, s, C, dx, _, rfl, b1.hs, T.cl, T.nIU, (by show 9 < 1000; decide), ?_⟩
    refine ⟨.ref s, rfl, s, C, dx, _, .int (m.fa : Nat), rfl, b2.hs, T.cl, T.nFa, rfl, _, _, rfl, rfl, dx, _, b2.hs, (by show 9 < 1000; decide), ?_⟩
    refine ⟨.ref s, rfl, s, C, dx, _, rfl, b3.hs, T.cl, T.nAl, (by show 9 < 1000; decide), ?_⟩
    exact q _ o4 b4
abbrev mMFl (P : Program) (w : World) (K : PySem.W.Frag) (mg : Str → Option Value) (base : Heap) (C : Addr) : Prop := MDef P w K mg base C "_fail" 1 ["self"] (spMFl C)
abbrev sMBO : Stmt := inClass (topS 8) 11
abbrev nMBO : List Str := ["self"]
theorem scMBO : FnScope nMBO ["self"] (defScope sMBO) := ⟨rfl, rfl, rfl, by decide +kernel, rfl, by decide +kernel, by decide +kernel⟩
def spMBO (C XP : Addr) : Sp := fun vs H Q E => ∃ (s dx Sy Wr Wa : Addr) (xs ys zs : List V) (m : DM), vs = [.ref s] ∧ DkB C H s dx Sy Wr Wa xs ys zs m ∧ ((dueM m).on = true → ∀ H', Out (dFt s Sy Wr Wa) H H' → DkB C H' s dx Sy Wr Wa xs ys zs (opM m) → Q .non H') ∧ ((dueM m).on = false → ∀ H', Out (dFt s Sy Wr Wa) H H' → DkB C H' s dx Sy Wr Wa xs ys zs (dueM m) → E (.ref XP) none H')
theorem ok_mbo {f0 : Addr} {fd : FuncData} (F0 : Fun K "_begin_operation" "Disk._begin_operation" sMBO f0 fd) (T : Cd K mg C XP XR XI) (MMFl : mMFl P w K mg base C) : FnOk P w K mg base (L2.CX P w) 2 f0 fd ["self"] (spMBO C XP) := by
  refine F0.okX scMBO (fun vs H Q E h => ?_) (fun cdv A outer s0 H vs Q E hr h => ?_)
  · obtain ⟨_, _, _, _, _, _, _, _, _, rfl, _⟩ := h
    rfl
  · obtain ⟨s, dx, Sy, Wr, Wa, xs, ys, zs, m, rfl, D, q1, q2⟩ := h
    obtain ⟨F, eF⟩ : ∃ F, F = dFt s Sy Wr Wa := ⟨_, rfl⟩
    refine ⟨_, (C8.pss_cut (ps_if (pt_cmpR op_eq (pe_fld (pv 0) rfl) pe_int (nomark _))
        (pss_one (ps_expr (pe_mdef0 MMFl (pv 0) T.cl (hr.mono (by decide)))))
        pss_nil)
      (pss_cons (ps_if (pt_not (pt_val (pe_fld (pv 0) rfl)))
        (pss_one (ps_raise rfl (takes_of rfl rfl rfl rfl) (pmk_own PySem.F.excBase_ValueError T.xP T.gP T.kP (raises_own T.bP T.tP) rfl)))
        pss_nil)
      (pss_one (ps_if (pt_cmpR op_notN (pe_fld (pv 0) rfl) pe_non (nomark _))
        (pss_one (ps_fldaug (pv 0) pe_int in_sub))
        pss_nil)))), ?_⟩
    have al0 : ∀ n : Option Nat, decide (optV n = V.int 0) = decide (n = some 0) := fun n => by
      cases n with
      | none => rfl
      | some n =>
        by_cases z : n = 0
        · subst z
          rfl
        · rw [decide_eq_false (fun e => z (by injection e with e; omega)), decide_eq_false (fun e => z (Option.some.inj e))]
    have sc : ∀ n : Option Nat, scal (optV n) (.int 0) = true := fun n => by cases n <;> rfl
    refine ⟨fun σ H' => σ = [some (.ref s)] ∧ Out (dFt s Sy Wr Wa) H H' ∧ DkB C H' s dx Sy Wr Wa xs ys zs (dueM m), ?_, ?_⟩
    · have b := D
      refine ⟨.ref s, rfl, s, C, dx, _, optV m.al, rfl, b.hs, T.cl, T.nAl, rfl, sc _, _, rfl, ?_⟩
      rw [al0]
      by_cases c : m.al = some 0
      · refine iteT' (decide_eq_true c) ⟨.ref s, rfl, s, dx, _, rfl, b.hs, rfl, ?_⟩
        exact ⟨s, dx, Sy, Wr, Wa, xs, ys, zs, m, rfl, D, fun H' o d => ⟨rfl, o, by unfold dueM; rw [if_pos c]; exact d⟩⟩
      · exact iteF' (decide_eq_false c) ⟨rfl, fun _ _ _ h => h, by unfold dueM; rw [if_neg c]; exact D⟩
    · rintro σ H' ⟨rfl, o, D'⟩
      have b := D'
      refine ⟨.ref s, rfl, s, C, dx, _, .bl (dueM m).on, rfl, b.hs, T.cl, T.nOn, rfl, (dueM m).on, rfl, ?_⟩
      cases e : (dueM m).on with
      | false => exact iteT' rfl (q2 e H' o D')
      | true =>
        refine iteF' rfl ?_
        refine ⟨.ref s, rfl, s, C, dx, _, optV (dueM m).al, rfl, b.hs, T.cl, T.nAl, rfl, rfl, _, rfl, ?_⟩
        cases ea : (dueM m).al with
        | none =>
          refine iteF' (by decide) ?_
          refine q1 e H' o ?_
          have : opM m = dueM m := by
            unfold opM
            rw [ea]
            cases h : dueM m
            rw [h] at ea
            simp only at ea
            rw [ea]
            rfl
          rw [this]
          exact D'
        | some n =>
          refine iteT' (by rfl) ?_
          have b' := b.fld (m' := opM m) rfl rfl rfl
          refine ⟨.ref s, rfl, s, C, dx, _, .int (n : Nat), rfl, b.hs, T.cl, T.nAl, by show some (optV (dueM m).al) = _; rw [ea]; rfl, _, _, rfl, rfl, dx, _, b.hs, (by show 9 < 1000; decide), ?_⟩
          have en : 1 ≤ n := by
            rcases Nat.eq_zero_or_pos n with z | z
            · subst z
              unfold dueM at ea
              by_cases c : m.al = some 0
              · rw [if_pos c] at ea
                cases ea
              · rw [if_neg c] at ea
                exact absurd ea c
            · exact z
          have ef : putF "allowed" (.int ((n : Int) - 1)) (dF Sy Wr Wa (dueM m)) = dF Sy Wr Wa (opM m) := by
            have e2 : optV (opM m).al = .int ((n : Int) - 1) := by
              show optV ((dueM m).al.map (· - 1)) = _
              rw [ea]
              show V.int ((n - 1 : Nat) : Int) = _
              congr 1
              omega
            show [_, _, _, _, _, _, _, _, (("allowed" : Str), V.int ((n : Int) - 1))] = _
            rw [← e2]
            rfl
          rw [ef]
          exact q1 e _ (o.trans (Out.put (.inl rfl))) b'
abbrev mMBO (P : Program) (w : World) (K : PySem.W.Frag) (mg : Str → Option Value) (base : Heap) (C XP : Addr) : Prop := MDefX P w K mg base C "_begin_operation" 2 ["self"] (spMBO C XP)
abbrev sMFA : Stmt := inClass (topS 8) 9
abbrev nMFA : List Str := ["self", "operations"]
theorem scMFA : FnScope nMFA ["self", "operations"] (defScope sMFA) := ⟨rfl, rfl, rfl, by decide +kernel, rfl, by decide +kernel, by decide +kernel⟩
def spMFA (C XP : Addr) : Sp := fun vs H Q E => ∃ (s : Addr) (m : DM) (F : Addr → Prop) (n : Nat), vs = [.ref s, .int (n : Int)] ∧ DkAt C H s m F ∧ (m.on = true → ∀ H', Out F H H' → DkAt C H' s { m with al := some n } F → Q .non H') ∧ (m.on = false → E (.ref XP) none H)
theorem ok_mfa {f0 : Addr} {fd : FuncData} (F0 : Fun K "fail_after" "Disk.fail_after" sMFA f0 fd) (T : Cd K mg C XP XR XI) : FnOk P w K mg base (L2.CX P w) 1 f0 fd ["self", "operations"] (spMFA C XP) := by
  refine F0.okX scMFA (fun vs H Q E h => ?_) (fun cdv A outer s0 H vs Q E hr h => ?_)
  · obtain ⟨_, _, _, _, rfl, _⟩ := h
    rfl
  · obtain ⟨s, m, F, n, rfl, D, q1, q2⟩ := h
    refine ⟨_, (pss_cons (ps_if (pt_not (pt_val (pe_fld (pv 0) rfl)))
        (pss_one (ps_raise rfl (takes_of rfl rfl rfl rfl) (pmk_own PySem.F.excBase_ValueError T.xP T.gP T.kP (raises_own T.bP T.tP) rfl)))
        pss_nil)
      (pss_one (ps_fld (pv 0) (pv 1) rfl))), ?_⟩
    obtain ⟨dx, Sy, Wr, Wa, xs, ys, zs, b, rfl⟩ := id D
    refine ⟨.ref s, rfl, s, C, dx, _, .bl m.on, rfl, b.hs, T.cl, T.nOn, rfl, m.on, rfl, ?_⟩
    cases e : m.on with
    | false => exact iteT' rfl (q2 e)
    | true =>
      refine iteF' rfl ?_
      have b' := b.fld (m' := { m with al := some n }) rfl rfl rfl
      refine ⟨.int n, rfl, .ref s, rfl, s, C, dx, _, rfl, b.hs, T.cl, T.nAl, (by show 9 < 1000; decide), ?_⟩
      exact q1 e _ (Out.put (.inl rfl)) ⟨dx, Sy, Wr, Wa, xs, ys, zs, b', rfl⟩
abbrev sMSt : Stmt := inClass (topS 8) 13
abbrev nMSt : List Str := ["self", "arrived", "index", "data"]
theorem scMSt : FnScope nMSt ["self", "arrived"] (defScope sMSt) := ⟨rfl, rfl, rfl, by decide +kernel, rfl, by decide +kernel, by decide +kernel⟩
def spMSt (C : Addr) : Sp := fun vs H Q _ => ∃ (s a : Addr) (m : DM) (F : Addr → Prop) (zs : List V) (wt : List (Nat × List Int)), vs = [.ref s, .ref a] ∧ DkAt C H s m F ∧ H a = some (.lst zs) ∧ Wts H zs wt ∧ (∀ p ∈ wt, p.1 < m.sy.length ∧ p.2.length = 64) ∧
  ∀ H' F', Out F H H' → (∀ b, F' b → F b ∨ H b = none) → DkAt C H' s (settleM m wt) F' → Q .non H'
theorem arr_len (wt : List (Nat × List Int)) : ∀ sy, (arr sy wt).length = sy.length := by
  induction wt with
  | nil => intro sy; rfl
  | cons p r ih =>
    intro sy
    show (arr (sy.set p.1 p.2) r).length = _
    rw [ih, List.length_set]
theorem arr_snoc (sy : List (List Int)) (wt : List (Nat × List Int)) (p : Nat × List Int) : arr sy (wt ++ [p]) = (arr sy wt).set p.1 p.2 := by
  unfold arr
  rw [List.foldl_append]
  rfl
theorem arr_64 {sy : List (List Int)} {wt : List (Nat × List Int)} (h : ∀ d ∈ sy, d.length = 64) (h2 : ∀ p ∈ wt, p.2.length = 64) : ∀ d ∈ arr sy wt, d.length = 64 := by
  induction wt generalizing sy with
  | nil => exact h
  | cons p r ih =>
    refine ih (sy := sy.set p.1 p.2) (fun d m => ?_) fun q m => h2 q (List.mem_cons_of_mem _ m)
    rcases List.mem_or_eq_of_mem_set m with m | rfl
    · exact h d m
    · exact h2 p List.mem_cons_self
theorem ok_mst {f0 : Addr} {fd : FuncData} (F0 : Fun K "_settle" "Disk._settle" sMSt f0 fd) (B : Bt mg) (T : Cd K mg C XP XR XI) : FnOk P w K mg base CX0 1 f0 fd ["self", "arrived"] (spMSt C) := by
  refine F0.ok scMSt (fun vs H Q E h => ?_) (fun cdv A outer s0 H vs Q E hr h => ?_)
  · obtain ⟨_, _, _, _, _, _, rfl, _⟩ := h
    rfl
  · obtain ⟨s, a, m, F, ws, wt, rfl, D, ea, tw, hw, q⟩ := h
    refine ⟨_, (pss_cons (ps_for PassesOwn.never rfl (pi_list (pv 1)) (pg_tup rfl (pgs_cons (pg_name (i := 2) scMSt.nd rfl (Or.inl rfl)) (pgs_cons (pg_name (i := 3) scMSt.nd rfl (Or.inl rfl)) pgs_nil)))
        (pss_one (ps_asg (pv 3) (pg_sub (pe_fld (pv 0) rfl) (pv 2) set_list))))
      (pss_cons (ps_fld (pv 0) (pe_callTy call_list_of (by rfl) B.lst (by decide +kernel) (pa_cons (pe_fld (pv 0) rfl) pa_nil)) rfl)
      (pss_one (ps_fld (pv 0) (pe_lst pa_nil) rfl)))), ?_⟩
    obtain ⟨dx, Sy, Wr, Wa, xs, ys, zs, b, rfl⟩ := D
    have mu := b.mu
    have lw := tw.length
    have lxs := b.is.length
    have f := b.fit
    have naS : a ≠ Sy := fun z => by
      subst z
      have e := b.hsy
      rw [ea] at e
      have e := HO.lst.inj (Option.some.inj e)
      subst e
      obtain ⟨v, ev, p, rfl, ep⟩ := b.is.at_ (List.getElem?_eq_getElem (show 0 < m.sy.length by have := f.lo; omega))
      obtain ⟨t, p', i, d, e, _, et, _⟩ := tw.get ev
      cases e
      rw [ep] at et
      cases et
    refine ⟨.ref a, rfl, a, rfl, ⟨_, SqL.of ea⟩, ?_⟩
    refine for_list (K := K) (a := a) (xs := ws) (fun i σ H' => (∃ x2 x3, σ = [some (.ref s), some (.ref a), x2, x3]) ∧ (∀ c o, c ≠ Sy → H c = some o → H' c = some o) ∧ ∃ xs', H' Sy = some (.lst xs') ∧ Ils H' xs' (arr m.sy (wt.take i))) ⟨⟨none, none, rfl⟩, (fun _ _ _ h => h), xs, b.hsy, b.is⟩ (fun i σ H' _ hP => SqL.of (hP.2.1 _ _ naS ea)) (fun i x σ Hi hx hP => ?_) (fun σ H' hP => ?_)
    · obtain ⟨⟨x2, x3, rfl⟩, kp, xs', eS, rS⟩ := hP
      obtain ⟨t, p, j, d, rfl, ew, et, ep⟩ := tw.get hx
      have hwj := hw _ (List.mem_of_getElem? ew)
      have nt : t ≠ Sy := fun z => by rw [z, b.hsy] at et; cases et
      have np : p ≠ Sy := fun z => (mu Sy (.inr (.inl rfl))).2 d hwj.2 (by rw [← z]; exact ep)
      have lxs' : xs'.length = m.sy.length := by rw [rS.length, arr_len]
      have hs1 := kp _ _ (fun z => by have := b.hsy; rw [← z, b.hs] at this; cases this) b.hs
      refine ⟨t, _, rfl, SqT.of (kp _ _ nt et), rfl, _, _, rfl, _, _, rfl, rfl, ?_⟩
      refine ⟨.ref p, rfl, .ref s, rfl, s, C, dx, _, .ref Sy, rfl, hs1, T.cl, T.nSy, rfl, .int (j : Int), rfl, Sy, xs', (j : Int), j, rfl, rfl, eS, ?_, ⟨_, _, rfl⟩, fun c o hc h => ?_, xs'.set j (.ref p), upd_same, ?_⟩
      · unfold ixN
        rw [if_pos (by omega), if_pos (by omega)]
        simp
      · rw [upd_ne hc]
        exact kp c o hc h
      · rw [List.take_add_one, ew]
        show Ils _ _ (arr m.sy (wt.take i ++ [(j, d)]))
        rw [arr_snoc]
        have l64 : ∀ e ∈ (arr m.sy (wt.take i)).set j d, e.length = 64 := fun e me => by
          rcases List.mem_or_eq_of_mem_set me with me | rfl
          · exact arr_64 f.s64 (fun p' mp => (hw p' (List.mem_of_mem_take mp)).2) e me
          · exact hwj.2
        have r' : Ils Hi (xs'.set j (.ref p)) ((arr m.sy (wt.take i)).set j d) := rS.set j ⟨p, rfl, kp _ _ np ep⟩
        refine r'.upd fun r mr z => ?_
        subst z
        obtain ⟨k, hk⟩ := List.getElem?_of_mem mr
        obtain ⟨e, he, r', er, err⟩ := r'.get hk
        cases er
        have le := l64 e (List.mem_of_getElem? he)
        rw [eS] at err
        have err := HO.lst.inj (Option.some.inj err)
        exact len64 le (err.symm.trans (rS.mixed err))
    · obtain ⟨⟨x2, x3, rfl⟩, kp, xs', eS, rS⟩ := hP
      rw [lw, List.take_length] at rS
      have nSs : s ≠ Sy := fun z => by have := b.hsy; rw [← z, b.hs] at this; cases this
      have hs1 := kp _ _ nSs b.hs
      have lxs' : xs'.length = m.sy.length := by rw [rS.length, arr_len]
      have l64 := arr_64 f.s64 (fun p mp => (hw p mp).2)
      -- a copy of the list
      refine ⟨.ref s, rfl, s, C, dx, _, .ref Sy, rfl, hs1, T.cl, T.nSy, rfl, Sy, xs', rfl, .inl (SqL.of eS), fun p1 np1 => ?_⟩
      generalize hG : upd _ p1 _ = H1
      obtain ⟨s1, e1⟩ := gen_up hG np1
      clear hG
      refine ⟨.ref s, rfl, s, C, dx, _, rfl, s1 _ _ hs1, T.cl, T.nWr, (by show 9 < 1000; decide), ?_⟩
      have n1s : p1 ≠ s := fun z => by rw [z, hs1] at np1; cases np1
      have n1S : p1 ≠ Sy := fun z => by rw [z, eS] at np1; cases np1
      generalize hG : upd H1 s _ = H2
      have e2s : H2 s = some (.ins C dx (dF Sy p1 Wa m)) := by rw [← hG]; exact upd_same
      have k2 : ∀ c o, c ≠ s → H1 c = some o → H2 c = some o := fun c o hc h => by rw [← hG, upd_ne hc]; exact h
      have n2k : ∀ c, H2 c = none → H1 c = none ∧ c ≠ s := fun c h => by
        have hc : c ≠ s := fun z => by rw [z, e2s] at h; cases h
        rw [← hG, upd_ne hc] at h
        exact ⟨h, hc⟩
      clear hG
      refine ⟨Nat.zero_le _, fun p2 np2 => ?_⟩
      obtain ⟨n21, n2s⟩ := n2k p2 np2
      generalize hG : upd _ p2 _ = H3
      obtain ⟨s3, e3⟩ := gen_up hG np2
      clear hG
      have n12 : p1 ≠ p2 := fun z => by rw [← z, e1] at n21; cases n21
      refine ⟨.ref s, rfl, s, C, dx, _, rfl, s3 _ _ e2s, T.cl, T.nWa, (by show 9 < 1000; decide), ?_⟩
      have k4 : ∀ c o, c ≠ s → H' c = some o → (upd H3 s (.ins C dx (dF Sy p1 p2 (settleM m wt)))) c = some o := fun c o hc h => by
        rw [upd_ne hc]
        exact s3 _ _ (k2 c o hc (s1 _ _ h))
      have e1' : (upd H3 s (.ins C dx (dF Sy p1 p2 (settleM m wt)))) p1 = some (.lst xs') := by
        rw [upd_ne n1s]
        exact s3 _ _ (k2 _ _ n1s e1)
      have e2' : (upd H3 s (.ins C dx (dF Sy p1 p2 (settleM m wt)))) p2 = some (.lst []) := by
        rw [upd_ne n2s]
        exact e3
      have r4 : Ils (upd H3 s (.ins C dx (dF Sy p1 p2 (settleM m wt)))) xs' (arr m.sy wt) := by
        have key : ∀ {vs : List V} {ds : List (List Int)}, Ils H' vs ds → Ils (upd H3 s (.ins C dx (dF Sy p1 p2 (settleM m wt)))) vs ds := fun h => by
          induction h with
          | nil => exact .nil
          | cons a r ih =>
            obtain ⟨p, rfl, e⟩ := a
            exact .cons ⟨p, rfl, k4 _ _ (fun z => by rw [z, hs1] at e; cases e) e⟩ ih
        exact key rS
      have nH : ∀ c, c ≠ Sy → H' c = none → H c = none := fun c hc h => by
        cases e : H c with
        | none => rfl
        | some o =>
          rw [kp c o hc e] at h
          cases h
      have n2H' : H' p2 = none := by
        cases e : H' p2 with
        | none => rfl
        | some o =>
          rw [s1 _ _ e] at n21
          cases n21
      have n2S : p2 ≠ Sy := fun z => by rw [z, eS] at n2H'; cases n2H'
      refine q _ (dFt s Sy p1 p2) (fun c o hc h => ?_) (fun c hc => ?_) ⟨dx, Sy, p1, p2, xs', xs', [], ⟨upd_same, k4 _ _ nSs.symm eS, e1', e2', r4, r4, .nil, n1S.symm, n2S.symm, n12, ⟨rfl, ?_, ?_, l64, l64, fun p mp => (by cases mp), Nat.zero_le _⟩⟩, rfl⟩
      · have cs : c ≠ s := fun z => hc (.inl z)
        have cS : c ≠ Sy := fun z => hc (.inr (.inl z))
        exact k4 c o cs (kp c o cS h)
      · rcases hc with rfl | rfl | rfl | rfl
        · exact .inl (.inl rfl)
        · exact .inl (.inr (.inl rfl))
        · exact .inr (nH _ n1S np1)
        · exact .inr (nH _ n2S n2H')
      · show 60 ≤ (arr m.sy wt).length
        rw [arr_len]
        exact f.lo
      · show (arr m.sy wt).length ≤ 400
        rw [arr_len]
        exact f.hi
abbrev mMSt (P : Program) (w : World) (K : PySem.W.Frag) (mg : Str → Option Value) (base : Heap) (C : Addr) : Prop := MDef P w K mg base C "_settle" 1 ["self", "arrived"] (spMSt C)
end
end MK

namespace MK
open PySem PySem.Spec PyProof.Rows L2 KA
def wrM (m : DM) (i : Nat) (d : List Int) : DM := { opM m with ws := m.ws + 1, wr := m.wr.set i d, wt := m.wt ++ [(i, d)] }
def syM (m : DM) : DM := settleM { opM m with ss := m.ss + 1 } m.wt
def keptW (wt : List (Nat × List Int)) (bs : List Bool) : List (Nat × List Int) := ((wt.zip bs).filter (·.2)).map (·.1)
def offM (m : DM) : DM := if m.on = true then failM m else m
def pwM (m : DM) (bs : List Bool) : DM := { settleM (offM m) (keptW m.wt bs) with on := true }
theorem due_sy (m : DM) : (dueM m).sy = m.sy ∧ (dueM m).wr = m.wr ∧ (dueM m).wt = m.wt ∧ (dueM m).ws = m.ws ∧ (dueM m).ss = m.ss := by
  unfold dueM
  split <;> exact ⟨rfl, rfl, rfl, rfl, rfl⟩
theorem off_sy (m : DM) : (offM m).sy = m.sy ∧ (offM m).wr = m.wr ∧ (offM m).wt = m.wt ∧ (offM m).ws = m.ws ∧ (offM m).ss = m.ss := by
  unfold offM
  split <;> exact ⟨rfl, rfl, rfl, rfl, rfl⟩
/-- all but what stands at a -/
def rm (a : Addr) (H : Hp) : Hp := fun c => if c = a then none else H c
theorem rm_ne {a c : Addr} {H : Hp} (h : c ≠ a) : rm a H c = H c := if_neg h
theorem rm_sub (a : Addr) (H : Hp) : Same (rm a H) H := fun c o h => by
  unfold rm at h
  split at h
  · cases h
  · exact h
theorem rm_some {a c : Addr} {H : Hp} {o : HO} (h : rm a H c = some o) : c ≠ a ∧ H c = some o := by
  refine ⟨fun z => ?_, rm_sub a H c o h⟩
  rw [z] at h
  unfold rm at h
  rw [if_pos rfl] at h
  cases h
theorem Out.rm {F : Addr → Prop} {H H' : Hp} (o : Out F H H') (a : Addr) : Out F (rm a H) (rm a H') := fun c u hc h => by
  obtain ⟨h1, h2⟩ := rm_some h
  rw [rm_ne h1]
  exact o c u hc h2
theorem ixN_n {n j : Nat} (hj : j < n) : ixN n (j : Int) = some j := by
  unfold ixN
  rw [if_pos (by omega), if_pos (by omega)]
  simp
section
variable {P : Program} {w : World} {K : PySem.W.Frag} {mg : Str → Option Value} {base : Heap} {C XP XR XI : Addr}
abbrev sMWr : Stmt := inClass (topS 8) 7
abbrev nMWr : List Str := ["self", "index", "data"]
theorem scMWr : FnScope nMWr ["self", "index", "data"] (defScope sMWr) := ⟨rfl, rfl, rfl, by decide +kernel, rfl, by decide +kernel, by decide +kernel⟩
def spMWr (C XP : Addr) : Sp := fun vs H Q E => ∃ (s a : Addr) (m : DM) (F : Addr → Prop) (i : Nat) (d : List Int), vs = [.ref s, .int (i : Int), .ref a] ∧ DkAt C (rm a H) s m F ∧ H a = some (.lst (d.map V.int)) ∧ d.length = 64 ∧ i < m.sy.length ∧ m.wt.length < 1000 ∧
  ((dueM m).on = true → ∀ H', Out F H H' → DkAt C (rm a H') s (wrM m i d) F → Q .non H') ∧ ((dueM m).on = false → ∀ H', Out F H H' → DkAt C H' s (dueM m) F → E (.ref XP) none H')
theorem ok_mwr {f0 : Addr} {fd : FuncData} (F0 : Fun K "write" "Disk.write" sMWr f0 fd) (B : Bt mg) (T : Cd K mg C XP XR XI) (MMBO : mMBO P w K mg base C XP) : FnOk P w K mg base (L2.CX P w) 3 f0 fd ["self", "index", "data"] (spMWr C XP) := by
  refine F0.okX scMWr (fun vs H Q E h => ?_) (fun cdv A outer s0 H vs Q E hr h => ?_)
  · obtain ⟨_, _, _, _, _, _, rfl, _⟩ := h
    rfl
  · obtain ⟨s, a, m, F, i, d, rfl, D, ea, l64, hi, few, q1, q2⟩ := h
    refine ⟨_, (pss_cons (ps_expr (pe_mdefX0 MMBO (pv 0) T.cl (hr.mono (by decide)) (passes_call (takes_of rfl rfl rfl rfl) (fun _ _ _ _ h => h))))
      (pss_cons (ps_fldaug (pv 0) pe_int in_add)
      (pss_cons (ps_asg (pe_callTy call_list_of (by rfl) B.lst (by decide +kernel) (pa_cons (pv 2) pa_nil)) (pg_sub (pe_fld (pv 0) rfl) (pv 1) set_list))
      (pss_one (ps_expr (pe_bm PySem.F.plainAttrs_list PySem.F.slot_list_append PySem.F.type_list_append mt_append (pe_fld (pv 0) rfl) (pa_cons (pe_tup (pa_cons (pv 1) (pa_cons (pe_ix ix_list (pe_fld (pv 0) rfl) (pv 1) (fun _ _ => rfl)) pa_nil))) pa_nil))))))), ?_⟩
    have DH := D.same (rm_sub a H)
    have mu := DH.mu
    obtain ⟨dx, Sy', Wr', Wa', xs, ys, zs, br, eF⟩ := id D
    have bH := br.to (H' := H) (fun c o h _ => rm_sub a H c o h)
    have mur := br.mu
    refine ⟨.ref s, rfl, s, dx, _, rfl, bH.hs, rfl, s, dx, Sy', Wr', Wa', xs, ys, zs, m, rfl, bH, fun on H0 o0 b => ?_, fun off H' o b => q2 off H' (by rw [eF]; exact o) ⟨dx, Sy', Wr', Wa', xs, ys, zs, b, eF⟩⟩
    have ea0 := o0 _ _ (fun z => (mu a (by rw [eF]; exact z)).2 d l64 ea) ea
    have mu0 := b.mu
    obtain ⟨d1, d2, d3, d4, d5⟩ := due_sy m
    have b1 := b.fld (m' := { opM m with ws := m.ws + 1 }) rfl rfl rfl
    refine ⟨.ref s, rfl, s, C, dx, _, .int (m.ws : Nat), rfl, b.hs, T.cl, T.nWs, by rw [← d4]; rfl, _, _, rfl, rfl, dx, _, b.hs, (by show 9 < 1000; decide), ?_⟩
    have n_s : ∀ {p : Addr} {ns : List Int}, H0 p = some (.lst (ns.map V.int)) → p ≠ s := fun h z => by rw [z, b.hs] at h; cases h
    generalize hG : upd H0 s _ = H1
    have e1s : H1 s = some (.ins C dx (dF Sy' Wr' Wa' { opM m with ws := m.ws + 1 })) := by rw [← hG]; exact upd_same
    have k1 : ∀ c o, c ≠ s → H0 c = some o → H1 c = some o := fun c o hc h => by rw [← hG, upd_ne hc]; exact h
    clear hG
    have nSs : Sy' ≠ s := fun z => by have := b.hsy; rw [z, b.hs] at this; cases this
    have nWs : Wr' ≠ s := fun z => by have := b.hwr; rw [z, b.hs] at this; cases this
    have nAs : Wa' ≠ s := fun z => by have := b.hwa; rw [z, b.hs] at this; cases this
    have eS1 := k1 _ _ nSs b.hsy
    have eW1 := k1 _ _ nWs b.hwr
    have eA1 := k1 _ _ nAs b.hwa
    have ea1 := k1 _ _ (n_s ea0) ea0
    -- written[index] = list(data)
    refine ⟨.ref a, rfl, a, _, rfl, .inl (SqL.of ea1), fun p np => ?_⟩
    generalize hG : upd _ p _ = H2
    obtain ⟨s2, e2⟩ := gen_up hG np
    clear hG
    have lys : ys.length = m.sy.length := by rw [b.iw.length, b.fit.len]; show (dueM m).sy.length = _; rw [d1]
    refine ⟨.ref s, rfl, s, C, dx, _, .ref Wr', rfl, s2 _ _ e1s, T.cl, T.nWr, rfl, .int (i : Int), rfl, Wr', ys, (i : Int), i, rfl, rfl, s2 _ _ eW1, ixN_n (by omega), ?_⟩
    generalize hG : upd H2 Wr' _ = H3
    have e3W : H3 Wr' = some (.lst (ys.set i (.ref p))) := by rw [← hG]; exact upd_same
    have k3 : ∀ c o, c ≠ Wr' → H2 c = some o → H3 c = some o := fun c o hc h => by rw [← hG, upd_ne hc]; exact h
    clear hG
    have npW : p ≠ Wr' := fun z => by rw [z, eW1] at np; cases np
    have e3s := k3 _ _ nWs.symm (s2 _ _ e1s)
    have e3A := k3 _ _ b.n3.symm (s2 _ _ eA1)
    have e3S := k3 _ _ b.n1 (s2 _ _ eS1)
    have e3p := k3 _ _ npW e2
    -- waiting.append(..)
    refine ⟨.ref s, rfl, s, C, dx, _, .ref Wa', rfl, e3s, T.cl, T.nWa, rfl, .inl ⟨rfl, _, SqL.of e3A⟩, .int (i : Int), rfl, .ref s, rfl, s, C, dx, _, .ref Wr', rfl, e3s, T.cl, T.nWr, rfl, .int (i : Int), rfl, Wr', _, (i : Int), .ref p, rfl, rfl, SqL.of e3W, atI_nat (by rw [List.getElem?_set_self (by omega)]), (by show 2 ≤ sizeLine; exact small6 (by decide)), fun t nt => ?_⟩
    generalize hG : upd _ t _ = H4
    obtain ⟨s4, e4⟩ := gen_up hG nt
    clear hG
    have lzs : zs.length = m.wt.length := by rw [b.it.length]; show (dueM m).wt.length = _; rw [d3]
    refine ⟨Wa', zs, .ref t, rfl, rfl, s4 _ _ e3A, small7 (by omega), ?_⟩
    generalize hG : upd H4 Wa' _ = H5
    have e5A : H5 Wa' = some (.lst (zs ++ [.ref t])) := by rw [← hG]; exact upd_same
    have k5 : ∀ c o, c ≠ Wa' → H4 c = some o → H5 c = some o := fun c o hc h => by rw [← hG, upd_ne hc]; exact h
    clear hG
    have ntA : t ≠ Wa' := fun z => by rw [z, e3A] at nt; cases nt
    have npA : p ≠ Wa' := fun z => by rw [z, eA1] at np; cases np
    have o5 : Out (dFt s Sy' Wr' Wa') H0 H5 := fun c o hc h => k5 c o (fun z => hc (.inr (.inr (.inr z)))) (s4 _ _ (k3 c o (fun z => hc (.inr (.inr (.inl z)))) (s2 _ _ (k1 c o (fun z => hc (.inl z)) h))))
    have oA : Out (dFt s Sy' Wr' Wa') H H5 := o0.trans o5
    have oR := oA.rm a
    have nka : ∀ {c : Addr} {o : HO}, H5 c = some o → (∀ ns : List Int, ns.length = 64 → o ≠ .lst (ns.map V.int)) → rm a H5 c = some o := fun {c o} h hn => by
      have ea5 : H5 a = some (.lst (d.map V.int)) := oA _ _ (fun z => (mu a (by rw [eF]; exact z)).2 d l64 ea) ea
      rw [rm_ne (fun z => by rw [z, ea5] at h; exact hn d l64 (Option.some.inj h).symm)]
      exact h
    have npa : p ≠ a := fun z => by rw [z, ea1] at np; cases np
    have nta : t ≠ a := fun z => by
      have ea3 : H3 a = some (.lst (d.map V.int)) := k3 _ _ (fun z2 => (mu0 Wr' (.inr (.inr (.inl rfl)))).2 d l64 (by rw [← z2]; exact ea0)) (s2 _ _ ea1)
      rw [z, ea3] at nt
      cases nt
    have refs : ∀ {vs : List V} {v : V} {ns : List Int}, V.ref p ∈ vs → ns.length = 64 → HO.lst vs ≠ .lst (ns.map V.int) := fun {vs v ns} m l z => by
      have z := HO.lst.inj z
      rw [z] at m
      obtain ⟨_, _, e⟩ := List.mem_map.mp m
      cases e
    refine q1 on H5 (by rw [eF]; exact oA) ⟨dx, Sy', Wr', Wa', xs, ys.set i (.ref p), zs ++ [.ref t], ⟨?_, ?_, ?_, ?_, ?_, ?_, ?_, b.n1, b.n2, b.n3, ?_⟩, eF⟩
    · exact nka (k5 _ _ nAs.symm (s4 _ _ e3s)) (fun ns l z => nomatch z)
    · exact nka (k5 _ _ b.n2 (s4 _ _ e3S)) (fun ns l z => len64 l ((HO.lst.inj z).symm.trans (b.is.mixed (HO.lst.inj z))))
    · exact nka (k5 _ _ b.n3 (s4 _ _ e3W)) (fun ns l z => refs (v := .non) (ns := ns) (List.mem_of_getElem? (i := i) (by rw [List.getElem?_set_self (by omega)])) l z)
    · refine nka e5A (fun ns l z => ?_)
      have z := HO.lst.inj z
      have : V.ref t ∈ ns.map V.int := by rw [← z]; exact List.mem_append.mpr (.inr (List.mem_singleton.mpr rfl))
      obtain ⟨_, _, e⟩ := List.mem_map.mp this
      cases e
    · have r := br.is.out oR mur br.fit.s64
      show Ils _ _ (dueM m).sy
      rw [d1]
      exact r
    · exact (br.iw.out oR mur br.fit.w64).set i ⟨p, rfl, by rw [rm_ne npa]; exact k5 _ _ npA (s4 _ _ e3p)⟩
    · exact (br.it.out oR mur (fun q z => (br.fit.t64 q z).2)).app (.cons (by rw [rm_ne nta]; exact k5 _ _ ntA e4) (by rw [rm_ne npa]; exact k5 _ _ npA (s4 _ _ e3p)) .nil)
    · have f := b.fit
      have e1 : (opM m).sy = m.sy := d1
      have e2 : (opM m).wr = m.wr := d2
      have e3 : (opM m).wt = m.wt := d3
      refine ⟨?_, f.lo, f.hi, f.s64, fun x mx => ?_, fun x mx => ?_, ?_⟩
      · show (m.wr.set i d).length = _
        rw [List.length_set, ← e2]
        exact f.len
      · rcases List.mem_or_eq_of_mem_set mx with mx | rfl
        · exact f.w64 x (by rw [e2]; exact mx)
        · exact l64
      · show x.1 < (opM m).sy.length ∧ _
        rcases List.mem_append.mp mx with mx | mx
        · exact f.t64 x (by rw [e3]; exact mx)
        · rw [List.mem_singleton.mp mx, e1]
          exact ⟨hi, l64⟩
      · show (m.wt ++ [(i, d)]).length ≤ 1000
        rw [List.length_append]
        show m.wt.length + 1 ≤ 1000
        omega
abbrev sMSy : Stmt := inClass (topS 8) 8
abbrev nMSy : List Str := ["self"]
theorem scMSy : FnScope nMSy ["self"] (defScope sMSy) := ⟨rfl, rfl, rfl, by decide +kernel, rfl, by decide +kernel, by decide +kernel⟩
def spMSy (C XP : Addr) : Sp := fun vs H Q E => ∃ (s : Addr) (m : DM) (F : Addr → Prop), vs = [.ref s] ∧ DkAt C H s m F ∧
  ((dueM m).on = true → ∀ H' F', Out F H H' → (∀ b, F' b → F b ∨ H b = none) → DkAt C H' s (syM m) F' → Q .non H') ∧ ((dueM m).on = false → ∀ H', Out F H H' → DkAt C H' s (dueM m) F → E (.ref XP) none H')
theorem back_new {F F' : Addr → Prop} {H H1 : Hp} (o : Out F H H1) (h : ∀ b, F' b → F b ∨ H1 b = none) : ∀ b, F' b → F b ∨ H b = none := fun b hb => by
  rcases h b hb with h | h
  · exact .inl h
  · by_cases c : F b
    · exact .inl c
    · cases e : H b with
      | none => exact .inr rfl
      | some u =>
        rw [o b u c e] at h
        cases h
theorem ok_msy {f0 : Addr} {fd : FuncData} (F0 : Fun K "sync" "Disk.sync" sMSy f0 fd) (T : Cd K mg C XP XR XI) (MMBO : mMBO P w K mg base C XP) (MMSt : mMSt P w K mg base C) : FnOk P w K mg base (L2.CX P w) 3 f0 fd ["self"] (spMSy C XP) := by
  refine F0.okX scMSy (fun vs H Q E h => ?_) (fun cdv A outer s0 H vs Q E hr h => ?_)
  · obtain ⟨_, _, _, rfl, _⟩ := h
    rfl
  · obtain ⟨s, m, F, rfl, D, q1, q2⟩ := h
    refine ⟨_, (pss_cons (ps_expr (pe_mdefX0 MMBO (pv 0) T.cl (hr.mono (by decide)) (passes_call (takes_of rfl rfl rfl rfl) (fun _ _ _ _ h => h))))
      (pss_cons (ps_fldaug (pv 0) pe_int in_add)
      (pss_one (ps_expr (pe_mdef MMSt (pv 0) T.cl (hr.mono (by decide)) (pa_cons (pe_fld (pv 0) rfl) pa_nil)))))), ?_⟩
    obtain ⟨dx, Sy', Wr', Wa', xs, ys, zs, bH, eF⟩ := id D
    refine ⟨.ref s, rfl, s, dx, _, rfl, bH.hs, rfl, s, dx, Sy', Wr', Wa', xs, ys, zs, m, rfl, bH, fun on H0 o0 b => ?_, fun off H' o b => q2 off H' (by rw [eF]; exact o) ⟨dx, Sy', Wr', Wa', xs, ys, zs, b, eF⟩⟩
    obtain ⟨d1, d2, d3, d4, d5⟩ := due_sy m
    have b1 := b.fld (m' := { opM m with ss := m.ss + 1 }) rfl rfl rfl
    refine ⟨.ref s, rfl, s, C, dx, _, .int (m.ss : Nat), rfl, b.hs, T.cl, T.nSs, by rw [← d5]; rfl, _, _, rfl, rfl, dx, _, b.hs, (by show 9 < 1000; decide), ?_⟩
    have o1 : Out (dFt s Sy' Wr' Wa') H0 (upd H0 s (.ins C dx (dF Sy' Wr' Wa' { opM m with ss := m.ss + 1 }))) := Out.put (.inl rfl)
    refine ⟨.ref s, rfl, s, dx, _, rfl, b1.hs, rfl, .ref s, rfl, s, C, dx, _, .ref Wa', rfl, b1.hs, T.cl, T.nWa, rfl, ?_⟩
    have o2 := o0.trans o1
    rw [← eF] at o2
    refine ⟨s, Wa', { opM m with ss := m.ss + 1 }, dFt s Sy' Wr' Wa', zs, (opM m).wt, rfl, ⟨dx, Sy', Wr', Wa', xs, ys, zs, b1, rfl⟩, b1.hwa, b1.it, b1.fit.t64, fun H' F' o hF D' => ?_⟩
    refine q1 on H' F' (o2.trans (by rw [eF]; exact o)) (back_new o2 (by rw [eF]; exact hF)) ?_
    have e3 : (opM m).wt = m.wt := d3
    rw [e3] at D'
    exact D'
abbrev sMPw : Stmt := inClass (topS 8) 10
abbrev nMPw : List Str := ["self", "kept", "write", "arrives"]
theorem scMPw : FnScope nMPw ["self", "kept"] (defScope sMPw) := ⟨rfl, rfl, rfl, by decide +kernel, rfl, by decide +kernel, by decide +kernel⟩
def spMPw (C : Addr) : Sp := fun vs H Q _ => ∃ (s a : Addr) (m : DM) (F : Addr → Prop) (bs : List Bool), vs = [.ref s, .ref a] ∧ DkAt C H s m F ∧ H a = some (.lst (bs.map V.bl)) ∧ ¬ F a ∧ ∀ H' F', Out F H H' → (∀ b, F' b → F b ∨ H b = none) → DkAt C H' s (pwM m bs) F' → Q .non H'
theorem zip_take {α β : Type} : ∀ (l : List α) (m : List β) (n : Nat), (l.take n).zip (m.take n) = (l.zip m).take n
  | [], m, n => by simp
  | a :: l, [], n => by simp
  | a :: l, b :: m, 0 => rfl
  | a :: l, b :: m, n + 1 => by
    show (a, b) :: (l.take n).zip (m.take n) = (a, b) :: (l.zip m).take n
    rw [zip_take l m n]
theorem zip_at {α β : Type} : ∀ (l : List α) (m : List β) (i : Nat), (l.zip m)[i]? = (match l[i]?, m[i]? with | some a, some b => some (a, b) | _, _ => none)
  | [], m, i => by simp
  | a :: l, [], i => by
    cases i with
    | zero => rfl
    | succ i => simp
  | a :: l, b :: m, 0 => rfl
  | a :: l, b :: m, i + 1 => zip_at l m i
theorem keptW_take (wt : List (Nat × List Int)) (bs : List Bool) (i : Nat) : keptW (wt.take (i + 1)) (bs.take (i + 1)) = keptW (wt.take i) (bs.take i) ++ (match wt[i]?, bs[i]? with | some p, some true => [p] | _, _ => []) := by
  unfold keptW
  rw [zip_take, zip_take, List.take_add_one, List.filter_append, List.map_append]
  congr 1
  rw [zip_at]
  cases wt[i]? with
  | none => rfl
  | some p =>
    cases bs[i]? with
    | none => rfl
    | some b => cases b <;> rfl
theorem ok_mpw {f0 : Addr} {fd : FuncData} (F0 : Fun K "power" "Disk.power" sMPw f0 fd) (B : Bt mg) (T : Cd K mg C XP XR XI) (MMFl : mMFl P w K mg base C) (MMSt : mMSt P w K mg base C) : FnOk P w K mg base CX0 2 f0 fd ["self", "kept"] (spMPw C) := by
  refine F0.ok scMPw (fun vs H Q E h => ?_) (fun cdv A outer s0 H vs Q E hr h => ?_)
  · obtain ⟨_, _, _, _, _, rfl, _⟩ := h
    rfl
  · obtain ⟨s, a, m, F, bs, rfl, D, ea, na, q⟩ := h
    refine ⟨_, (C8.pss_cut (ps_if (pt_val (pe_fld (pv 0) rfl))
        (pss_one (ps_expr (pe_mdef0 MMFl (pv 0) T.cl (hr.mono (by decide)))))
        pss_nil)
      (pss_cons (ps_expr (pe_mdef MMSt (pv 0) T.cl (hr.mono (by decide)) (pa_cons (pe_lc (own := [("write", 2), ("arrives", 3)]) (g := (gTup K 2 (gCons (gName 2) (gCons (gName 3) gNil)))) (tt := (tB (tVar 3))) (te := (tVar 2)) rfl scMPw.nd (pi_zip (by rfl) B.zip (pa_cons (pe_fld (pv 0) rfl) (pa_cons (pv 1) pa_nil))) (blkOk_by (own := [("write", 2), ("arrives", 3)]) (N := nMPw) (sc := defScope sMPw) (by decide +kernel)) (fun _ _ _ _ _ => (pg_tup rfl (pgs_cons (pg_name (i := 2) scMPw.nd rfl (Or.inl rfl)) (pgs_cons (pg_name (i := 3) scMPw.nd rfl (Or.inl rfl)) pgs_nil)))) (fun _ _ _ _ _ => pts_one (pt_val (pv 3))) (fun _ _ _ _ _ => (pv 2))) pa_nil)))
      (pss_one (ps_fld (pv 0) pe_bl rfl)))), ?_⟩
    refine ⟨fun σ H' => σ = [some (.ref s), some (.ref a), none, none] ∧ Out F H H' ∧ DkAt C H' s (offM m) F, ?_, ?_⟩
    · obtain ⟨dx, Sy, Wr, Wa, xs, ys, zs, b, eF⟩ := id D
      refine ⟨.ref s, rfl, s, C, dx, _, .bl m.on, rfl, b.hs, T.cl, T.nOn, rfl, m.on, rfl, ?_⟩
      cases e : m.on with
      | true => exact iteT' rfl ⟨.ref s, rfl, s, dx, _, rfl, b.hs, rfl, s, dx, Sy, Wr, Wa, xs, ys, zs, m, rfl, b, fun H' o d => ⟨rfl, by rw [eF]; exact o, by unfold offM; rw [if_pos e]; exact ⟨dx, Sy, Wr, Wa, xs, ys, zs, d, eF⟩⟩⟩
      | false => exact iteF' rfl ⟨rfl, (fun _ _ _ h => h), by unfold offM; rw [if_neg (by rw [e]; exact Bool.false_ne_true)]; exact D⟩
    · rintro σ H1 ⟨rfl, o1, D1⟩
      have ea1 := o1 _ _ na ea
      have D1' := D1
      obtain ⟨dx, Sy, Wr, Wa, xs, ys, zs, b, eF⟩ := D1
      obtain ⟨d1, d2, d3, d4, d5⟩ := off_sy m
      have itm := b.it
      rw [d3] at itm
      have lz := itm.length
      refine ⟨.ref s, rfl, s, dx, _, rfl, b.hs, rfl, .ref s, rfl, s, C, dx, _, .ref Wa, rfl, b.hs, T.cl, T.nWa, rfl, .ref a, rfl, Wa, a, zs, _, rfl, SqL.of b.hwa, SqL.of ea1, fun D nD => ?_⟩
      have nDa : a ≠ D := fun z => by rw [z, nD] at ea1; cases ea1
      refine lc_it (walk_zip (xs := zs) (ys := bs.map V.bl) rfl) (fun i H' => Same H1 H' ∧ i ≤ zs.length ∧ ∃ vs, H' D = some (.lst vs) ∧ vs.length ≤ i ∧ Wts H' vs (keptW (m.wt.take i) (bs.take i)) ∧ ∀ r, V.ref r ∈ vs → r ≠ D) ⟨same_new nD, Nat.zero_le _, [], upd_same, Nat.le_refl _, .nil, (fun _ z => nomatch z)⟩ (fun i H' _ hP => ⟨SqL.of (hP.1 _ _ b.hwa), SqL.of (hP.1 _ _ ea1)⟩) (fun i x Ha Hb hi hP hy => ?_) (fun H' hP => ?_)
      · obtain ⟨sm, _, vs, eD, lv, tv, hn⟩ := hP
        obtain ⟨t, x1, x2, rfl, nt, rfl, hx1, hx2⟩ := hy
        obtain ⟨t1, p1, j, d, rfl, ew, et1, ep1⟩ := itm.get hx1
        have hx2 : (bs.map V.bl)[i]? = some x2 := hx2
        rw [List.getElem?_map] at hx2
        obtain ⟨bb, eb, rfl⟩ := Option.map_eq_some_iff.mp hx2
        have st := sm.trans (same_new (o := .tup [.ref t1, .bl bb]) nt)
        have sab : Same Ha (upd Ha t (.tup [.ref t1, .bl bb])) := same_new nt
        refine ⟨t, _, rfl, SqT.of upd_same, rfl, _, _, rfl, _, _, rfl, rfl, rfl, .bl bb, rfl, bb, rfl, ?_⟩
        have hi2 : i < zs.length := by
          have : i < min zs.length (bs.map V.bl).length := hi
          omega
        have ek := keptW_take m.wt bs i
        rw [ew, eb] at ek
        cases bb with
        | true =>
          refine iteT' rfl ⟨.ref t1, rfl, vs, sab _ _ eD, small7 (by have := b.fit.few; rw [d3] at this; omega), ?_⟩
          have nt1 : t1 ≠ D := fun z => by
            have e := et1
            rw [z, nD] at e
            cases e
          have np1 : p1 ≠ D := fun z => by
            have e := ep1
            rw [z, nD] at e
            cases e
          have hn2 : ∀ r, V.ref r ∈ vs ++ [V.ref t1] → r ≠ D := fun r mr => by
            rcases List.mem_append.mp mr with mr | mr
            · exact hn r mr
            · cases List.mem_singleton.mp mr
              exact nt1
          refine ⟨same_put st nD, by omega, vs ++ [.ref t1], upd_same, by rw [List.length_append]; show vs.length + 1 ≤ _; omega, ?_, hn2⟩
          rw [ek]
          have key : ∀ {vs : List V} {ps : List (Nat × List Int)} {o : HO}, Wts (upd Ha t (.tup [.ref t1, .bl true])) vs ps → (∀ r, V.ref r ∈ vs → r ≠ D) → (∀ (r : Addr) (ns : List Int), (upd Ha t (.tup [.ref t1, .bl true])) r = some (.lst (ns.map V.int)) → ns.length = 64 → r ≠ D) → (∀ p ∈ ps, p.2.length = 64) → Wts (upd (upd Ha t (.tup [.ref t1, .bl true])) D o) vs ps := fun h => by
            induction h with
            | nil => intros; exact .nil
            | @cons tt pp ii dd _ _ a b' _ ih =>
              intro h1 h2 h3
              refine Wts.cons (t := tt) (p := pp) ?_ ?_ (ih (fun r mr => h1 r (List.mem_cons_of_mem _ mr)) h2 fun p mp => h3 p (List.mem_cons_of_mem _ mp))
              · rw [upd_ne (h1 _ List.mem_cons_self)]
                exact a
              · rw [upd_ne (h2 _ _ b' (h3 _ List.mem_cons_self))]
                exact b'
          refine key ((tv.same sab).app (.cons (sab _ _ (sm _ _ et1)) (sab _ _ (sm _ _ ep1)) .nil)) hn2 (fun r ns hr' l64 z => ?_) (fun p mp => ?_)
          · subst z
            rw [sab _ _ eD] at hr'
            exact len64 l64 ((HO.lst.inj (Option.some.inj hr')).symm.trans (tv.mixed (HO.lst.inj (Option.some.inj hr'))))
          · have hm : p ∈ m.wt := by
              rcases List.mem_append.mp mp with mp | mp
              · unfold keptW at mp
                obtain ⟨x, hx, rfl⟩ := List.mem_map.mp mp
                exact List.mem_of_mem_take (List.of_mem_zip (List.mem_filter.mp hx).1).1
              · rw [List.mem_singleton.mp mp]
                exact List.mem_of_getElem? ew
            have := (b.fit.t64 p (by rw [d3]; exact hm)).2
            exact this
        | false =>
          refine iteF' rfl ⟨st, by omega, vs, sab _ _ eD, by omega, ?_, hn⟩
          rw [ek]
          show Wts _ vs (_ ++ [])
          rw [List.append_nil]
          exact tv.same sab
      · obtain ⟨sm, _, vs, eD, lv, tv, hn⟩ := hP
        have emin : keptW (m.wt.take (min zs.length (bs.map V.bl).length)) (bs.take (min zs.length (bs.map V.bl).length)) = keptW m.wt bs := by
          unfold keptW
          rw [zip_take, List.take_of_length_le]
          rw [List.length_zip, List.length_map, lz]
          exact Nat.le_refl _
        rw [emin] at tv
        have D2 := D1'.same sm
        refine ⟨s, D, offM m, F, vs, keptW m.wt bs, rfl, D2, eD, tv, fun p mp => ?_, fun H3 F3 o3 hF3 D3 => ?_⟩
        · unfold keptW at mp
          obtain ⟨x, hx, rfl⟩ := List.mem_map.mp mp
          exact b.fit.t64 x.1 (by rw [d3]; exact (List.of_mem_zip (List.mem_filter.mp hx).1).1)
        · obtain ⟨dx3, Sy3, Wr3, Wa3, xs3, ys3, zs3, b3, eF3⟩ := D3
          have b4 := b3.fld (m' := pwM m bs) rfl rfl rfl
          have o13 : Out F H H3 := (o1.trans (Out.of sm)).trans o3
          refine ⟨.ref s, rfl, s, C, dx3, _, rfl, b3.hs, T.cl, T.nOn, (by show 9 < 1000; decide), ?_⟩
          have hs3 : F3 s := by rw [eF3]; exact .inl rfl
          have Fs : F s := by rw [eF]; exact .inl rfl
          exact q _ F3 (o13.trans (Out.put Fs)) (back_new (o1.trans (Out.of sm)) hF3) ⟨dx3, Sy3, Wr3, Wa3, xs3, ys3, zs3, b4, eF3⟩
end
end MK

namespace MK
open PySem PySem.Spec PyProof.Rows L2 KA
def sec0 : List Int := List.replicate 64 0
def m0 (n : Nat) : DM := ⟨List.replicate n sec0, List.replicate n sec0, [], 0, 0, 0, true, none⟩
def Kept (s : Addr) (H H' : Hp) : Prop := ∀ a o, a ≠ s → H a = some o → H' a = some o
/-- what is no number of sectors -/
def badV (H : Hp) (v : V) : Prop := (∃ i : Int, v = .int i ∧ (i < 60 ∨ 400 < i)) ∨ (∃ b, v = .bl b) ∨ (∃ z, v = .str z) ∨ v = .non ∨ ∃ a xs, v = .ref a ∧ H a = some (.lst xs)
/-- isinstance(e, c), e the exception that the suite holds -/
def rIsG (K : PySem.W.Frag) (D a : Addr) (cls : Value) (d : Option Addr) : List V → Hp → VK → Prop := fun xs H Q => cls = .ref D ∧ d = none ∧ rIsE K D a xs H Q
theorem call_isG {X : Cx} {a D : Addr} {oe : Obj} {cls : Value} {d : Option Addr} {pn : List (Addr × Obj)} (C : ExcC X.K D) (hz : Zc cls d oe) (hf : ∃ vs, oe.data = .fields vs) : CallR (X.suite a ((a, oe) :: pn)) (.builtin "isinstance") (rIsG X.K D a cls d) := by
  intro pins s σ H xs us Q I r h
  obtain ⟨rfl, rfl, h⟩ := h
  exact call_isE C hz hf pins s σ H xs us Q I r h
section
variable {P : Program} {w : World} {K : PySem.W.Frag} {mg : Str → Option Value} {base : Heap} {C XP XR XI : Addr}
abbrev sMIn : Stmt := inClass (topS 8) 0
abbrev nMIn : List Str := ["self", "sectors", "_"]
theorem scMIn : FnScope nMIn ["self", "sectors"] (defScope sMIn) := ⟨rfl, rfl, rfl, by decide +kernel, rfl, by decide +kernel, by decide +kernel⟩
def spMInG (C : Addr) : Sp := fun vs H Q _ => ∃ (s dx : Addr) (n : Nat), vs = [.ref s, .int (n : Int)] ∧ H s = some (.ins C dx []) ∧ 60 ≤ n ∧ n ≤ 400 ∧ ∀ H' F', Kept s H H' → (∀ b, F' b → b = s ∨ H b = none) → DkAt C H' s (m0 n) F' → Q .non H'
def spMInB (XI : Addr) : Sp := fun vs H Q E => ∃ (s : Addr) (v : V), vs = [.ref s, v] ∧ badV H v ∧ E (.ref XI) none H
theorem ok_minB {f0 : Addr} {fd : FuncData} (F0 : Fun K "__init__" "Disk.__init__" sMIn f0 fd) (B : Bt mg) (T : Cd K mg C XP XR XI) : FnOk P w K mg base (L2.CX P w) 1 f0 fd ["self", "sectors"] (spMInB XI) := by
  refine F0.okX scMIn (fun vs H Q E h => ?_) (fun cdv A outer s0 H vs Q E hr h => ?_)
  · obtain ⟨_, _, rfl, _⟩ := h
    rfl
  · obtain ⟨s, v, rfl, bv, e⟩ := h
    refine ⟨_, pss_cons (ps_if (PW.pt (pw_or (pt_not (pt_val (pe_callB call_isi (by rfl) B.isi (by decide +kernel) (pa_cons (pv 1) (pa_cons (pe_bltn (v := .ty "int") (u := .type "int") (by rfl) B.int (by decide +kernel) rfl) pa_nil))))) (pw_or1 (pt_val (pe_callB call_isi (by rfl) B.isi (by decide +kernel) (pa_cons (pv 1) (pa_cons (pe_bltn (v := .ty "bool") (u := .type "bool") (by rfl) B.bool (by decide +kernel) rfl) pa_nil)))))))
        (pss_one (ps_raise rfl (takes_of rfl rfl rfl rfl) (pmk_own PySem.F.excBase_ValueError T.xI T.gI T.kI (raises_own T.bI T.tI) rfl)))
        pss_nil)
      (pss_cons (ps_if (PW.pt (pw_or (pt_cmpR op_lt (pv 1) (pe_con (by rfl) T.c60) (nomark _)) (pw_or1 (pt_cmpR op_gt (pv 1) (pe_con (by rfl) T.c400) (nomark _)))))
        (pss_one (ps_raise rfl (takes_of rfl rfl rfl rfl) (pmk_own PySem.F.excBase_ValueError T.xI T.gI T.kI (raises_own T.bI T.tI) rfl)))
        pss_nil) pss_never), ?_⟩
    rcases bv with ⟨i, rfl, hi⟩ | ⟨b, rfl⟩ | ⟨z, rfl⟩ | rfl | ⟨a, xs, rfl, ea⟩
    · refine ⟨.int i, rfl, .int i, .ty "int", _, _, true, rfl, .ty "int", .base (.int i), kit_ty (by decide +kernel), true, rfl, iteF' rfl ?_⟩
      refine ⟨.int i, rfl, .int i, .ty "bool", _, _, false, rfl, .ty "bool", .base (.int i), kit_ty (by decide +kernel), false, rfl, iteF' rfl ?_⟩
      refine ⟨.int i, rfl, i, 60, rfl, rfl, _, rfl, ?_⟩
      by_cases c : i < 60
      · exact iteT' (decide_eq_true c) (iteT' rfl e)
      · refine iteF' (decide_eq_false c) ⟨.int i, rfl, i, 400, rfl, rfl, _, rfl, iteT' (decide_eq_true (by omega)) e⟩
    · refine ⟨.bl b, rfl, .bl b, .ty "int", _, _, true, rfl, .ty "int", .base (.bl b), kit_ty (by decide +kernel), true, rfl, iteF' rfl ?_⟩
      exact ⟨.bl b, rfl, .bl b, .ty "bool", _, _, true, rfl, .ty "bool", .base (.bl b), kit_ty (by decide +kernel), true, rfl, iteT' rfl e⟩
    · exact ⟨.str z, rfl, .str z, .ty "int", _, _, false, rfl, .ty "int", .base (.str z), kit_ty (by decide +kernel), false, rfl, iteT' rfl (iteT' rfl e)⟩
    · exact ⟨.non, rfl, .non, .ty "int", _, _, false, rfl, .ty "int", .base .non, kit_ty (by decide +kernel), false, rfl, iteT' rfl (iteT' rfl e)⟩
    · exact ⟨.ref a, rfl, .ref a, .ty "int", _, _, false, rfl, .ty "int", .base (.lst ea), kit_ty (by decide +kernel), false, rfl, iteT' rfl (iteT' rfl e)⟩
theorem ok_minG {f0 : Addr} {fd : FuncData} (F0 : Fun K "__init__" "Disk.__init__" sMIn f0 fd) (B : Bt mg) (T : Cd K mg C XP XR XI) : FnOk P w K mg base CX0 1 f0 fd ["self", "sectors"] (spMInG C) := by
  refine F0.ok scMIn (fun vs H Q E h => ?_) (fun cdv A outer s0 H vs Q E hr h => ?_)
  · obtain ⟨_, _, _, rfl, _⟩ := h
    rfl
  · obtain ⟨s, dx, n, rfl, hs, n0, ng1, q⟩ := h
    refine ⟨_, pss_cons (ps_if (PW.pt (pw_or (pt_not (pt_val (pe_callB call_isi (by rfl) B.isi (by decide +kernel) (pa_cons (pv 1) (pa_cons (pe_bltn (v := .ty "int") (u := .type "int") (by rfl) B.int (by decide +kernel) rfl) pa_nil))))) (pw_or1 (pt_val (pe_callB call_isi (by rfl) B.isi (by decide +kernel) (pa_cons (pv 1) (pa_cons (pe_bltn (v := .ty "bool") (u := .type "bool") (by rfl) B.bool (by decide +kernel) rfl) pa_nil)))))))
        pss_never
        pss_nil)
      (pss_cons (ps_if (PW.pt (pw_or (pt_cmpR op_lt (pv 1) (pe_con (by rfl) T.c60) (nomark _)) (pw_or1 (pt_cmpR op_gt (pv 1) (pe_con (by rfl) T.c400) (nomark _)))))
        pss_never
        pss_nil)
      (pss_cons (ps_fld (pv 0) pe_bl rfl)
      (pss_cons (ps_fld (pv 0) (pe_lc (own := [("_", 2)]) (g := (gName 2)) (tt := tYes) (te := (tOp _ (tLst (tCons (tC (.int 0)) tNil)) (tC (.int 64)))) rfl scMIn.nd (pi_range1 (by rfl) B.rng (pa_cons (pv 1) pa_nil)) (blkOk_by (own := [("_", 2)]) (N := nMIn) (sc := defScope sMIn) (by decide +kernel)) (fun _ _ _ _ _ => (pg_name (i := 2) scMIn.nd rfl (Or.inl rfl))) (fun _ _ _ _ _ => pts_nil) (fun _ _ _ _ _ => (pe_op op_rep (pe_lst (pa_cons pe_int pa_nil)) (pe_con (by rfl) T.c64)))) rfl)
      (pss_cons (ps_fld (pv 0) (pe_callTy call_list_of (by rfl) B.lst (by decide +kernel) (pa_cons (pe_fld (pv 0) rfl) pa_nil)) rfl)
      (pss_cons (ps_fld (pv 0) (pe_lst pa_nil) rfl)
      (pss_cons (ps_fld (pv 0) pe_int rfl)
      (pss_cons (ps_fld (pv 0) pe_int rfl)
      (pss_cons (ps_fld (pv 0) pe_int rfl)
      (pss_cons (ps_fld (pv 0) pe_bl rfl)
      (pss_one (ps_fld (pv 0) pe_non rfl))))))))))), ?_⟩
    refine ⟨.int n, rfl, .int n, .ty "int", _, _, true, rfl, .ty "int", .base (.int n), kit_ty (by decide +kernel), true, rfl, iteF' rfl ?_⟩
    refine ⟨.int n, rfl, .int n, .ty "bool", _, _, false, rfl, .ty "bool", .base (.int n), kit_ty (by decide +kernel), false, rfl, iteF' rfl ?_⟩
    refine ⟨.int n, rfl, n, 60, rfl, rfl, _, rfl, iteF' (decide_eq_false (by omega)) ?_⟩
    refine ⟨.int n, rfl, n, 400, rfl, rfl, _, rfl, iteF' (decide_eq_false (by omega)) ?_⟩
    -- in_use
    refine ⟨.ref s, rfl, s, C, dx, _, rfl, hs, T.cl, T.nIU, (by show 0 < 1000; decide), ?_⟩
    generalize hG : upd H s _ = H1
    have e1s : H1 s = some (.ins C dx [("in_use", .bl false)]) := by rw [← hG]; exact upd_same
    have k1 : Kept s H H1 := fun c o hc h => by rw [← hG, upd_ne hc]; exact h
    have nb1 : ∀ c, H1 c = none → H c = none ∧ c ≠ s := fun c h => by
      have hc : c ≠ s := fun z => by rw [z, e1s] at h; cases h
      rw [← hG, upd_ne hc] at h
      exact ⟨h, hc⟩
    clear hG
    -- synced
    refine ⟨.int n, rfl, (n : Int), rfl, by omega, by omega, fun Sy nSy => ?_⟩
    obtain ⟨nSy0, nSys⟩ := nb1 Sy nSy
    refine lc_range (lo := 0) (n := ((n : Nat) : Int).toNat) (fun i H' => Same H1 H' ∧ ∃ xs, H' Sy = some (.lst xs) ∧ Ils H' xs (List.replicate i sec0) ∧ ∀ p, V.ref p ∈ xs → p ≠ Sy) ⟨same_new nSy, [], upd_same, .nil, (fun _ m => nomatch m)⟩ (fun i H' hi hP => ?_) (fun H2 hP => ?_)
    · obtain ⟨sm, xs, eS, rS, hn⟩ := hP
      refine ⟨rfl, ?_⟩
      refine iteT (B := True) ?_
      refine ⟨(by show 1 ≤ sizeLine; exact small6 (by decide)), fun p np => ?_⟩
      generalize hG : upd _ p _ = H3
      obtain ⟨s3, e3⟩ := gen_up hG np
      clear hG
      refine ⟨p, 64, _, rfl, rfl, e3, by decide, by decide, small6 (by decide), fun p2 np2 => ?_⟩
      generalize hG : upd _ p2 _ = H4
      obtain ⟨s4, e4⟩ := gen_up hG np2
      clear hG
      have e4 : H4 p2 = some (.lst (sec0.map V.int)) := e4
      have lxs := rS.length
      rw [List.length_replicate] at lxs
      have n2S : p2 ≠ Sy := fun z => by rw [z, s3 _ _ eS] at np2; cases np2
      have hn2 : ∀ p, V.ref p ∈ xs ++ [V.ref p2] → p ≠ Sy := fun p m => by
        rcases List.mem_append.mp m with m | m
        · exact hn p m
        · cases List.mem_singleton.mp m
          exact n2S
      have s34 := s3.trans s4
      refine ⟨xs, s34 _ _ eS, small7 (by omega), same_put (sm.trans s34) nSy, xs ++ [.ref p2], upd_same, ?_, hn2⟩
      rw [List.replicate_succ']
      exact ((rS.mono s34).app (.one ⟨p2, rfl, e4⟩)).upd hn2
    · obtain ⟨sm2, xs, eS, rS, hn⟩ := hP
      rw [Int.toNat_natCast] at rS
      refine ⟨.ref s, rfl, s, C, dx, _, rfl, sm2 _ _ e1s, T.cl, T.nSy, (by show 1 < 1000; decide), ?_⟩
      generalize hG : upd H2 s _ = H3
      have e3s : H3 s = some (.ins C dx [("in_use", .bl false), ("synced", .ref Sy)]) := by rw [← hG]; exact upd_same
      have k3 : Kept s H2 H3 := fun c o hc h => by rw [← hG, upd_ne hc]; exact h
      have nb3 : ∀ c, H3 c = none → H2 c = none ∧ c ≠ s := fun c h => by
        have hc : c ≠ s := fun z => by rw [z, e3s] at h; cases h
        rw [← hG, upd_ne hc] at h
        exact ⟨h, hc⟩
      clear hG
      have e3S := k3 _ _ nSys eS
      -- written
      refine ⟨.ref s, rfl, s, C, dx, _, .ref Sy, rfl, e3s, T.cl, T.nSy, rfl, Sy, xs, rfl, .inl (SqL.of e3S), fun Wr nWr => ?_⟩
      obtain ⟨nWr2, nWrs⟩ := nb3 Wr nWr
      generalize hG : upd _ Wr _ = H4
      obtain ⟨s4, e4W⟩ := gen_up hG nWr
      clear hG
      refine ⟨.ref s, rfl, s, C, dx, _, rfl, s4 _ _ e3s, T.cl, T.nWr, (by show 2 < 1000; decide), ?_⟩
      generalize hG : upd H4 s _ = H5
      have e5s : H5 s = some (.ins C dx [("in_use", .bl false), ("synced", .ref Sy), ("written", .ref Wr)]) := by rw [← hG]; exact upd_same
      have k5 : Kept s H4 H5 := fun c o hc h => by rw [← hG, upd_ne hc]; exact h
      have nb5 : ∀ c, H5 c = none → H4 c = none ∧ c ≠ s := fun c h => by
        have hc : c ≠ s := fun z => by rw [z, e5s] at h; cases h
        rw [← hG, upd_ne hc] at h
        exact ⟨h, hc⟩
      clear hG
      -- waiting
      refine ⟨Nat.zero_le _, fun Wa nWa => ?_⟩
      obtain ⟨nWa4, nWas⟩ := nb5 Wa nWa
      generalize hG : upd _ Wa _ = H6
      obtain ⟨s6, e6A⟩ := gen_up hG nWa
      clear hG
      have k26 : ∀ c o, c ≠ s → H2 c = some o → H6 c = some o := fun c o hc h => s6 _ _ (k5 c o hc (s4 _ _ (k3 c o hc h)))
      refine ⟨.ref s, rfl, s, C, dx, _, rfl, s6 _ _ e5s, T.cl, T.nWa, (by show 3 < 1000; decide), ?_⟩
      refine ⟨.ref s, rfl, s, C, dx, _, rfl, upd_same, T.cl, T.nWs, (by show 4 < 1000; decide), ?_⟩
      refine ⟨.ref s, rfl, s, C, dx, _, rfl, upd_same, T.cl, T.nSs, (by show 5 < 1000; decide), ?_⟩
      refine ⟨.ref s, rfl, s, C, dx, _, rfl, upd_same, T.cl, T.nFa, (by show 6 < 1000; decide), ?_⟩
      refine ⟨.ref s, rfl, s, C, dx, _, rfl, upd_same, T.cl, T.nOn, (by show 7 < 1000; decide), ?_⟩
      refine ⟨.ref s, rfl, s, C, dx, _, rfl, upd_same, T.cl, T.nAl, (by show 8 < 1000; decide), ?_⟩
      rw [upd_upd, upd_upd, upd_upd, upd_upd, upd_upd]
      have ef : ∀ o, upd H6 s (.ins C dx (putF "allowed" .non (putF "on" (.bl true) (putF "failures" (.int 0) (putF "syncs" (.int 0) (putF "writes" (.int 0) (putF "waiting" (.ref Wa) [("in_use", .bl false), ("synced", .ref Sy), ("written", .ref Wr)]))))))) = o → upd H6 s (.ins C dx (dF Sy Wr Wa (m0 n))) = o := fun o h => h
      have go : ∀ H', H' = upd H6 s (.ins C dx (dF Sy Wr Wa (m0 n))) → Q .non H' := fun H7 hH => by
        have k7 : ∀ c o, c ≠ s → H6 c = some o → H7 c = some o := fun c o hc h => by rw [hH, upd_ne hc]; exact h
        have nS4 : H4 Sy = some (.lst xs) := s4 _ _ e3S
        have n1 : Sy ≠ Wr := fun z => by rw [z] at e3S; rw [e3S] at nWr; cases nWr
        have n2 : Sy ≠ Wa := fun z => by rw [z] at nS4; rw [nS4] at nWa4; cases nWa4
        have n3 : Wr ≠ Wa := fun z => by rw [← z, e4W] at nWa4; cases nWa4
        have rI : Ils H7 xs (List.replicate n sec0) := by
          have key : ∀ {vs : List V} {ds : List (List Int)}, Ils H2 vs ds → Ils H7 vs ds := fun h => by
            induction h with
            | nil => exact .nil
            | cons a r ih =>
              obtain ⟨p, rfl, e⟩ := a
              have hp : p ≠ s := fun z => by rw [z, sm2 _ _ e1s] at e; cases e
              exact .cons ⟨p, rfl, k7 _ _ hp (k26 _ _ hp e)⟩ ih
          exact key rS
        have h64 : ∀ d ∈ List.replicate n sec0, d.length = 64 := fun d m => by rw [(List.mem_replicate.mp m).2]; decide
        refine q H7 (dFt s Sy Wr Wa) (fun c o hc h => k7 c o hc (k26 c o hc (sm2 _ _ (k1 c o hc h)))) (fun c hc => ?_) ⟨dx, Sy, Wr, Wa, xs, xs, [], ⟨by rw [hH]; exact upd_same, k7 _ _ nSys (k26 _ _ nSys eS), k7 _ _ nWrs (s6 _ _ (k5 _ _ nWrs e4W)), k7 _ _ nWas e6A, rI, rI, .nil, n1, n2, n3, ⟨rfl, ?_, ?_, h64, h64, (fun _ m => nomatch m), Nat.zero_le _⟩⟩, rfl⟩
        · have old : ∀ c, c ≠ s → H2 c = none → H c = none := fun c hc h => by
            cases e : H c with
            | none => rfl
            | some o =>
              rw [sm2 _ _ (k1 c o hc e)] at h
              cases h
          rcases hc with rfl | rfl | rfl | rfl
          · exact .inl rfl
          · exact .inr nSy0
          · exact .inr (old _ nWrs nWr2)
          · refine .inr (old _ nWas ?_)
            cases e : H2 c with
            | none => rfl
            | some o =>
              rw [s4 _ _ (k3 c o nWas e)] at nWa4
              cases nWa4
        · show 60 ≤ (List.replicate n sec0).length
          rw [List.length_replicate]
          exact n0
        · show (List.replicate n sec0).length ≤ 400
          rw [List.length_replicate]
          exact ng1
      exact go _ rfl
/-- the making of a disk, as callers know it -/
structure MkD (P : Program) (w : World) (K : PySem.W.Frag) (mg : Str → Option Value) (base : Heap) (C XI : Addr) : Prop where
  ex : ∃ (f : Addr) (fd : FuncData), Mk K C f ∧ FnOk P w K mg base (L2.CX P w) 1 f fd ["self", "sectors"] (spMInB XI) ∧ FnOk P w K mg base CX0 1 f fd ["self", "sectors"] (spMInG C) ∧ Binds K fd ["self", "sectors"] []
abbrev sLRf : Stmt := topS 12
abbrev nLRf : List Str := ["size", "e"]
theorem scLRf : FnScope nLRf ["size"] (defScope sLRf) := ⟨rfl, rfl, rfl, by decide +kernel, rfl, by decide +kernel, by decide +kernel⟩
def spLRf : Sp := fun vs H Q _ => ∃ v, vs = [v] ∧ badV H v ∧ ∀ H', Same H H' → Q (.bl true) H'
theorem ok_lrf {f0 : Addr} {fd : FuncData} (F0 : Fun K "_law_refused" "_law_refused" sLRf f0 fd) (B : Bt mg) (T : Cd K mg C XP XR XI) (MD : MkD P w K mg base C XI) : FnOk P w K mg base CX0 3 f0 fd ["size"] spLRf := by
  refine F0.ok scLRf (fun vs H Q E h => ?_) (fun cdv A outer s0 H vs Q E hr h => ?_)
  · obtain ⟨_, rfl, _⟩ := h
    rfl
  · obtain ⟨v, rfl, bv, q⟩ := h
    obtain ⟨fi, fdi, hM, hF, _, hb⟩ := MD.ex
    have r2 : Room 2 _ := hr
    refine ⟨_, pss_cons (ps_try_as (i := 1) (tb := fun W => tDrop (tMakeS C (spMInB XI) (WE W) (tCons (tVar 0) tNil))) (Wout := fun _ _ _ _ => False) rfl rfl scLRf.nd rfl rfl ⟨rfl, by decide, Or.inl T.gR⟩ takes0
        (fun W pn xe tk _ => pss_one (ps_expr (by exact (pe_makeS hM hF r2 (by rfl) T.mgC hb (fun σ => passAt tk σ) (pa_cons (pv 0) pa_nil)))))
        (fun a oe cls d pn hz hf => pss_one (ps_ret (pe_and (pe_callB (call_isG T.iI hz hf) (by rfl) B.isi (by decide +kernel) (pa_cons (pv 1) (pa_cons (pe_glob (v := .ref XI) (by rfl) T.gI rfl) pa_nil)))
          (pe_one (pe_callB (call_isG T.iI hz hf) (by rfl) B.isi (by decide +kernel) (pa_cons (pv 1) (pa_cons (pe_bltn (v := .ty "ValueError") (u := .type "ValueError") (by rfl) T.gV (by decide +kernel) rfl) pa_nil)))))))) pss_never, ?_⟩
    refine ⟨v, rfl, fun x dx nx ndx ndx' => ?_⟩
    have sm : Same H (upd (upd H dx (.own x)) x (.ins C dx [])) := same_put (same_new ndx) nx
    refine ⟨x, v, rfl, ?_, true, T.eI, fun _ a na => ?_, fun z => nomatch z⟩
    · rcases bv with h | h | h | h | ⟨a, xs, e, ea⟩
      · exact .inl h
      · exact .inr (.inl h)
      · exact .inr (.inr (.inl h))
      · exact .inr (.inr (.inr (.inl h)))
      · exact .inr (.inr (.inr (.inr ⟨a, xs, e, sm _ _ ea⟩)))
    · refine ⟨.ref a, rfl, rfl, rfl, .ref XI, .ref XI, true, rfl, (fun u r => r), T.i1, true, rfl, iteT' rfl ?_⟩
      refine ⟨.ref a, rfl, rfl, rfl, .ty "ValueError", .type "ValueError", true, rfl, (fun u r => r), T.i2, ?_⟩
      exact q _ sm
end
end MK

namespace KA
open PySem PySem.Spec PyProof.Rows L2
/-- d.update(e): a dict with another one -/
def tDUpd (td te : TE) : TE := fun σ H Q => td σ H fun x H1 => ∃ a, x = .ref a ∧ IsD H1 a ∧ te σ H1 fun y H2 => ∃ b kvs more, y = .ref b ∧ H2 a = some (.dK kvs) ∧ Rd H2 b (.dK more) ∧ a ≠ b ∧ kvs.length + more.length ≤ sizeLine ∧ Q .non (upd H2 a (.dK (mergeK kvs more)))
section
variable {X : Cx} {o e : Expr} {td te : TE} {apos cpos : Pos}
theorem pe_dupdate (ho : PE X o td) (he : PE X e te) (m : M1 X o "update" apos e cpos) : PE X (.Call (.Attribute o "update" apos) [e] [] cpos) (tDUpd td te) := by
  refine ⟨fun pins s σ H Q I h => ?_⟩
  refine wpAny_Call_method m.base m.few m.line PySem.F.plainAttrs_dict PySem.F.slot_dict_update PySem.F.type_dict_update (thn (ho.run pins s σ H _ I h) fun u s1 ⟨x, H1, I1, rx, a, ex, d, q1⟩ => ?_)
  subst ex
  obtain rfl : u = Value.ref a := rx
  obtain ⟨t1, t2, _⟩ := isD_at I1 d
  refine ⟨t1, t2, ?_⟩
  rw [m.trees]
  refine Calls.callWith_builtin rfl (Calls.evalArgs_plain (Calls.spliced_cons (thn (he.run pins s1 σ H1 _ I1 q1) fun iv s2 ⟨y, H2, I2, ry, b, kvs, more, ey, ea, rb, nab, hl, q⟩ => Calls.spliced_nil ?_)))
  subst ey
  obtain rfl : iv = Value.ref b := ry
  obtain ⟨z1, hd1, vs, rel1, dd1⟩ := dk_of I2.hok ea
  obtain ⟨z2, hd2, rs, rel2, dd2⟩ := dk_rd I2.hok rb
  refine call_meetsIn PySem.F.slot_dict_update dd1.typeIs PySem.F.entry_dict_update (PySem.F.args_dict_update_2 _ _) (meets_dict_update (mixKind X.prog X.w) a b nab hd2)
    ⟨vs, rs, dd1, dd2, (by rw [← rel1.length, ← rel2.length]; exact hl), fun h' dd' _ hs => ?_⟩
  have hex : ∃ q, h'.get? a = some q := let ⟨q, _, _, hq, _⟩ := dd'; ⟨q, hq⟩
  have hlen := length_mergeK more kvs
  exact ⟨.non, _, d_write I2 (by rw [ea]; exact True.intro) hs hex (dk_new (by omega) hd1 (rel2.merge rel1) dd'), rfl, q⟩
end
end KA

namespace MK
open PySem PySem.Spec PyProof.Rows L2 KA
/-! ### the law's own world -/
def wK (n : Nat) (la wa co : Addr) (m : DM) : List (Key × V) := [(.inr "size", .int (n : Nat)), (.inr "lasting", .ref la), (.inr "waiting", .ref wa), (.inr "on", .bl m.on), (.inr "left", optV m.al), (.inr "losses", .int (m.fa : Nat)), (.inr "counts", .ref co)]
def Las (H : Hp) (kvs : List (Key × V)) (sy : List (List Int)) : Prop := ∀ (i : Nat) (d : List Int), sy[i]? = some d → (∃ v, valV kvs (Sum.inl (i : Int) : Key) = some v ∧ IL H v d) ∨ (valV kvs (Sum.inl (i : Int) : Key) = none ∧ d = sec0)
structure WdB (H : Hp) (w la wa co : Addr) (kvs : List (Key × V)) (zs : List V) (n : Nat) (m : DM) (N : Nat) : Prop where
  hw : H w = some (.dK (wK n la wa co m))
  hla : H la = some (.dK kvs)
  hwa : H wa = some (.lst zs)
  hco : H co = some (.lst [.int (m.ws : Nat), .int (m.ss : Nat)])
  it : Wts H zs m.wt
  las : Las H kvs m.sy
  n1 : w ≠ la
  n2 : wa ≠ co
  nn : m.sy.length = n
  few : kvs.length + m.wt.length ≤ N
  big : N ≤ 900
  s64 : ∀ d ∈ m.sy, d.length = 64
  t64 : ∀ p ∈ m.wt, p.1 < m.sy.length ∧ p.2.length = 64
def wFt (w la wa co : Addr) : Addr → Prop := fun a => a = w ∨ a = la ∨ a = wa ∨ a = co
def WdAt (H : Hp) (w : Addr) (n : Nat) (m : DM) (N : Nat) (G : Addr → Prop) : Prop := ∃ la wa co kvs zs, WdB H w la wa co kvs zs n m N ∧ G = wFt w la wa co
theorem WdB.mu {H : Hp} {w la wa co : Addr} {kvs : List (Key × V)} {zs : List V} {n : Nat} {m : DM} {N : Nat} (b : WdB H w la wa co kvs zs n m N) : Mu (wFt w la wa co) H := by
  rintro a (rfl | rfl | rfl | rfl)
  · exact ⟨fun xs z => (by rw [b.hw] at z; cases z), fun ns _ z => by rw [b.hw] at z; cases z⟩
  · exact ⟨fun xs z => (by rw [b.hla] at z; cases z), fun ns _ z => by rw [b.hla] at z; cases z⟩
  · refine ⟨fun xs z => (by rw [b.hwa] at z; cases z), fun ns l z => ?_⟩
    rw [b.hwa] at z
    have e := HO.lst.inj (Option.some.inj z)
    exact len64 l (e.symm.trans (b.it.mixed e))
  · refine ⟨fun xs z => (by rw [b.hco] at z; cases z), fun ns l z => ?_⟩
    rw [b.hco] at z
    have e := HO.lst.inj (Option.some.inj z)
    have : ns.length = 2 := by
      have := congrArg List.length e
      rw [List.length_map] at this
      exact this.symm
    omega
theorem Las.to {H H' : Hp} {kvs : List (Key × V)} {sy : List (List Int)} (h : Las H kvs sy) (k : ∀ d, d ∈ sy → ∀ v, IL H v d → IL H' v d) : Las H' kvs sy := fun i d e => by
  rcases h i d e with ⟨v, ev, il⟩ | r
  · exact .inl ⟨v, ev, k d (List.mem_of_getElem? e) v il⟩
  · exact .inr r
/-- what stands stays: the world stays -/
theorem WdB.to {H H' : Hp} {w la wa co : Addr} {kvs : List (Key × V)} {zs : List V} {n : Nat} {m : DM} {N : Nat} (b : WdB H w la wa co kvs zs n m N) (k : ∀ a o, H a = some o → (wFt w la wa co a ∨ (∃ xs, o = .tup xs) ∨ ∃ ns : List Int, ns.length = 64 ∧ o = .lst (ns.map V.int)) → H' a = some o) : WdB H' w la wa co kvs zs n m N := by
  have kt : ∀ {vs : List V} {ps : List (Nat × List Int)}, Wts H vs ps → (∀ p ∈ ps, p.2.length = 64) → Wts H' vs ps := fun h => by
    induction h with
    | nil => exact fun _ => .nil
    | cons a b _ ih => exact fun l => .cons (k _ _ a (.inr (.inl ⟨_, rfl⟩))) (k _ _ b (.inr (.inr ⟨_, l _ List.mem_cons_self, rfl⟩))) (ih fun d md => l d (List.mem_cons_of_mem _ md))
  refine ⟨k _ _ b.hw (.inl (.inl rfl)), k _ _ b.hla (.inl (.inr (.inl rfl))), k _ _ b.hwa (.inl (.inr (.inr (.inl rfl)))), k _ _ b.hco (.inl (.inr (.inr (.inr rfl)))), kt b.it (fun p z => (b.t64 p z).2), b.las.to (fun d md v il => ?_), b.n1, b.n2, b.nn, b.few, b.big, b.s64, b.t64⟩
  obtain ⟨p, rfl, e⟩ := il
  exact ⟨p, rfl, k _ _ e (.inr (.inr ⟨d, b.s64 d md, rfl⟩))⟩
theorem WdAt.same {H H' : Hp} {w : Addr} {n : Nat} {m : DM} {N : Nat} {G : Addr → Prop} (b : WdAt H w n m N G) (k : Same H H') : WdAt H' w n m N G := by
  obtain ⟨la, wa, co, kvs, zs, b, e⟩ := b
  exact ⟨la, wa, co, kvs, zs, b.to (fun a o h _ => k a o h), e⟩
theorem WdAt.mu {H : Hp} {w : Addr} {n : Nat} {m : DM} {N : Nat} {G : Addr → Prop} (b : WdAt H w n m N G) : Mu G H := by
  obtain ⟨la, wa, co, kvs, zs, b, rfl⟩ := b
  exact b.mu
theorem WdAt.known {H : Hp} {w : Addr} {n : Nat} {m : DM} {N : Nat} {G : Addr → Prop} (b : WdAt H w n m N G) : ∀ a, G a → H a ≠ none := by
  obtain ⟨la, wa, co, kvs, zs, b, rfl⟩ := b
  rintro a (rfl | rfl | rfl | rfl) z
  · rw [b.hw] at z; cases z
  · rw [b.hla] at z; cases z
  · rw [b.hwa] at z; cases z
  · rw [b.hco] at z; cases z
theorem DkAt.known {C : Addr} {H : Hp} {s : Addr} {m : DM} {F : Addr → Prop} (b : DkAt C H s m F) : ∀ a, F a → H a ≠ none := by
  obtain ⟨dx, Sy, Wr, Wa, xs, ys, zs, b, rfl⟩ := b
  rintro a (rfl | rfl | rfl | rfl) z
  · rw [b.hs] at z; cases z
  · rw [b.hsy] at z; cases z
  · rw [b.hwr] at z; cases z
  · rw [b.hwa] at z; cases z
/-- the drawing state, the disk, the world, each for itself -/
structure All (C : Addr) (H : Hp) (st L s w : Addr) (n : Nat) (md mw : DM) (N : Nat) (F G : Addr → Prop) : Prop where
  good : Good st L H
  dk : DkAt C H s md F
  wd : WdAt H w n mw N G
  fg : ∀ a, F a → ¬ G a
  fst : ¬ F st
  fL : ¬ F L
  gst : ¬ G st
  gL : ¬ G L
section
variable {C : Addr} {H H' : Hp} {st L s w : Addr} {n : Nat} {md mw : DM} {N : Nat} {F G : Addr → Prop}
theorem All.dr (A : All C H st L s w n md mw N F G) (d : Dr st L H H') : All C H' st L s w n md mw N F G := by
  have k : ∀ {P : Addr → Prop}, ¬ P st → ∀ a o, H a = some o → (P a ∨ (∃ xs, o = .tup xs) ∨ ∃ ns : List Int, ns.length = 64 ∧ o = .lst (ns.map V.int)) → H' a = some o := fun hP a o h c => by
    refine d.at_ (fun z => ?_) h
    subst z
    rcases c with c | ⟨xs, rfl⟩ | ⟨ns, l, rfl⟩
    · exact hP c
    · obtain ⟨_, _, _, _, e, _⟩ := A.good
      rw [e] at h
      cases h
    · exact A.good.ne_ints h rfl
  refine ⟨d.good, ?_, ?_, A.fg, A.fst, A.fL, A.gst, A.gL⟩
  · obtain ⟨dx, Sy, Wr, Wa, xs, ys, zs, b, e⟩ := A.dk
    have := A.fst
    rw [e] at this
    exact ⟨dx, Sy, Wr, Wa, xs, ys, zs, b.to (k this), e⟩
  · obtain ⟨la, wa, co, kvs, zs, b, e⟩ := A.wd
    have := A.gst
    rw [e] at this
    exact ⟨la, wa, co, kvs, zs, b.to (k this), e⟩
theorem All.same (A : All C H st L s w n md mw N F G) (k : Same H H') : All C H' st L s w n md mw N F G := A.dr (Dr.same A.good k)
/-- the disk did something -/
theorem All.disk {md' : DM} {F' : Addr → Prop} (A : All C H st L s w n md mw N F G) (o : Out F H H') (hF : ∀ b, F' b → F b ∨ H b = none) (D : DkAt C H' s md' F') : All C H' st L s w n md' mw N F' G := by
  have mu := A.dk.mu
  have kst : H st ≠ none := A.good.not_none
  obtain ⟨ns, i, a, b', e1, e2, e3⟩ := A.good
  refine ⟨⟨ns, i, a, b', o _ _ A.fst e1, o _ _ A.fL e2, e3⟩, D, ?_, fun c hc hg => ?_, fun z => ?_, fun z => ?_, A.gst, A.gL⟩
  · obtain ⟨la, wa, co, kvs, zs, b, e⟩ := A.wd
    refine ⟨la, wa, co, kvs, zs, b.to (fun a o' h c => o a o' (fun z => ?_) h), e⟩
    rcases c with c | ⟨xs, rfl⟩ | ⟨ns, l, rfl⟩
    · exact A.fg a z (by rw [e]; exact c)
    · exact (mu a z).1 xs h
    · exact (mu a z).2 ns l h
  · rcases hF c hc with h | h
    · exact A.fg c h hg
    · exact A.wd.known c hg h
  · rcases hF st z with h | h
    · exact A.fst h
    · exact kst h
  · rcases hF L z with h | h
    · exact A.fL h
    · rw [h] at e2
      cases e2
/-- the world did something -/
theorem All.world {mw' : DM} {N' : Nat} {G' : Addr → Prop} (A : All C H st L s w n md mw N F G) (o : Out G H H') (hG : ∀ b, G' b → G b ∨ H b = none) (D : WdAt H' w n mw' N' G') : All C H' st L s w n md mw' N' F G' := by
  have mu := A.wd.mu
  have kst : H st ≠ none := A.good.not_none
  obtain ⟨ns, i, a, b', e1, e2, e3⟩ := A.good
  refine ⟨⟨ns, i, a, b', o _ _ A.gst e1, o _ _ A.gL e2, e3⟩, ?_, D, fun c hc hg => ?_, A.fst, A.fL, fun z => ?_, fun z => ?_⟩
  · obtain ⟨dx, Sy, Wr, Wa, xs, ys, zs, b, e⟩ := A.dk
    refine ⟨dx, Sy, Wr, Wa, xs, ys, zs, b.to (fun a o' h c => o a o' (fun z => ?_) h), e⟩
    rcases c with c | ⟨xs, rfl⟩ | ⟨ns, l, rfl⟩
    · exact A.fg a (by rw [e]; exact c) z
    · exact (mu a z).1 xs h
    · exact (mu a z).2 ns l h
  · rcases hG c hg with h | h
    · exact A.fg c hc h
    · exact A.dk.known c hc h
  · rcases hG st z with h | h
    · exact A.gst h
    · exact kst h
  · rcases hG L z with h | h
    · exact A.gL h
    · rw [h] at e2
      cases e2
end
theorem kget {H : Hp} {w : Addr} {kvs : List (Key × V)} {x : Str} {v : V} (e : H w = some (.dK kvs)) (h : valV kvs (Sum.inr x : Key) = some v) : DGet H w (.str x) (some v) := by
  have := DGet.k (k := (Sum.inr x : Key)) e
  rw [h] at this
  exact this
section
variable {P : Program} {w0 : World} {K : PySem.W.Frag} {mg : Str → Option Value} {base : Heap} {C XP XR XI : Addr}
abbrev sLOp : Stmt := topS 13
abbrev nLOp : List Str := ["world"]
theorem scLOp : FnScope nLOp ["world"] (defScope sLOp) := ⟨rfl, rfl, rfl, by decide +kernel, rfl, by decide +kernel, by decide +kernel⟩
def spLOp : Sp := fun vs H Q _ => ∃ (w : Addr) (n : Nat) (m : DM) (N : Nat) (G : Addr → Prop), vs = [.ref w] ∧ WdAt H w n m N G ∧ (m.on = false → m.al = none) ∧ ∀ H', Out G H H' → WdAt H' w n (if (dueM m).on = true then opM m else dueM m) N G → Q (.bl (dueM m).on) H'
/-- the world's own dict is written -/
theorem WdB.fld {H : Hp} {w la wa co : Addr} {kvs : List (Key × V)} {zs : List V} {n : Nat} {m m' : DM} {N : Nat} (b : WdB H w la wa co kvs zs n m N) (h1 : m'.sy = m.sy) (h3 : m'.wt = m.wt) (h4 : m'.ws = m.ws) (h5 : m'.ss = m.ss) : WdB (upd H w (.dK (wK n la wa co m'))) w la wa co kvs zs n m' N := by
  have nwa : wa ≠ w := fun z => by have := b.hwa; rw [z, b.hw] at this; cases this
  have nco : co ≠ w := fun z => by have := b.hco; rw [z, b.hw] at this; cases this
  have o : Out (wFt w la wa co) H (upd H w (.dK (wK n la wa co m'))) := Out.put (.inl rfl)
  have mu := b.mu
  refine ⟨upd_same, by rw [upd_ne b.n1.symm]; exact b.hla, by rw [upd_ne nwa]; exact b.hwa, by rw [upd_ne nco, h4, h5]; exact b.hco, by rw [h3]; exact b.it.out o mu (fun p z => (b.t64 p z).2), ?_, b.n1, b.n2, by rw [h1]; exact b.nn, by rw [h3]; exact b.few, b.big, by rw [h1]; exact b.s64, by rw [h1, h3]; exact b.t64⟩
  rw [h1]
  refine b.las.to (fun d md v il => ?_)
  obtain ⟨p, rfl, e⟩ := il
  exact ⟨p, rfl, o _ _ (fun z => (mu p z).2 d (b.s64 d md) e) e⟩
theorem ok_lop {f0 : Addr} {fd : FuncData} (F0 : Fun K "_law_operate" "_law_operate" sLOp f0 fd) : FnOk P w0 K mg base CX0 1 f0 fd ["world"] spLOp := by
  refine F0.ok scLOp (fun vs H Q E h => ?_) (fun cdv A outer s0 H vs Q E hr h => ?_)
  · obtain ⟨_, _, _, _, _, rfl, _⟩ := h
    rfl
  · obtain ⟨w, n, m, N, G, rfl, W, off, q⟩ := h
    have hu := hu_of hr
    refine ⟨_, (C8.pss_cut (ps_if (PW.pt (pw_and (pt_val (pe_dget hu (pv 0) pe_str (fun _ _ => rfl))) (pw_and1 (pt_cmpR op_eq (pe_dget hu (pv 0) pe_str (fun _ _ => rfl)) pe_int (nomark _)))))
        (pss_one (ps_expr (pe_dupdate (pv 0) (pe_disp (pps_cons pe_str pe_bl (pps_cons pe_str pe_non (pps_cons pe_str (pe_op op_add (pe_dget hu (pv 0) pe_str (fun _ _ => rfl)) pe_int) pps_nil))) (by rfl) (by rfl) (fun z => by cases z) (by decide)) ⟨rfl, rfl, rfl, rfl⟩)))
        pss_nil)
      (C8.pss_cut (ps_if (PW.pt (pw_and (pt_val (pe_dget hu (pv 0) pe_str (fun _ _ => rfl))) (pw_and1 (pt_cmpR op_notN (pe_dget hu (pv 0) pe_str (fun _ _ => rfl)) pe_non (nomark _)))))
        (pss_one (ps_daug hu (pv 0) pe_str pe_int in_sub (fun _ _ _ => rfl)))
        pss_nil)
      (pss_one (ps_ret (pe_dget hu (pv 0) pe_str (fun _ _ => rfl)))))), ?_⟩
    obtain ⟨la, wa, co, kvs, zs, b, eG⟩ := id W
    have al0 : ∀ n : Option Nat, decide (optV n = V.int 0) = decide (n = some 0) := fun n => by
      cases n with
      | none => rfl
      | some n =>
        by_cases z : n = 0
        · subst z
          rfl
        · rw [decide_eq_false (fun e => z (by injection e with e; omega)), decide_eq_false (fun e => z (Option.some.inj e))]
    have sc : ∀ n : Option Nat, scal (optV n) (.int 0) = true := fun n => by cases n <;> rfl
    refine ⟨fun σ H' => σ = [some (.ref w)] ∧ Out G H H' ∧ WdAt H' w n (dueM m) N G, ?_, ?_⟩
    · refine ⟨.ref w, rfl, w, .bl m.on, rfl, kget b.hw rfl, m.on, rfl, ?_⟩
      cases eo : m.on with
      | false =>
        have ea := off eo
        exact iteF' rfl (iteF' rfl ⟨rfl, (fun _ _ _ h => h), by unfold dueM; rw [if_neg (by rw [ea]; exact fun z => nomatch z)]; exact W⟩)
      | true =>
        refine iteT' rfl ⟨.ref w, rfl, w, optV m.al, rfl, kget b.hw rfl, sc _, _, rfl, ?_⟩
        rw [al0]
        by_cases c : m.al = some 0
        · refine iteT' (decide_eq_true c) ⟨.ref w, rfl, w, rfl, .inl ⟨_, .inl b.hw⟩, fun D nD => ?_⟩
          generalize hG : upd _ D _ = H1
          obtain ⟨s1, e1⟩ := gen_up hG nD
          clear hG
          have nwD : w ≠ D := fun z => by have := b.hw; rw [z, nD] at this; cases this
          refine ⟨.ref w, rfl, w, .int (m.fa : Nat), rfl, kget (s1 _ _ b.hw) rfl, _, 1, rfl, rfl, e1, [(.inr "on", .bl false), (.inr "left", .non), (.inr "losses", .int ((m.fa : Int) + 1))], rfl, (by show 3 ≤ 15; decide), D, _, _, rfl, by rw [upd_ne nwD]; exact s1 _ _ b.hw, .inl upd_same, nwD, small6 (by show 7 + 3 ≤ 1000000; decide), ?_⟩
          generalize hG : upd H1 D _ = H2
          have s2 : Same H H2 := fun c' o h => by
            rw [← hG, upd_ne (fun z => by rw [z, nD] at h; cases h)]
            exact s1 _ _ h
          clear hG
          have b2 : WdB H2 w la wa co kvs zs n m N := b.to (fun a o h _ => s2 a o h)
          have ed : dueM m = failM m := by unfold dueM; rw [if_pos c]
          rw [ed]
          exact ⟨rfl, (Out.of s2).trans (Out.put (by rw [eG]; exact .inl rfl)), la, wa, co, kvs, zs, b2.fld (m' := failM m) rfl rfl rfl rfl, eG⟩
        · exact iteF' (decide_eq_false c) ⟨rfl, (fun _ _ _ h => h), by unfold dueM; rw [if_neg c]; exact W⟩
    · rintro σ H1 ⟨rfl, o1, W1⟩
      have off1 : (dueM m).on = false → (dueM m).al = none := by
        unfold dueM
        split
        · exact fun _ => rfl
        · exact off
      have ne0 : (dueM m).al ≠ some 0 := by
        unfold dueM
        split
        · exact fun z => nomatch z
        · assumption
      have oeq : (dueM m).al = none → opM m = dueM m := fun ea => by
        unfold opM
        rw [ea]
        cases h : dueM m
        rw [h] at ea
        simp only at ea
        rw [ea]
        rfl
      refine ⟨fun σ H' => σ = [some (.ref w)] ∧ Out G H H' ∧ WdAt H' w n (if (dueM m).on = true then opM m else dueM m) N G, ?_, ?_⟩
      · obtain ⟨la, wa, co, kvs, zs, b, eG⟩ := id W1
        refine ⟨.ref w, rfl, w, .bl (dueM m).on, rfl, kget b.hw rfl, (dueM m).on, rfl, ?_⟩
        cases eo : (dueM m).on with
        | false => exact iteF' rfl (iteF' rfl ⟨rfl, o1, by rw [if_neg Bool.false_ne_true]; exact W1⟩)
        | true =>
          refine iteT' rfl ⟨.ref w, rfl, w, optV (dueM m).al, rfl, kget b.hw rfl, rfl, _, rfl, ?_⟩
          rw [if_pos rfl]
          cases ea : (dueM m).al with
          | none => exact iteF' (by decide) ⟨rfl, o1, by rw [oeq ea]; exact W1⟩
          | some k =>
            have k0 : 1 ≤ k := by
              rcases Nat.eq_zero_or_pos k with z | z
              · subst z
                exact absurd ea ne0
              · exact z
            have ev : valV (wK n la wa co (dueM m)) (Sum.inr "left" : Key) = some (.int (k : Nat)) := by
              show some (optV (dueM m).al) = _
              rw [ea]
              rfl
            refine iteT' (by rfl) ⟨.ref w, rfl, w, .int (k : Nat), rfl, kget b.hw ev, _, _, rfl, rfl, _, DPut.k (k := (Sum.inr "left" : Key)) b.hw (small7 (by show 7 ≤ 1000000; decide)), ?_⟩
            have ef : putK (wK n la wa co (dueM m)) (Sum.inr "left" : Key) (.int ((k : Int) - 1)) = wK n la wa co (opM m) := by
              have e2 : optV (opM m).al = .int ((k : Int) - 1) := by
                show optV ((dueM m).al.map (· - 1)) = _
                rw [ea]
                show V.int ((k - 1 : Nat) : Int) = _
                congr 1
                omega
              rw [← e2]
              rfl
            rw [ef]
            exact ⟨rfl, o1.trans (Out.put (by rw [eG]; exact .inl rfl)), la, wa, co, kvs, zs, b.fld (m' := opM m) rfl rfl rfl rfl, eG⟩
      · rintro σ H2 ⟨rfl, o2, W2⟩
        obtain ⟨la, wa, co, kvs, zs, b, eG⟩ := id W2
        have eon : (if (dueM m).on = true then opM m else dueM m).on = (dueM m).on := by
          split <;> rfl
        refine ⟨.ref w, rfl, w, .bl (dueM m).on, rfl, kget b.hw ?_, q H2 o2 W2⟩
        show some (V.bl (if (dueM m).on = true then opM m else dueM m).on) = _
        rw [eon]
abbrev dLOp (P : Program) (w0 : World) (K : PySem.W.Frag) (mg : Str → Option Value) (base : Heap) : Prop := Def P w0 K mg base "_law_operate" 1 ["world"] spLOp
abbrev sLSe : Stmt := topS 19
abbrev nLSe : List Str := ["world", "index", "data", "other", "written"]
theorem scLSe : FnScope nLSe ["world", "index"] (defScope sLSe) := ⟨rfl, rfl, rfl, by decide +kernel, rfl, by decide +kernel, by decide +kernel⟩
def spLSe : Sp := fun vs H Q _ => ∃ (w : Addr) (n : Nat) (m : DM) (N : Nat) (G : Addr → Prop) (i : Nat) (d : List Int), vs = [.ref w, .int (i : Int)] ∧ WdAt H w n m N G ∧ (arr m.sy m.wt)[i]? = some d ∧ ∀ v H', Same H H' → IL H' v d → Q v H'
theorem ok_lse {f0 : Addr} {fd : FuncData} (F0 : Fun K "_law_sector" "_law_sector" sLSe f0 fd) : FnOk P w0 K mg base CX0 1 f0 fd ["world", "index"] spLSe := by
  refine F0.ok scLSe (fun vs H Q E h => ?_) (fun cdv A outer s0 H vs Q E hr h => ?_)
  · obtain ⟨_, _, _, _, _, _, _, rfl, _⟩ := h
    rfl
  · obtain ⟨w, n, m, N, G, i, d, rfl, W, ed, q⟩ := h
    have hu := hu_of hr
    refine ⟨_, (pss_cons (ps_set (i := 2) scLSe.nd rfl (.inl rfl) (pe_dget2 hu (pe_dget hu (pv 0) pe_str (fun _ _ => rfl)) (pv 1) (pe_op op_rep (pe_lst (pa_cons pe_int pa_nil)) pe_int) ⟨rfl, rfl, rfl, rfl⟩))
      (pss_cons (ps_for PassesOwn.never rfl (pi_list (pe_dget hu (pv 0) pe_str (fun _ _ => rfl))) (pg_tup rfl (pgs_cons (pg_name (i := 3) scLSe.nd rfl (Or.inl rfl)) (pgs_cons (pg_name (i := 4) scLSe.nd rfl (Or.inl rfl)) pgs_nil)))
        (pss_one (ps_if (pt_cmpR op_eq (pv 3) (pv 1) (nomark _))
          (pss_one (ps_set (i := 2) scLSe.nd rfl (.inl rfl) (pv 4)))
          pss_nil)))
      (pss_one (ps_ret (pv 2))))), ?_⟩
    obtain ⟨la, wa, co, kvs, zs, b, eG⟩ := W
    have il : i < m.sy.length := by
      have := (List.getElem?_eq_some_iff.mp ed).1
      rw [arr_len] at this
      exact this
    obtain ⟨d0, e0⟩ : ∃ d0, m.sy[i]? = some d0 := ⟨_, List.getElem?_eq_getElem il⟩
    refine ⟨.ref w, rfl, w, .ref la, rfl, kget b.hw rfl, la, rfl, .inl ⟨_, .inl b.hla⟩, .int (i : Int), rfl, (by show 1 ≤ sizeLine; exact small6 (by decide)), fun p np => ?_⟩
    generalize hG : upd _ p _ = H1
    obtain ⟨s1, e1⟩ := gen_up hG np
    clear hG
    refine ⟨p, 64, _, rfl, rfl, e1, by decide, by decide, small6 (by decide), fun p2 np2 => ?_⟩
    generalize hG : upd _ p2 _ = H2
    obtain ⟨s2, e2⟩ := gen_up hG np2
    clear hG
    have e2 : H2 p2 = some (.lst (sec0.map V.int)) := e2
    have s12 := s1.trans s2
    have b2 : WdB H2 w la wa co kvs zs n m N := b.to (fun a o h _ => s12 a o h)
    refine ⟨_, DGet.k (k := (Sum.inl (i : Int) : Key)) b2.hla, ?_⟩
    obtain ⟨v0, ev0, il0⟩ : ∃ v0, (valV kvs (Sum.inl (i : Int) : Key)).getD (.ref p2) = v0 ∧ IL H2 v0 d0 := by
      rcases b2.las i d0 e0 with ⟨v, ev, il⟩ | ⟨ev, rfl⟩
      · exact ⟨v, by rw [ev]; rfl, il⟩
      · exact ⟨.ref p2, by rw [ev]; rfl, p2, rfl, e2⟩
    rw [ev0]
    refine ⟨.ref w, rfl, w, .ref wa, rfl, kget b2.hw rfl, wa, rfl, ⟨_, SqL.of b2.hwa⟩, ?_⟩
    have lz := b2.it.length
    refine for_list (K := K) (a := wa) (xs := zs) (fun k σ H' => H' = H2 ∧ ∃ v dk x3 x4, σ = [some (.ref w), some (.int (i : Int)), some v, x3, x4] ∧ IL H2 v dk ∧ (arr m.sy (m.wt.take k))[i]? = some dk) ⟨rfl, v0, d0, none, none, rfl, il0, e0⟩ (fun k σ H' _ hP => by rw [hP.1]; exact SqL.of b2.hwa) (fun k x σ Hk hx hP => ?_) (fun σ H' hP => ?_)
    · obtain ⟨rfl, v, dk, x3, x4, rfl, ilv, ek⟩ := hP
      obtain ⟨t, r, j, e, rfl, ew, et, er⟩ := b2.it.get hx
      refine ⟨t, _, rfl, SqT.of et, rfl, _, _, rfl, _, _, rfl, rfl, ?_⟩
      refine ⟨.int (j : Int), rfl, .int (i : Int), rfl, rfl, _, rfl, ?_⟩
      have ea : arr m.sy (m.wt.take (k + 1)) = (arr m.sy (m.wt.take k)).set j e := by
        rw [List.take_add_one, ew]
        exact arr_snoc _ _ _
      by_cases c : j = i
      · subst c
        refine iteT' (decide_eq_true rfl) ⟨.ref r, rfl, rfl, .ref r, e, _, _, rfl, ⟨r, rfl, er⟩, ?_⟩
        rw [ea, List.getElem?_set_self (by rw [arr_len]; exact il)]
      · refine iteF' (decide_eq_false (fun z => c (by injection z with z; omega))) ⟨rfl, v, dk, _, _, rfl, ilv, ?_⟩
        rw [ea, List.getElem?_set_ne c]
        exact ek
    · obtain ⟨rfl, v, dk, x3, x4, rfl, ilv, ek⟩ := hP
      rw [lz, List.take_length, ed] at ek
      cases ek
      exact ⟨v, rfl, q v _ s12 ilv⟩
abbrev dLSe (P : Program) (w0 : World) (K : PySem.W.Frag) (mg : Str → Option Value) (base : Heap) : Prop := Def P w0 K mg base "_law_sector" 1 ["world", "index"] spLSe
end
end MK

namespace MK
open PySem PySem.Spec PyProof.Rows L2 KA
theorem tC_q {v : V} {σ : L2.St} {H : Hp} {Q : VK} (h : Q v H) : tC v σ H Q := h
theorem cat_q {H : Hp} {a b : Addr} {xs ys : List V} {Q : VK} (ea : H a = some (.lst xs)) (eb : H b = some (.lst ys)) (hl : xs.length + ys.length ≤ 1000000) (k : ∀ p H', Same H H' → H p = none → H' p = some (.lst (xs ++ ys)) → Q (.ref p) H') : rCat (.ref a) (.ref b) H Q :=
  ⟨a, b, _, _, rfl, rfl, ea, eb, small6 hl, fun p np => k p _ (same_new np) np upd_same⟩
section
variable {P : Program} {w0 : World} {K : PySem.W.Frag} {mg : Str → Option Value} {base : Heap} {C XP XR XI : Addr}
/-- the disk's methods -/
structure Ms (P : Program) (w0 : World) (K : PySem.W.Frag) (mg : Str → Option Value) (base : Heap) (C XP : Addr) : Prop where
  sz : MDef P w0 K mg base C "size" 1 ["self"] (spMSz C)
  re : MDef P w0 K mg base C "read" 1 ["self", "index"] (spMRe C)
  pe : MDef P w0 K mg base C "pending" 1 ["self"] (spMPe C)
  cn : MDef P w0 K mg base C "counts" 1 ["self"] (spMCn C)
  on : MDef P w0 K mg base C "is_on" 1 ["self"] (spMOn C)
  lo : MDef P w0 K mg base C "losses" 1 ["self"] (spMLo C)
  wr : MDefX P w0 K mg base C "write" 3 ["self", "index", "data"] (spMWr C XP)
  sy : MDefX P w0 K mg base C "sync" 3 ["self"] (spMSy C XP)
  fa : MDefX P w0 K mg base C "fail_after" 1 ["self", "operations"] (spMFA C XP)
  pw : MDef P w0 K mg base C "power" 2 ["self", "kept"] (spMPw C)
/-- the numbers of the law's world and disk -/
structure Good2 (m : DM) (n : Nat) : Prop where
  link : m.wr = arr m.sy m.wt
  off : m.on = false → m.al = none
  lo : 60 ≤ n
  hi : n ≤ 400
abbrev sLIs : Stmt := topS 20
abbrev nLIs : List Str := ["state", "world", "disk", "told", "due", "index", "sector", "place", "data"]
theorem scLIs : FnScope nLIs ["state", "world", "disk"] (defScope sLIs) := ⟨rfl, rfl, rfl, by decide +kernel, rfl, by decide +kernel, by decide +kernel⟩
def spLIs (C : Addr) : Sp := fun vs H Q _ => ∃ (st L s w : Addr) (n : Nat) (m : DM) (N : Nat) (F G : Addr → Prop), vs = [.ref st, .ref w, .ref s] ∧ All C H st L s w n m m N F G ∧ Good2 m n ∧ ∀ H', Dr st L H H' → All C H' st L s w n m m N F G → Q (.bl true) H'
theorem ok_lis {f0 : Addr} {fd : FuncData} (F0 : Fun K "_law_is_right" "_law_is_right" sLIs f0 fd) (B : Bt mg) (T : Cd K mg C XP XR XI) (M : Ms P w0 K mg base C XP) (DNext : dNext P w0 K mg base) (DLSe : dLSe P w0 K mg base) (DSM : dSQ P w0 K mg base) : FnOk P w0 K mg base CX0 6 f0 fd ["state", "world", "disk"] (spLIs C) := by
  refine F0.ok scLIs (fun vs H Q E h => ?_) (fun cdv A outer s0 H vs Q E hr h => ?_)
  · obtain ⟨_, _, _, _, _, _, _, _, _, rfl, _⟩ := h
    rfl
  · obtain ⟨st, L, s, w, n, m, N, F, G, rfl, A0, g2, q⟩ := h
    have hu := hu_of hr
    obtain ⟨MMSz, MMRe, MMPe, MMCn, MMOn, MMLo, _, _, _, _⟩ := M
    refine ⟨_, (pss_cons (ps_set (i := 3) scLIs.nd rfl (.inl rfl) (pe_lst (pa_cons (pe_mdef0 MMSz (pv 2) T.cl (hr.mono (by decide))) (pa_cons (pe_mdef0 MMPe (pv 2) T.cl (hr.mono (by decide))) (pa_cons (pe_mdef0 MMCn (pv 2) T.cl (hr.mono (by decide))) (pa_cons (pe_mdef0 MMOn (pv 2) T.cl (hr.mono (by decide))) (pa_cons (pe_mdef0 MMLo (pv 2) T.cl (hr.mono (by decide))) pa_nil)))))))
      (pss_cons (ps_set (i := 4) scLIs.nd rfl (.inl rfl) (pe_lst (pa_cons (pe_dget hu (pv 1) pe_str (fun _ _ => rfl)) (pa_cons (pe_callB call_len_seq (by rfl) B.len PySem.boot_len (pa_cons (pe_dget hu (pv 1) pe_str (fun _ _ => rfl)) pa_nil)) (pa_cons (pe_callTy call_tuple_of (by rfl) B.tup (by decide +kernel) (pa_cons (pe_dget hu (pv 1) pe_str (fun _ _ => rfl)) pa_nil)) (pa_cons (pe_dget hu (pv 1) pe_str (fun _ _ => rfl)) (pa_cons (pe_dget hu (pv 1) pe_str (fun _ _ => rfl)) pa_nil)))))))
      (C8.pss_cut (ps_if (PW.pt (pw_or (pt_not (pt_val (pe_def DSM (hr.mono (by decide)) (by rfl) (pa_cons (pv 3) (pa_cons (pv 4) pa_nil))))) (pw_or1 (PW.pt (pw_and (pt_not (pt_val (pe_dget hu (pv 1) pe_str (fun _ _ => rfl)))) (pw_and1 (pt_cmpR op_notBl (pe_fld (pv 2) rfl) pe_bl (nomark _))))))))
        (pss_one (ps_ret pe_bl))
        pss_nil)
      (pss_cons (ps_for PassesOwn.never rfl (pi_list (pe_op op_cat (pe_lc (own := [("place", 7), ("data", 8)]) (g := (gTup K 2 (gCons (gName 7) (gCons (gName 8) gNil)))) (tt := tYes) (te := (tVar 7)) rfl scLIs.nd (pi_list (pe_dget hu (pv 1) pe_str (fun _ _ => rfl))) (blkOk_by (own := [("place", 7), ("data", 8)]) (N := nLIs) (sc := defScope sLIs) (by decide +kernel)) (fun _ _ _ _ _ => (pg_tup rfl (pgs_cons (pg_name (i := 7) scLIs.nd rfl (Or.inl rfl)) (pgs_cons (pg_name (i := 8) scLIs.nd rfl (Or.inl rfl)) pgs_nil)))) (fun _ _ _ _ _ => pts_nil) (fun _ _ _ _ _ => (pv 7))) (pe_lst (pa_cons (pe_def DNext (hr.mono (by decide)) (by rfl) (pa_cons (pv 0) (pa_cons (pe_dget hu (pv 1) pe_str (fun _ _ => rfl)) pa_nil))) (pa_cons pe_int (pa_cons pe_int pa_nil)))))) (pg_name (i := 5) scLIs.nd rfl (Or.inl rfl))
        (pss_cons (ps_set (i := 6) scLIs.nd rfl (.inl rfl) (pe_mdef MMRe (pv 2) T.cl (hr.mono (by decide)) (pa_cons (pv 5) pa_nil)))
        (pss_cons (ps_if (pt_not (pt_val (pe_def DSM (hr.mono (by decide)) (by rfl) (pa_cons (pv 6) (pa_cons (pe_def DLSe (hr.mono (by decide)) (by rfl) (pa_cons (pv 1) (pa_cons (pv 5) pa_nil))) pa_nil)))))
          (pss_one (ps_ret pe_bl))
          pss_nil)
        (pss_one (ps_asg pe_int (pg_sub (pv 6) pe_int set_list))))))
      (pss_one (ps_ret pe_bl)))))), ?_⟩
    have D0 := A0.dk
    obtain ⟨dx, Sy, Wr, Wa, xs, ys, zs, b, eF⟩ := id D0
    refine ⟨.ref s, rfl, s, dx, _, rfl, b.hs, rfl, s, m, F, rfl, D0, .ref s, rfl, s, dx, _, rfl, b.hs, rfl, s, m, F, rfl, D0, .ref s, rfl, s, dx, _, rfl, b.hs, rfl, s, m, F, rfl, D0, fun p1 H1 s1 n1 e1 => ?_⟩
    have A1 := A0.same s1
    have b1h := s1 _ _ b.hs
    refine ⟨.ref s, rfl, s, dx, _, rfl, b1h, rfl, s, m, F, rfl, A1.dk, .ref s, rfl, s, dx, _, rfl, b1h, rfl, s, m, F, rfl, A1.dk, (by show 5 ≤ sizeLine; exact small6 (by decide)), fun p2 np2 => ?_⟩
    generalize hG : upd _ p2 _ = H2
    obtain ⟨s2, e2⟩ := gen_up hG np2
    clear hG
    have A2 := A1.same s2
    have e12 := s2 _ _ e1
    have b2h := s2 _ _ b1h
    -- what is due
    obtain ⟨la, wa, co, kvs, ws, wb, eG⟩ := A2.wd
    refine ⟨.ref w, rfl, w, .int (n : Nat), rfl, kget wb.hw rfl, .ref w, rfl, w, .ref wa, rfl, kget wb.hw rfl, wa, _, rfl, .inl (SqL.of wb.hwa), .ref w, rfl, w, .ref co, rfl, kget wb.hw rfl, co, _, rfl, .inl ⟨SqL.of wb.hco, fun p3 np3 => ?_⟩⟩
    generalize hG : upd _ p3 _ = H3
    obtain ⟨s3, e3⟩ := gen_up hG np3
    clear hG
    have hw3 := s3 _ _ wb.hw
    refine ⟨.ref w, rfl, w, .bl m.on, rfl, kget hw3 rfl, .ref w, rfl, w, .int (m.fa : Nat), rfl, kget hw3 rfl, (by show 5 ≤ sizeLine; exact small6 (by decide)), fun p4 np4 => ?_⟩
    generalize hG : upd _ p4 _ = H4
    obtain ⟨s4, e4⟩ := gen_up hG np4
    clear hG
    have s24 := s3.trans s4
    have A4 := A2.same s24
    have hw4 := s4 _ _ hw3
    have lw : (ws.length : Nat) = m.wt.length := wb.it.length
    have ln : (m.wr.length : Nat) = n := by rw [b.fit.len]; exact wb.nn
    have tt : ∀ {H : Hp} {p : Addr}, H p = some (.tup [.int (m.ws : Nat), .int (m.ss : Nat)]) → Dl H (.ref p) (.tuple [.int (m.ws : Nat), .int (m.ss : Nat)]) := fun e => .tup e (.cons (.int _) (.cons (.int _) .nil))
    rw [ln] at e2
    rw [lw] at e4
    refine ⟨fun σ H' => σ = [some (.ref st), some (.ref w), some (.ref s), some (.ref p2), some (.ref p4), none, none, none, none] ∧ H' = H4, ?_, ?_⟩
    · refine ⟨.ref p2, rfl, .ref p4, rfl, _, _, .list [.int (n : Nat), .int (m.wt.length : Nat), .tuple [.int (m.ws : Nat), .int (m.ss : Nat)], .bool m.on, .int (m.fa : Nat)], rfl,
        .lst (s24 _ _ e2) (.cons (.int _) (.cons (.int _) (.cons (tt (s24 _ _ e12)) (.cons (.bl _) (.cons (.int _) .nil))))),
        .lst e4 (.cons (.int _) (.cons (.int _) (.cons (tt (s4 _ _ e3)) (.cons (.bl _) (.cons (.int _) .nil))))), ?_, ?_, true, rfl, iteF' rfl ?_⟩
      · rw [okD]
        refine ⟨by show 5 ≤ 1000000; decide, okDs_of fun x mx => ?_⟩
        simp only [List.mem_cons, List.not_mem_nil, or_false] at mx
        rcases mx with rfl | rfl | rfl | rfl | rfl
        · rw [okD]; trivial
        · rw [okD]; trivial
        · rw [okD]
          refine ⟨by show 2 ≤ 1000000; decide, okDs_of fun x mx => ?_⟩
          simp only [List.mem_cons, List.not_mem_nil, or_false] at mx
          rcases mx with rfl | rfl <;> (rw [okD]; trivial)
        · rw [okD]; trivial
        · rw [okD]; trivial
      · show max 0 (max 0 (max (max 0 (max 0 0) + 1) (max 0 (max 0 0)))) + 1 ≤ 4
        decide
      refine ⟨.ref w, rfl, w, .bl m.on, rfl, kget hw4 rfl, m.on, rfl, ?_⟩
      cases m.on with
      | true => exact iteF' rfl (iteF' rfl ⟨rfl, rfl⟩)
      | false => exact iteT' rfl ⟨.ref s, rfl, s, C, dx, _, .bl false, rfl, s24 _ _ b2h, T.cl, T.nIU, rfl, false, false, rfl, rfl, _, rfl, iteF' (by decide) ⟨rfl, rfl⟩⟩
    · rintro σ H5 ⟨rfl, rfl⟩
      -- the places
      obtain ⟨la, wa, co, kvs, ws, wb, eG⟩ := A4.wd
      have lw : ws.length = m.wt.length := wb.it.length
      have lnn : m.sy.length = n := wb.nn
      have few := wb.few
      have big := wb.big
      refine ⟨.ref w, rfl, w, .ref wa, rfl, kget wb.hw rfl, wa, rfl, ⟨_, SqL.of wb.hwa⟩, fun D nD => ?_⟩
      refine lc_list (K := K) (a := wa) (xs := ws) (fun i H' => Same H5 H' ∧ ∃ ks : List Nat, H' D = some (.lst (ks.map fun k : Nat => V.int (k : Int))) ∧ ks.length = i ∧ ∀ k ∈ ks, k < n) ⟨same_new nD, [], upd_same, rfl, (fun _ z => nomatch z)⟩ (fun i H' _ hP => SqL.of (hP.1 _ _ wb.hwa)) (fun i x Hi hx hP => ?_) (fun H6 hP => ?_)
      · obtain ⟨sm, ks, eD, lk, hk⟩ := hP
        obtain ⟨t, r, j, d, rfl, ew, et, er⟩ := wb.it.get hx
        refine ⟨t, _, rfl, SqT.of (sm _ _ et), rfl, _, _, rfl, _, _, rfl, rfl, rfl, ?_⟩
        refine iteT (B := True) ?_
        have li := (List.getElem?_eq_some_iff.mp ew).1
        refine ⟨.int (j : Int), rfl, _, eD, small7 (by rw [List.length_map]; omega), same_put sm nD, ks ++ [j], by rw [upd_same, List.map_append]; rfl, by rw [List.length_append, lk]; rfl, fun k mk => ?_⟩
        rcases List.mem_append.mp mk with mk | mk
        · exact hk k mk
        · rw [List.mem_singleton.mp mk, ← lnn]
          exact (wb.t64 _ (List.mem_of_getElem? ew)).1
      · obtain ⟨sm, ks, eD, lk, hk⟩ := hP
        have A6 := A4.same sm
        have hw6 := sm _ _ wb.hw
        refine ⟨.ref st, rfl, .ref w, rfl, w, .int (n : Nat), rfl, kget hw6 rfl, st, L, _, rfl, A6.good, by have := g2.lo; omega, Int.lt_of_le_of_lt (b := 400) (by have := g2.hi; omega) (by decide), fun v H7 d7 v0 v1 => ⟨(by show 3 ≤ sizeLine; exact small6 (by decide)), fun p8 np8 => ?_⟩⟩
        generalize hG : upd _ p8 _ = H8
        obtain ⟨s8, e8⟩ := gen_up hG np8
        clear hG
        obtain ⟨kv, rfl⟩ : ∃ k : Nat, v = k := ⟨v.toNat, by omega⟩
        have A7 := A6.dr d7
        have A8 := A7.same s8
        have eD8 := s8 _ _ (d7.at_ (A4.good.ne_new nD) eD)
        refine cat_q eD8 e8 (by rw [List.length_map]; show _ + 3 ≤ _; omega) fun p9 H9 s9 n9 e9 => ?_
        have A9 := A8.same s9
        have n9st := A8.good.ne_new n9
        have d09 : Dr st L H H9 := ((Dr.same A0.good ((s1.trans s2).trans s24)).trans (Dr.same A4.good sm)).trans (d7.trans ((Dr.same A7.good s8).trans (Dr.same A8.good s9)))
        have e9 : H9 p9 = some (.lst ((ks ++ [kv, 0, 1]).map fun k : Nat => V.int (k : Int))) := by rw [e9, List.map_append]; rfl
        have hk9 : ∀ k ∈ ks ++ [kv, 0, 1], k < n := fun k mk => by
          have := g2.lo
          rcases List.mem_append.mp mk with mk | mk
          · exact hk k mk
          · simp only [List.mem_cons, List.not_mem_nil, or_false] at mk
            omega
        generalize ks ++ [kv, 0, 1] = js at e9 hk9
        refine ⟨p9, rfl, ⟨_, SqL.of e9⟩, ?_⟩
        refine for_list (K := K) (a := p9) (xs := js.map fun k : Nat => V.int (k : Int)) (fun i σ H' => (∃ x5 x6, σ = [some (.ref st), some (.ref w), some (.ref s), some (.ref p2), some (.ref p4), x5, x6, none, none]) ∧ Dr st L H9 H') ⟨⟨none, none, rfl⟩, Dr.refl A9.good⟩ (fun i σ H' _ hP => SqL.of (hP.2.at_ (fun z => by rw [z] at n9; exact A8.good.not_none n9) e9)) (fun i x σ Hi hx hP => ?_) (fun σ H' hP => ?_)
        · obtain ⟨⟨x5, x6, rfl⟩, dd⟩ := hP
          rw [List.getElem?_map] at hx
          obtain ⟨k, ek, rfl⟩ := Option.map_eq_some_iff.mp hx
          have kn := hk9 k (List.mem_of_getElem? ek)
          have Ai := A9.dr dd
          have Di := Ai.dk
          obtain ⟨dx, Sy, Wr, Wa, xs, ys, zs, b, eF⟩ := id Di
          obtain ⟨d, ed⟩ : ∃ d, m.wr[k]? = some d := ⟨_, List.getElem?_eq_getElem (by rw [b.fit.len, lnn]; exact kn)⟩
          have l64 := b.fit.w64 d (List.mem_of_getElem? ed)
          refine ⟨.ref s, rfl, s, dx, _, rfl, b.hs, rfl, .int (k : Int), rfl, s, m, F, k, d, rfl, Di, ed, fun p Ha sa na ea => ?_⟩
          have Aa := Ai.same sa
          refine ⟨.ref p, rfl, .ref w, rfl, .int (k : Int), rfl, w, n, m, N, G, k, d, rfl, Aa.wd, by rw [← g2.link]; exact ed, fun v Hb sb il => ?_⟩
          refine ⟨_, v, .list (intsD d), rfl, .lst (sb _ _ ea) (dls_ints d), il.dl, okD_ints (by omega), Nat.le_trans (depth_ints d) (by decide), true, rfl, iteF' rfl ?_⟩
          refine ⟨.ref p, rfl, p, _, 5, 5, rfl, rfl, sb _ _ ea, ixN_n (j := 5) (by rw [List.length_map, l64]; decide), ⟨_, _, rfl⟩, ?_⟩
          have dab := dd.trans (Dr.same Ai.good (sa.trans sb))
          have np9 : H9 p = none := KA.Dr.free dd na
          exact dab.put A9.good np9
        · obtain ⟨⟨x5, x6, rfl⟩, dd⟩ := hP
          exact q H' (d09.trans dd) (A9.dr dd)
end
end MK

namespace MK
open PySem PySem.Spec PyProof.Rows L2 KA
def rIsN0 : R2 := fun x y H Q => y = .non ∧ Q (.bl (decide (x = .non))) H
theorem op_isN0 {X : Cx} : OpR X (compareOp .Is) rIsN0 := op_isN
theorem lit_int {zs : List Int} {v : Int} (h0 : 0 ≤ v) (h1 : v < zs.length) : ∃ z, z ∈ zs ∧ atI (zs.map V.int) v = some (.int z) := by
  obtain ⟨m, em⟩ : ∃ m : Nat, v = m := ⟨v.toNat, by omega⟩
  have hm : m < zs.length := by omega
  refine ⟨zs[m], List.getElem_mem hm, ?_⟩
  rw [em]
  refine atI_nat ?_
  rw [List.getElem?_map, List.getElem?_eq_getElem hm]
  rfl
theorem WdB.wrote {H H' : Hp} {w la wa co t p : Addr} {kvs : List (Key × V)} {zs : List V} {n : Nat} {m : DM} {N i : Nat} {d : List Int} (b : WdB H w la wa co kvs zs n (opM m) N) (k : ∀ c o, c ≠ wa → c ≠ co → H c = some o → H' c = some o)
    (ea : H' wa = some (.lst (zs ++ [.ref t]))) (ec : H' co = some (.lst [.int ((m.ws + 1 : Nat) : Int), .int (m.ss : Nat)])) (et : H' t = some (.tup [.int (i : Int), .ref p])) (ep : H' p = some (.lst (d.map V.int))) (l64 : d.length = 64) (hi : i < n) (hN : N + 1 ≤ 900) :
    WdB H' w la wa co kvs (zs ++ [.ref t]) n (wrM m i d) (N + 1) := by
  obtain ⟨d1, d2, d3, d4, d5⟩ := due_sy m
  have mu := b.mu
  have ka : ∀ c o, H c = some o → ((∃ xs, o = .tup xs) ∨ ∃ ns : List Int, ns.length = 64 ∧ o = .lst (ns.map V.int)) → H' c = some o := fun c o h z => by
    refine k c o (fun e => ?_) (fun e => ?_) h
    · subst e
      rcases z with ⟨xs, rfl⟩ | ⟨ns, l, rfl⟩
      · exact (mu c (.inr (.inr (.inl rfl)))).1 xs h
      · exact (mu c (.inr (.inr (.inl rfl)))).2 ns l h
    · subst e
      rcases z with ⟨xs, rfl⟩ | ⟨ns, l, rfl⟩
      · exact (mu c (.inr (.inr (.inr rfl)))).1 xs h
      · exact (mu c (.inr (.inr (.inr rfl)))).2 ns l h
  have nw1 : w ≠ wa := fun z => by have := b.hwa; rw [← z, b.hw] at this; cases this
  have nw2 : w ≠ co := fun z => by have := b.hco; rw [← z, b.hw] at this; cases this
  have nl1 : la ≠ wa := fun z => by have := b.hwa; rw [← z, b.hla] at this; cases this
  have nl2 : la ≠ co := fun z => by have := b.hco; rw [← z, b.hla] at this; cases this
  have kt : ∀ {vs : List V} {ps : List (Nat × List Int)}, Wts H vs ps → (∀ p ∈ ps, p.2.length = 64) → Wts H' vs ps := fun h => by
    induction h with
    | nil => exact fun _ => .nil
    | @cons t p i d _ _ a b _ ih => exact fun l => Wts.cons (t := t) (p := p) (ka _ _ a (.inl ⟨_, rfl⟩)) (ka _ _ b (.inr ⟨_, l _ List.mem_cons_self, rfl⟩)) (ih fun d md => l d (List.mem_cons_of_mem _ md))
  have e3 : (opM m).wt = m.wt := d3
  have it : Wts H' (zs ++ [.ref t]) (m.wt ++ [(i, d)]) := by
    have h := kt b.it (fun p z => (b.t64 p z).2)
    rw [e3] at h
    exact h.app (.cons et ep .nil)
  have nn : (dueM m).sy.length = n := b.nn
  refine ⟨k _ _ nw1 nw2 b.hw, k _ _ nl1 nl2 b.hla, ea, by rw [show (wrM m i d).ss = m.ss from d5]; exact ec, it, ?_, b.n1, b.n2, b.nn, ?_, hN, b.s64, fun x mx => ?_⟩
  · refine b.las.to (fun e me v il => ?_)
    obtain ⟨q, rfl, eq⟩ := il
    exact ⟨q, rfl, ka _ _ eq (.inr ⟨e, b.s64 e me, rfl⟩)⟩
  · have := b.few
    rw [e3] at this
    show kvs.length + (m.wt ++ [(i, d)]).length ≤ N + 1
    rw [List.length_append]
    show kvs.length + (m.wt.length + 1) ≤ N + 1
    omega
  · show x.1 < (dueM m).sy.length ∧ _
    rcases List.mem_append.mp mx with mx | mx
    · exact b.t64 x (by rw [e3]; exact mx)
    · rw [List.mem_singleton.mp mx, nn]
      exact ⟨hi, l64⟩
section
variable {P : Program} {w0 : World} {K : PySem.W.Frag} {mg : Str → Option Value} {base : Heap} {C XP XR XI : Addr}
/-- a deed of the law: behind it all stands as before, for another disk -/
def Done (C : Addr) (st L s w : Addr) (n N : Nat) (G : Addr → Prop) (Q : VK) : Prop := ∀ H' m' F' G', All C H' st L s w n m' m' N F' G' → Good2 m' n → Q (.bl true) H'
theorem Good2.due {m : DM} {n : Nat} (g : Good2 m n) : Good2 (dueM m) n := by
  unfold dueM
  split
  · exact ⟨g.link, fun _ => rfl, g.lo, g.hi⟩
  · exact g
theorem dueOn {m : DM} (h : (dueM m).on = true) : dueM m = m := by
  unfold dueM at h ⊢
  split
  · rename_i c
    rw [if_pos c] at h
    cases h
  · rfl
abbrev sLWr : Stmt := topS 14
abbrev nLWr : List Str := ["state", "world", "disk", "index", "start", "data", "due", "passed", "done", "k"]
theorem scLWr : FnScope nLWr ["state", "world", "disk"] (defScope sLWr) := ⟨rfl, rfl, rfl, by decide +kernel, rfl, by decide +kernel, by decide +kernel⟩
def spLWr (C : Addr) : Sp := fun vs H Q _ => ∃ (st L s w : Addr) (n : Nat) (m : DM) (N : Nat) (F G : Addr → Prop), vs = [.ref st, .ref w, .ref s] ∧ All C H st L s w n m m N F G ∧ Good2 m n ∧ N + 1 ≤ 900 ∧ Done C st L s w n (N + 1) G Q
theorem WdAt.more {H : Hp} {w : Addr} {n : Nat} {m : DM} {N N' : Nat} {G : Addr → Prop} (b : WdAt H w n m N G) (h : N ≤ N') (h2 : N' ≤ 900) : WdAt H w n m N' G := by
  obtain ⟨la, wa, co, kvs, zs, b, e⟩ := b
  exact ⟨la, wa, co, kvs, zs, ⟨b.hw, b.hla, b.hwa, b.hco, b.it, b.las, b.n1, b.n2, b.nn, Nat.le_trans b.few h, h2, b.s64, b.t64⟩, e⟩
theorem All.more {H : Hp} {st L s w : Addr} {n : Nat} {md mw : DM} {N N' : Nat} {F G : Addr → Prop} (A : All C H st L s w n md mw N F G) (h : N ≤ N') (h2 : N' ≤ 900) : All C H st L s w n md mw N' F G :=
  ⟨A.good, A.dk, A.wd.more h h2, A.fg, A.fst, A.fL, A.gst, A.gL⟩
theorem ok_lwr {f0 : Addr} {fd : FuncData} (F0 : Fun K "_law_write" "_law_write" sLWr f0 fd) (B : Bt mg) (T : Cd K mg C XP XR XI) (M : Ms P w0 K mg base C XP) (DNext : dNext P w0 K mg base) (DLOp : dLOp P w0 K mg base) : FnOk P w0 K mg base CX0 4 f0 fd ["state", "world", "disk"] (spLWr C) := by
  refine F0.ok scLWr (fun vs H Q E h => ?_) (fun cdv A outer s0 H vs Q E hr h => ?_)
  · obtain ⟨_, _, _, _, _, _, _, _, _, rfl, _⟩ := h
    rfl
  · obtain ⟨st, L, s, w, n, m, N, F, G, rfl, A0, g2, hN, q⟩ := h
    have hu := hu_of hr
    refine ⟨_, (pss_cons (ps_set (i := 3) scLWr.nd rfl (.inl rfl) (pe_ix ix_list (pe_lst (pa_cons pe_int (pa_cons pe_int (pa_cons (pe_op op_sub (pe_dget hu (pv 1) pe_str (fun _ _ => rfl)) pe_int) (pa_cons (pe_def DNext (hr.mono (by decide)) (by rfl) (pa_cons (pv 0) (pa_cons (pe_dget hu (pv 1) pe_str (fun _ _ => rfl)) pa_nil))) pa_nil))))) (pe_def DNext (hr.mono (by decide)) (by rfl) (pa_cons (pv 0) (pa_cons pe_int pa_nil))) (fun _ _ => rfl)))
      (pss_cons (ps_set (i := 4) scLWr.nd rfl (.inr rfl) (pe_def DNext (hr.mono (by decide)) (by rfl) (pa_cons (pv 0) (pa_cons pe_int pa_nil))))
      (pss_cons (ps_setLc (i := 5) (own := [("k", 9)]) (g := (gName 9)) (tt := tYes) (te := (tOp _ (tOp _ (tVar 4) (tOp _ (tC (.int 7)) (tVar 9))) (tC (.int 256)))) (by rfl) scLWr.nd rfl rfl (sw_true rfl rfl rfl (by decide +kernel)) (pi_range1 (by rfl) B.rng (pa_cons pe_int pa_nil)) (blkOk_by (own := [("k", 9)]) (N := nLWr) (sc := defScope sLWr) (by decide +kernel)) (fun _ _ _ _ _ => (pg_name (i := 9) scLWr.nd rfl (Or.inl rfl))) (fun _ _ _ _ _ => pts_nil) (fun _ _ _ _ _ => (pe_op op_mod (pe_op op_add (pv 4) (pe_op op_mul pe_int (pv 9))) pe_int)))
      (pss_cons (ps_set (i := 6) scLWr.nd rfl (.inl rfl) (pe_def DLOp (hr.mono (by decide)) (by rfl) (pa_cons (pv 1) pa_nil)))
      (pss_cons (ps_set (i := 7) scLWr.nd rfl (.inl rfl) (pe_callTy call_list_of (by rfl) B.lst (by decide +kernel) (pa_cons (pv 5) pa_nil)))
      (pss_cons (ps_try_only (tb := fun W => tAsg (tOp rIsN0 (tMethS C "write" (spMWr C XP) (WE W) (tVar 2) (tCons (tVar 3) (tCons (tVar 7) tNil))) (tC .non)) (gName 8)) (Wout := fun _ _ _ _ => False) rfl rfl ⟨rfl, by decide, Or.inl T.gP⟩ takes0 (fun W pn xe tk _ => pss_one (ps_set (i := 8) scLWr.nd rfl (.inl rfl) (pe_cmpR op_isN0 (by exact (pe_mdefXS M.wr (pv 2) T.cl (hr.mono (by decide)) (fun σ => passAt tk σ) (pa_cons (pv 3) (pa_cons (pv 7) pa_nil)))) pe_non (nomark _)))) (fun a oe cls d pn _ _ => pss_one (ps_ret (pe_not (pv 6)))))
      (pss_cons (ps_asg (pe_op op_mod (pe_op op_add (pe_ix ix_list (pv 7) pe_int (fun _ _ => rfl)) pe_int) pe_int) (pg_sub (pv 7) pe_int set_list))
      (pss_cons (ps_expr (pe_bm PySem.F.plainAttrs_list PySem.F.slot_list_append PySem.F.type_list_append mt_append (pe_dget hu (pv 1) pe_str (fun _ _ => rfl)) (pa_cons (pe_tup (pa_cons (pv 3) (pa_cons (pv 5) pa_nil))) pa_nil)))
      (pss_cons (ps_augS (pe_dget hu (pv 1) pe_str (fun _ _ => rfl)) pe_int get_list pe_int ip_add set_list)
      (pss_one (ps_ret (pe_and (pv 8) (pe_one (pv 6)))))))))))))), ?_⟩
    have n0 := g2.lo
    have n4 := g2.hi
    have n200 : ((n : Nat) : Int) < 2 ^ 200 := Int.lt_of_le_of_lt (b := 400) (by omega) (by decide)
    have gw : ∀ {H N m' F' G'}, All C H st L s w n m' m N F' G' → DGet H w (.str "size") (some (.int (n : Nat))) := fun A => by
      obtain ⟨la, wa, co, kvs, zs, b, _⟩ := A.wd
      exact kget b.hw rfl
    -- index
    refine ⟨.ref w, rfl, w, .int (n : Nat), rfl, gw A0, _, 1, rfl, rfl, .ref st, rfl, .ref w, rfl, w, .int (n : Nat), rfl, gw A0, st, L, _, rfl, A0.good, by omega, n200, fun v1 H1 d1 v10 v11 => ⟨(by show 4 ≤ sizeLine; exact small6 (by decide)), fun p2 np2 => ?_⟩⟩
    generalize hG : upd _ p2 _ = H2
    obtain ⟨s2, e2⟩ := gen_up hG np2
    clear hG
    have A1 := A0.dr d1
    have A2 := A1.same s2
    refine ⟨.ref st, rfl, st, L, 4, rfl, A2.good, by decide, by decide, fun k H3 d3 k0 k1 => ?_⟩
    have e3 := d3.at_ (A1.good.ne_new np2) e2
    have A3 := A2.dr d3
    obtain ⟨ix, mix, eix⟩ := lit_int (zs := [0, 1, (n : Int) - 1, v1]) k0 k1
    refine ⟨p2, _, k, .int ix, rfl, rfl, SqL.of e3, eix, ?_⟩
    have hix : 0 ≤ ix ∧ ix < n := by
      simp only [List.mem_cons, List.not_mem_nil, or_false] at mix
      rcases mix with rfl | rfl | rfl | rfl <;> omega
    obtain ⟨i, rfl⟩ : ∃ i : Nat, ix = i := ⟨ix.toNat, by omega⟩
    have hi : i < n := by omega
    -- the data
    refine ⟨.ref st, rfl, st, L, 256, rfl, A3.good, by decide, by decide, fun sv H4 d4 sv0 sv1 => ?_⟩
    have A4 := A3.dr d4
    refine ⟨64, rfl, by decide, by decide, fun D nD => ?_⟩
    refine lc_range (lo := 0) (n := (64 : Int).toNat) (fun i H' => Same H4 H' ∧ ∃ d : List Int, H' D = some (.lst (d.map V.int)) ∧ d.length = i) ⟨same_new nD, [], upd_same, rfl⟩ (fun i H' hi hP => ?_) (fun H5 hP => ?_)
    · obtain ⟨sm, d, eD, ld⟩ := hP
      refine ⟨rfl, ?_⟩
      refine iteT (B := True) ?_
      have hi2 : i < 64 := hi
      refine ⟨.int sv, rfl, .int _, rfl, 7, _, rfl, rfl, .inl ⟨by decide, by decide⟩, sv, _, rfl, rfl, _, 256, rfl, rfl, (by show (0 : Int) < 256; decide), ?_⟩
      exact ⟨_, eD, small7 (by rw [List.length_map]; omega), same_put sm nD, d ++ [_], by rw [upd_same, List.map_append]; rfl, by rw [List.length_append, ld]; rfl⟩
    · obtain ⟨sm5, d, eD, ld⟩ := hP
      have ld : d.length = 64 := ld
      have A5 := A4.same sm5
      -- due
      refine ⟨.ref w, rfl, w, n, m, N, G, rfl, A5.wd, g2.off, fun H6 o6 W6 => ?_⟩
      have A6 := A5.world o6 (fun b h => .inl h) W6
      have gD : ¬ G D := fun z => (A5.wd.mu D z).2 d ld eD
      have eD6 := o6 _ _ gD eD
      have wl : m.wt.length ≤ N := by
        obtain ⟨_, _, _, kvs, _, b, _⟩ := A5.wd
        have := b.few
        omega
      have nn : m.sy.length = n := by
        obtain ⟨_, _, _, kvs, _, b, _⟩ := A5.wd
        exact b.nn
      -- passed
      refine ⟨.ref D, rfl, D, _, rfl, .inl (SqL.of eD6), fun pp npp => ?_⟩
      generalize hG : upd _ pp _ = H7
      obtain ⟨s7, e7⟩ := gen_up hG npp
      clear hG
      have A7 := A6.same s7
      have eD7 := s7 _ _ eD6
      obtain ⟨dx, Sy, Wr, Wa, xs, ys, zs, b7, eF7⟩ := id A7.dk
      refine ⟨.ref s, rfl, s, dx, _, rfl, b7.hs, rfl, .int (i : Int), rfl, .ref pp, rfl, ?_⟩
      have s67r : Same H6 (rm pp H7) := fun c o h => by
        rw [rm_ne (fun z => by rw [z, npp] at h; cases h)]
        exact s7 c o h
      refine ⟨s, pp, m, F, i, d, rfl, A6.dk.same s67r, e7, ld, by omega, by omega, fun on H8 o8 D8 => ?_, fun off H8 o8 D8 => ?_⟩
      · -- it was written
        have em := dueOn on
        obtain ⟨d1', d2', d3', d4', d5'⟩ := due_sy m
        rw [if_pos on] at A6
        refine ⟨rfl, ?_⟩
        have npF : ¬ F pp := fun z => (A7.dk.mu pp z).2 d ld e7
        have nDF : ¬ F D := fun z => (A7.dk.mu D z).2 d ld eD7
        have e8 := o8 _ _ npF e7
        have eD8 := o8 _ _ nDF eD7
        have npD : D ≠ pp := fun z => by rw [← z, eD6] at npp; cases npp
        obtain ⟨x0, hx0⟩ : ∃ x0, d[0]? = some x0 := ⟨_, List.getElem?_eq_getElem (by omega)⟩
        have at0' : atI (d.map V.int) 0 = some (.int x0) := atI_nat (j := 0) (by rw [List.getElem?_map, hx0]; rfl)
        refine ⟨.ref pp, rfl, pp, _, 0, .int x0, rfl, rfl, SqL.of e8, at0', x0, 1, rfl, rfl, _, 256, rfl, rfl, (by show (0 : Int) < 256; decide), ?_⟩
        refine ⟨.ref pp, rfl, pp, _, 0, 0, rfl, rfl, e8, ixN_n (j := 0) (by rw [List.length_map]; omega), ?_⟩
        -- passed is changed: nobody sees it
        generalize hG : upd H8 pp _ = H9
        have k9 : ∀ c o, c ≠ pp → H8 c = some o → H9 c = some o := fun c o hc h => by rw [← hG, upd_ne hc]; exact h
        clear hG
        have s89 : Same (rm pp H8) H9 := fun c o h => by
          obtain ⟨h1, h2⟩ := rm_some h
          exact k9 c o h1 h2
        have o69 : Out F H6 H9 := fun c o hc h => k9 c o (fun z => by rw [z, npp] at h; cases h) (o8 c o hc (s7 c o h))
        have A9 : All C H9 st L s w n (wrM m i d) (opM m) N F G := A6.disk o69 (fun b h => .inl h) (D8.same s89)
        have eD9 := k9 _ _ npD eD8
        obtain ⟨la, wa, co, kvs, zs', b9, eG⟩ := A9.wd
        have lz : zs'.length = m.wt.length := by rw [b9.it.length]; show (dueM m).wt.length = _; rw [d3']
        refine ⟨.ref w, rfl, w, .ref wa, rfl, kget b9.hw rfl, .inl ⟨rfl, _, SqL.of b9.hwa⟩, .int (i : Int), rfl, .ref D, rfl, (by show 2 ≤ sizeLine; exact small6 (by decide)), fun t nt => ?_⟩
        generalize hG : upd _ t _ = H10
        obtain ⟨s10, e10⟩ := gen_up hG nt
        clear hG
        refine ⟨wa, zs', .ref t, rfl, rfl, s10 _ _ b9.hwa, small7 (by omega), ?_⟩
        generalize hG : upd H10 wa _ = H11
        have e11 : H11 wa = some (.lst (zs' ++ [.ref t])) := by rw [← hG]; exact upd_same
        have k11 : ∀ c o, c ≠ wa → H10 c = some o → H11 c = some o := fun c o hc h => by rw [← hG, upd_ne hc]; exact h
        clear hG
        have nwwa : w ≠ wa := fun z => by have := b9.hwa; rw [← z, b9.hw] at this; cases this
        have ntwa : t ≠ wa := fun z => by rw [z, b9.hwa] at nt; cases nt
        have hco11 := k11 _ _ b9.n2.symm (s10 _ _ b9.hco)
        have hw11 := k11 _ _ nwwa (s10 _ _ b9.hw)
        refine ⟨.ref w, rfl, w, .ref co, rfl, kget hw11 rfl, co, _, 0, .int ((dueM m).ws : Nat), rfl, rfl, hco11, rfl, _, _, rfl, rfl, co, _, 0, 0, rfl, rfl, hco11, rfl, ?_⟩
        generalize hG : upd H11 co _ = H12
        have e12 : H12 co = some (.lst [.int (((dueM m).ws : Int) + 1), .int ((dueM m).ss : Nat)]) := by rw [← hG]; exact upd_same
        have k12 : ∀ c o, c ≠ co → H11 c = some o → H12 c = some o := fun c o hc h => by rw [← hG, upd_ne hc]; exact h
        clear hG
        have ntco : t ≠ co := fun z => by rw [z, b9.hco] at nt; cases nt
        have hnw := A9.wd.mu
        have gDwa : D ≠ wa := fun z => (b9.mu wa (.inr (.inr (.inl rfl)))).2 d ld (by rw [← z]; exact eD9)
        have gDco : D ≠ co := fun z => (b9.mu co (.inr (.inr (.inr rfl)))).2 d ld (by rw [← z]; exact eD9)
        have k912 : ∀ c o, c ≠ wa → c ≠ co → H9 c = some o → H12 c = some o := fun c o h1 h2 h => k12 c o h2 (k11 c o h1 (s10 _ _ h))
        rw [d4', d5'] at e12
        have b12 : WdB H12 w la wa co kvs (zs' ++ [.ref t]) n (wrM m i d) (N + 1) := b9.wrote k912 (k12 _ _ b9.n2 e11) (by rw [e12]; rfl) (k12 _ _ ntco (k11 _ _ ntwa e10)) (k912 _ _ gDwa gDco eD9) ld hi hN
        have o912 : Out G H9 H12 := fun c o hc h => k912 c o (fun z => hc (by rw [eG, z]; exact .inr (.inr (.inl rfl)))) (fun z => hc (by rw [eG, z]; exact .inr (.inr (.inr rfl)))) h
        have A12 := A9.world o912 (fun b h => .inl h) ⟨la, wa, co, kvs, zs' ++ [.ref t], b12, eG⟩
        refine ⟨_, rfl, _, rfl, iteT' (by decide) ⟨.bl (dueM m).on, rfl, ?_⟩⟩
        rw [on]
        refine q H12 (wrM m i d) F G A12 ⟨?_, fun z => ?_, n0, n4⟩
        · show m.wr.set i d = arr (dueM m).sy (m.wt ++ [(i, d)])
          rw [d1', arr_snoc, ← g2.link]
        · have z : (dueM m).on = false := z
          rw [on] at z
          cases z
      · -- power failed
        rw [if_neg (by rw [off]; exact Bool.false_ne_true)] at A7
        have A8 := A7.disk o8 (fun b h => .inl h) D8
        refine ⟨true, T.eP, fun _ a na => ?_, fun z => nomatch z⟩
        refine ⟨.bl (dueM m).on, rfl, (dueM m).on, rfl, ?_⟩
        rw [off]
        exact q H8 (dueM m) F G (A8.more (Nat.le_succ _) hN) g2.due
abbrev dLWr (P : Program) (w0 : World) (K : PySem.W.Frag) (mg : Str → Option Value) (base : Heap) (C : Addr) : Prop := Def P w0 K mg base "_law_write" 4 ["state", "world", "disk"] (spLWr C)
end
end MK

namespace MK
open PySem PySem.Spec PyProof.Rows L2 KA
section
variable {P : Program} {w0 : World} {K : PySem.W.Frag} {mg : Str → Option Value} {base : Heap} {C XP XR XI : Addr}
theorem Las.put {H : Hp} {kvs : List (Key × V)} {sy : List (List Int)} {j : Nat} {d : List Int} {v : V} (h : Las H kvs sy) (il : IL H v d) : Las H (putK kvs (Sum.inl (j : Int) : Key) v) (sy.set j d) := fun i e he => by
  rw [valV_put]
  by_cases c : i = j
  · subst c
    rw [if_pos rfl]
    have hl := (List.getElem?_eq_some_iff.mp he).1
    rw [List.length_set] at hl
    rw [List.getElem?_set_self hl] at he
    cases he
    exact .inl ⟨v, rfl, il⟩
  · rw [if_neg (fun z => c (by injection z with z; omega))]
    rw [List.getElem?_set_ne (fun z => c z.symm)] at he
    exact h i e he
/-- all but the dict at la stays -/
theorem Las.kp {H H' : Hp} {la : Addr} {kvs : List (Key × V)} {sy : List (List Int)} (h : Las H kvs sy) (k : ∀ c o, c ≠ la → H c = some o → H' c = some o) (hd : ∃ x, H la = some (.dK x)) : Las H' kvs sy := h.to fun d _ v il => by
  obtain ⟨p, rfl, e⟩ := il
  obtain ⟨x, hx⟩ := hd
  exact ⟨p, rfl, k _ _ (fun z => by rw [z, hx] at e; cases e) e⟩
abbrev sLSy : Stmt := topS 15
abbrev nLSy : List Str := ["world", "disk", "due", "done", "index", "data"]
theorem scLSy : FnScope nLSy ["world", "disk"] (defScope sLSy) := ⟨rfl, rfl, rfl, by decide +kernel, rfl, by decide +kernel, by decide +kernel⟩
def spLSy (C : Addr) : Sp := fun vs H Q _ => ∃ (st L s w : Addr) (n : Nat) (m : DM) (N : Nat) (F G : Addr → Prop), vs = [.ref w, .ref s] ∧ All C H st L s w n m m N F G ∧ Good2 m n ∧ Done C st L s w n N G Q
theorem ok_lsy {f0 : Addr} {fd : FuncData} (F0 : Fun K "_law_sync" "_law_sync" sLSy f0 fd) (B : Bt mg) (T : Cd K mg C XP XR XI) (M : Ms P w0 K mg base C XP) (DLOp : dLOp P w0 K mg base) : FnOk P w0 K mg base CX0 4 f0 fd ["world", "disk"] (spLSy C) := by
  refine F0.ok scLSy (fun vs H Q E h => ?_) (fun cdv A outer s0 H vs Q E hr h => ?_)
  · obtain ⟨_, _, _, _, _, _, _, _, _, rfl, _⟩ := h
    rfl
  · obtain ⟨st, L, s, w, n, m, N, F, G, rfl, A0, g2, q⟩ := h
    have hu := hu_of hr
    refine ⟨_, (pss_cons (ps_set (i := 2) scLSy.nd rfl (.inl rfl) (pe_def DLOp (hr.mono (by decide)) (by rfl) (pa_cons (pv 0) pa_nil)))
      (pss_cons (ps_try_only (tb := fun W => tAsg (tOp rIsN0 (tMethS C "sync" (spMSy C XP) (WE W) (tVar 1) tNil) (tC .non)) (gName 3)) (Wout := fun _ _ _ _ => False) rfl rfl ⟨rfl, by decide, Or.inl T.gP⟩ takes0 (fun W pn xe tk _ => pss_one (ps_set (i := 3) scLSy.nd rfl (.inl rfl) (pe_cmpR op_isN0 (by exact (pe_mdefX0S M.sy (pv 1) T.cl (hr.mono (by decide)) (fun σ => passAt tk σ))) pe_non (nomark _)))) (fun a oe cls d pn _ _ => pss_one (ps_ret (pe_not (pv 2)))))
      (pss_cons (ps_for PassesOwn.never rfl (pi_list (pe_dget hu (pv 0) pe_str (fun _ _ => rfl))) (pg_tup rfl (pgs_cons (pg_name (i := 4) scLSy.nd rfl (Or.inl rfl)) (pgs_cons (pg_name (i := 5) scLSy.nd rfl (Or.inl rfl)) pgs_nil)))
        (pss_one (ps_dput hu (pe_dget hu (pv 0) pe_str (fun _ _ => rfl)) (pv 4) (pv 5) rfl)))
      (pss_cons (ps_dput hu (pv 0) pe_str (pe_lst pa_nil) rfl)
      (pss_cons (ps_augS (pe_dget hu (pv 0) pe_str (fun _ _ => rfl)) pe_int get_list pe_int ip_add set_list)
      (pss_one (ps_ret (pe_and (pv 3) (pe_one (pv 2)))))))))), ?_⟩
    have n0 := g2.lo
    have n4 := g2.hi
    refine ⟨.ref w, rfl, w, n, m, N, G, rfl, A0.wd, g2.off, fun H6 o6 W6 => ?_⟩
    have A6 := A0.world o6 (fun b h => .inl h) W6
    obtain ⟨dx, Sy, Wr, Wa, xs, ys, zs, b6, eF6⟩ := id A6.dk
    refine ⟨.ref s, rfl, s, dx, _, rfl, b6.hs, rfl, ?_⟩
    refine ⟨s, m, F, rfl, A6.dk, fun on H8 F8 o8 hF8 D8 => ?_, fun off H8 o8 D8 => ?_⟩
    · obtain ⟨d1, d2, d3, d4, d5⟩ := due_sy m
      rw [if_pos on] at A6
      have A8 := A6.disk o8 hF8 D8
      refine ⟨rfl, ?_⟩
      obtain ⟨la, wa, co, kvs, zw, b, eG⟩ := A8.wd
      have itm := b.it
      have ewt : (opM m).wt = m.wt := d3
      have esy : (opM m).sy = m.sy := d1
      rw [ewt] at itm
      have lz := itm.length
      have las := b.las
      rw [esy] at las
      have few := b.few
      rw [ewt] at few
      have big := b.big
      have nwla := b.n1
      have nwa : wa ≠ la := fun z => by have := b.hla; rw [← z, b.hwa] at this; cases this
      have nco : co ≠ la := fun z => by have := b.hla; rw [← z, b.hco] at this; cases this
      refine ⟨.ref w, rfl, w, .ref wa, rfl, kget b.hw rfl, wa, rfl, ⟨_, SqL.of b.hwa⟩, ?_⟩
      refine for_list (K := K) (a := wa) (xs := zw) (fun k σ H' => (∃ x4 x5, σ = [some (.ref w), some (.ref s), some (.bl (dueM m).on), some (.bl (decide (V.non = V.non))), x4, x5]) ∧ (∀ c o, c ≠ la → H8 c = some o → H' c = some o) ∧ ∃ kvs', H' la = some (.dK kvs') ∧ Las H' kvs' (arr m.sy (m.wt.take k)) ∧ kvs'.length ≤ kvs.length + k) ⟨⟨none, none, rfl⟩, (fun _ _ _ h => h), kvs, b.hla, las, Nat.le_refl _⟩ (fun k σ H' _ hP => SqL.of (hP.2.1 _ _ nwa b.hwa)) (fun k x σ Hk hx hP => ?_) (fun σ H' hP => ?_)
      · obtain ⟨⟨x4, x5, rfl⟩, kp, kvs', hla', las', lk'⟩ := hP
        obtain ⟨t, r, j, d, rfl, ew, et, er⟩ := itm.get hx
        have nt : t ≠ la := fun z => by rw [z, b.hla] at et; cases et
        have nr : r ≠ la := fun z => by rw [z, b.hla] at er; cases er
        have li : k < m.wt.length := (List.getElem?_eq_some_iff.mp ew).1
        refine ⟨t, _, rfl, SqT.of (kp _ _ nt et), rfl, _, _, rfl, _, _, rfl, rfl, ?_⟩
        refine ⟨.ref r, rfl, .ref w, rfl, w, .ref la, rfl, kget (kp _ _ nwla b.hw) rfl, .int (j : Int), rfl, la, _, rfl, DPut.k (k := (Sum.inl (j : Int) : Key)) hla' (small7 (by omega)), ?_⟩
        refine ⟨⟨_, _, rfl⟩, fun c o hc h => ?_, putK kvs' (Sum.inl (j : Int) : Key) (.ref r), upd_same, ?_, ?_⟩
        · rw [upd_ne hc]
          exact kp c o hc h
        · rw [List.take_add_one, ew]
          show Las _ _ (arr m.sy (m.wt.take k ++ [(j, d)]))
          rw [arr_snoc]
          refine (las'.put ⟨r, rfl, kp _ _ nr er⟩).kp (la := la) (fun c o hc h => ?_) ⟨kvs', hla'⟩
          rw [upd_ne hc]
          exact h
        · have := length_putK kvs' (Sum.inl (j : Int) : Key) (.ref r)
          omega
      · obtain ⟨⟨x4, x5, rfl⟩, kp, kvs', hla', las', lk'⟩ := hP
        rw [lz, List.take_length] at las'
        rw [lz] at lk'
        have hw' := kp _ _ nwla b.hw
        have hco' := kp _ _ nco b.hco
        -- waiting is new
        refine ⟨Nat.zero_le _, fun p np => ?_⟩
        generalize hG : upd _ p _ = H9
        obtain ⟨s9, e9⟩ := gen_up hG np
        clear hG
        refine ⟨.ref w, rfl, w, _, rfl, DPut.k (k := (Sum.inr "waiting" : Key)) (s9 _ _ hw') (small7 (by show 7 ≤ 1000000; decide)), ?_⟩
        have ef : putK (wK n la wa co (opM m)) (Sum.inr "waiting" : Key) (.ref p) = wK n la p co (opM m) := rfl
        rw [ef]
        generalize hG : upd H9 w _ = H10
        have e10 : H10 w = some (.dK (wK n la p co (opM m))) := by rw [← hG]; exact upd_same
        have k10 : ∀ c o, c ≠ w → H9 c = some o → H10 c = some o := fun c o hc h => by rw [← hG, upd_ne hc]; exact h
        clear hG
        have npw : p ≠ w := fun z => by rw [z, hw'] at np; cases np
        have nlaw : la ≠ w := nwla.symm
        have ncow : co ≠ w := fun z => by rw [z, hw'] at hco'; cases hco'
        have npco : p ≠ co := fun z => by rw [z, hco'] at np; cases np
        have npla : p ≠ la := fun z => by rw [z, hla'] at np; cases np
        have hco10 := k10 _ _ ncow (s9 _ _ hco')
        refine ⟨.ref w, rfl, w, .ref co, rfl, kget e10 rfl, co, _, 1, .int ((dueM m).ss : Nat), rfl, rfl, hco10, rfl, _, _, rfl, rfl, co, _, 1, 1, rfl, rfl, hco10, rfl, ?_⟩
        generalize hG : upd H10 co _ = H12
        have e12 : H12 co = some (.lst [.int ((dueM m).ws : Nat), .int (((dueM m).ss : Int) + 1)]) := by rw [← hG]; exact upd_same
        have k12 : ∀ c o, c ≠ co → H10 c = some o → H12 c = some o := fun c o hc h => by rw [← hG, upd_ne hc]; exact h
        clear hG
        rw [d4, d5] at e12
        have las12 : Las H12 kvs' (arr m.sy m.wt) := las'.to fun d md v il => by
          obtain ⟨r, rfl, er⟩ := il
          have l64 : d.length = 64 := arr_64 (by rw [← esy]; exact b.s64) (fun p mp => (b.t64 p (by rw [ewt]; exact mp)).2) d md
          refine ⟨r, rfl, k12 _ _ (fun z => ?_) (k10 _ _ (fun z => ?_) (s9 _ _ er))⟩
          · rw [z, hco'] at er
            have := congrArg List.length (HO.lst.inj (Option.some.inj er))
            rw [List.length_map, l64] at this
            exact absurd (show (2:Nat) = 64 from this) (by decide)
          · rw [z, hw'] at er
            cases er
        have b12 : WdB H12 w la p co kvs' [] n (syM m) N := by
          refine ⟨k12 _ _ ncow.symm e10, k12 _ _ nco.symm (k10 _ _ nlaw (s9 _ _ hla')), k12 _ _ npco (k10 _ _ npw e9), ?_, .nil, ?_, nwla, npco, ?_, ?_, big, ?_, (fun p mp => nomatch mp)⟩
          · rw [show (syM m).ws = m.ws from d4]
            exact e12
          · show Las H12 kvs' (arr (dueM m).sy m.wt)
            rw [d1]
            exact las12
          · show (arr (dueM m).sy m.wt).length = n
            rw [arr_len]
            exact b.nn
          · show kvs'.length + 0 ≤ N
            omega
          · show ∀ d ∈ arr (dueM m).sy m.wt, _
            exact arr_64 b.s64 (fun p mp => (b.t64 p (by rw [ewt]; exact mp)).2)
        have o812 : Out G H8 H12 := fun c o hc h => by
          rw [eG] at hc
          exact k12 c o (fun z => hc (.inr (.inr (.inr z)))) (k10 c o (fun z => hc (.inl z)) (s9 _ _ (kp c o (fun z => hc (.inr (.inl z))) h)))
        have A12 := A8.world (G' := wFt w la p co) o812 (fun c hc => by
          rcases hc with rfl | rfl | rfl | rfl
          · exact .inl (by rw [eG]; exact .inl rfl)
          · exact .inl (by rw [eG]; exact .inr (.inl rfl))
          · refine .inr ?_
            cases e : H8 c with
            | none => rfl
            | some o =>
              rw [kp c o npla e] at np
              cases np
          · exact .inl (by rw [eG]; exact .inr (.inr (.inr rfl)))) ⟨la, p, co, kvs', [], b12, rfl⟩
        refine ⟨_, rfl, _, rfl, iteT' (by decide) ⟨.bl (dueM m).on, rfl, ?_⟩⟩
        rw [on]
        refine q H12 (syM m) F8 _ A12 ⟨rfl, fun z => ?_, n0, n4⟩
        have z : (dueM m).on = false := z
        rw [on] at z
        cases z
    · rw [if_neg (by rw [off]; exact Bool.false_ne_true)] at A6
      have A8 := A6.disk o8 (fun b h => .inl h) D8
      refine ⟨true, T.eP, fun _ a na => ?_, fun z => nomatch z⟩
      refine ⟨.bl (dueM m).on, rfl, (dueM m).on, rfl, ?_⟩
      rw [off]
      exact q H8 (dueM m) F G A8 g2.due
abbrev dLSy (P : Program) (w0 : World) (K : PySem.W.Frag) (mg : Str → Option Value) (base : Heap) (C : Addr) : Prop := Def P w0 K mg base "_law_sync" 4 ["world", "disk"] (spLSy C)
abbrev sLFa : Stmt := topS 16
abbrev nLFa : List Str := ["state", "world", "disk", "number"]
theorem scLFa : FnScope nLFa ["state", "world", "disk"] (defScope sLFa) := ⟨rfl, rfl, rfl, by decide +kernel, rfl, by decide +kernel, by decide +kernel⟩
def spLFa (C : Addr) : Sp := fun vs H Q _ => ∃ (st L s w : Addr) (n : Nat) (m : DM) (N : Nat) (F G : Addr → Prop), vs = [.ref st, .ref w, .ref s] ∧ All C H st L s w n m m N F G ∧ Good2 m n ∧ Done C st L s w n N G Q
theorem ok_lfa {f0 : Addr} {fd : FuncData} (F0 : Fun K "_law_fail" "_law_fail" sLFa f0 fd) (B : Bt mg) (T : Cd K mg C XP XR XI) (M : Ms P w0 K mg base C XP) (DNext : dNext P w0 K mg base) : FnOk P w0 K mg base CX0 4 f0 fd ["state", "world", "disk"] (spLFa C) := by
  refine F0.ok scLFa (fun vs H Q E h => ?_) (fun cdv A outer s0 H vs Q E hr h => ?_)
  · obtain ⟨_, _, _, _, _, _, _, _, _, rfl, _⟩ := h
    rfl
  · obtain ⟨st, L, s, w, n, m, N, F, G, rfl, A0, g2, q⟩ := h
    have hu := hu_of hr
    refine ⟨_, (pss_cons (ps_set (i := 3) scLFa.nd rfl (.inl rfl) (pe_def DNext (hr.mono (by decide)) (by rfl) (pa_cons (pv 0) (pa_cons pe_int pa_nil))))
      (pss_cons (ps_try_only (tb := fun W => tDrop (tMethS C "fail_after" (spMFA C XP) (WE W) (tVar 2) (tCons (tVar 3) tNil))) (Wout := fun _ _ _ _ => False) rfl rfl ⟨rfl, by decide, Or.inl T.gP⟩ takes0 (fun W pn xe tk _ => pss_one (ps_expr (by exact (pe_mdefXS M.fa (pv 2) T.cl (hr.mono (by decide)) (fun σ => passAt tk σ) (pa_cons (pv 3) pa_nil))))) (fun a oe cls d pn _ _ => pss_one (ps_ret (pe_not (pe_dget hu (pv 1) pe_str (fun _ _ => rfl))))))
      (pss_cons (ps_if (pt_not (pt_val (pe_dget hu (pv 1) pe_str (fun _ _ => rfl))))
        (pss_one (ps_ret pe_bl))
        pss_nil)
      (pss_cons (ps_dput hu (pv 1) pe_str (pv 3) rfl)
      (pss_one (ps_ret pe_bl)))))), ?_⟩
    refine ⟨.ref st, rfl, st, L, 7, rfl, A0.good, by decide, by decide, fun v H1 d1 v0 v1 => ?_⟩
    obtain ⟨k, rfl⟩ : ∃ k : Nat, v = k := ⟨v.toNat, by omega⟩
    have A1 := A0.dr d1
    obtain ⟨dx, Sy, Wr, Wa, xs, ys, zs, b1, eF1⟩ := id A1.dk
    refine ⟨.ref s, rfl, s, dx, _, rfl, b1.hs, rfl, .int (k : Int), rfl, ?_⟩
    refine ⟨s, m, F, k, rfl, A1.dk, fun on H8 o8 D8 => ?_, fun off => ?_⟩
    · have A8 := A1.disk o8 (fun b h => .inl h) D8
      obtain ⟨la, wa, co, kvs, zw, b, eG⟩ := A8.wd
      refine ⟨.ref w, rfl, w, .bl m.on, rfl, kget b.hw rfl, m.on, rfl, ?_⟩
      rw [on]
      refine iteF' rfl ?_
      refine ⟨.int (k : Int), rfl, .ref w, rfl, w, _, rfl, DPut.k (k := (Sum.inr "left" : Key)) b.hw (small7 (by show 7 ≤ 1000000; decide)), ?_⟩
      have b' := b.fld (m' := { m with al := some k }) rfl rfl rfl rfl
      have A9 := A8.world (Out.put (p := w) (o := .dK (wK n la wa co { m with al := some k })) (by rw [eG]; exact .inl rfl)) (fun b h => .inl h) ⟨la, wa, co, kvs, zw, b', eG⟩
      exact q _ { m with al := some k } F G A9 ⟨g2.link, (fun z => absurd (show m.on = false from z) (by rw [on]; exact Bool.noConfusion)), g2.lo, g2.hi⟩
    · refine ⟨true, T.eP, fun _ a na => ?_, fun z => nomatch z⟩
      obtain ⟨la, wa, co, kvs, zw, b, eG⟩ := A1.wd
      refine ⟨.ref w, rfl, w, .bl m.on, rfl, kget b.hw rfl, m.on, rfl, ?_⟩
      rw [off]
      exact q H1 m F G A1 g2
abbrev dLFa (P : Program) (w0 : World) (K : PySem.W.Frag) (mg : Str → Option Value) (base : Heap) (C : Addr) : Prop := Def P w0 K mg base "_law_fail" 4 ["state", "world", "disk"] (spLFa C)
end
end MK

namespace MK
open PySem PySem.Spec PyProof.Rows L2 KA
section
variable {P : Program} {w0 : World} {K : PySem.W.Frag} {mg : Str → Option Value} {base : Heap} {C XP XR XI : Addr}
theorem keptW_mem {wt : List (Nat × List Int)} {bs : List Bool} {p : Nat × List Int} (h : p ∈ keptW wt bs) : p ∈ wt := by
  unfold keptW at h
  obtain ⟨x, hx, rfl⟩ := List.mem_map.mp h
  exact (List.of_mem_zip (List.mem_filter.mp hx).1).1
abbrev sLPw : Stmt := topS 17
abbrev nLPw : List Str := ["state", "world", "disk", "kept", "k"]
theorem scLPw : FnScope nLPw ["state", "world", "disk"] (defScope sLPw) := ⟨rfl, rfl, rfl, by decide +kernel, rfl, by decide +kernel, by decide +kernel⟩
def spLPw (C : Addr) : Sp := fun vs H Q _ => ∃ (st L s w : Addr) (n : Nat) (m : DM) (N : Nat) (F G : Addr → Prop), vs = [.ref st, .ref w, .ref s] ∧ All C H st L s w n m m N F G ∧ Good2 m n ∧ Done C st L s w n N G Q
theorem ok_lpw {f0 : Addr} {fd : FuncData} (F0 : Fun K "_law_power" "_law_power" sLPw f0 fd) (B : Bt mg) (T : Cd K mg C XP XR XI) (M : Ms P w0 K mg base C XP) (DNext : dNext P w0 K mg base) : FnOk P w0 K mg base CX0 4 f0 fd ["state", "world", "disk"] (spLPw C) := by
  refine F0.ok scLPw (fun vs H Q E h => ?_) (fun cdv A outer s0 H vs Q E hr h => ?_)
  · obtain ⟨_, _, _, _, _, _, _, _, _, rfl, _⟩ := h
    rfl
  · obtain ⟨st, L, s, w, n, m, N, F, G, rfl, A0, g2, q⟩ := h
    have hu := hu_of hr
    have MMPw := M.pw
    refine ⟨_, (pss_cons (ps_setLc (i := 3) (own := [("k", 4)]) (g := (gName 4)) (tt := tYes) (te := (tOp _ (tCall spNext [] E0 (tCons (tVar 0) (tCons (tC (.int 2)) tNil))) (tC (.int 1)))) (by rfl) scLPw.nd rfl rfl (sw_true rfl rfl rfl (by decide +kernel)) (pi_range1 (by rfl) B.rng (pa_cons (pe_def DNext (hr.mono (by decide)) (by rfl) (pa_cons (pv 0) (pa_cons (pe_op op_add (pe_callB call_len_seq (by rfl) B.len PySem.boot_len (pa_cons (pe_dget hu (pv 1) pe_str (fun _ _ => rfl)) pa_nil)) pe_int) pa_nil))) pa_nil)) (blkOk_by (own := [("k", 4)]) (N := nLPw) (sc := defScope sLPw) (by decide +kernel)) (fun _ _ _ _ _ => (pg_name (i := 4) scLPw.nd rfl (Or.inl rfl))) (fun _ _ _ _ _ => pts_nil) (fun _ _ _ _ _ => (pe_cmpR op_eq (pe_def DNext (hr.mono (by decide)) (by rfl) (pa_cons (pv 0) (pa_cons pe_int pa_nil))) pe_int (nomark _))))
      (pss_cons (ps_expr (pe_mdef MMPw (pv 2) T.cl (hr.mono (by decide)) (pa_cons (pv 3) pa_nil)))
      (pss_cons (ps_daug hu (pv 1) pe_str (pe_callTy call_int1 (by rfl) B.int (by decide +kernel) (pa_cons (pe_dget hu (pv 1) pe_str (fun _ _ => rfl)) pa_nil)) in_add (fun _ _ _ => rfl))
      (pss_cons (ps_for PassesOwn.never rfl (pi_range1 (by rfl) B.rng (pa_cons (pe_callB (call_min2 rfl) (by rfl) B.min (by decide +kernel) (pa_cons (pe_callB call_len_seq (by rfl) B.len PySem.boot_len (pa_cons (pv 3) pa_nil)) (pa_cons (pe_callB call_len_seq (by rfl) B.len PySem.boot_len (pa_cons (pe_dget hu (pv 1) pe_str (fun _ _ => rfl)) pa_nil)) pa_nil))) pa_nil)) (pg_name (i := 4) scLPw.nd rfl (Or.inl rfl))
        (pss_one (ps_if (pt_val (pe_ix ix_list (pv 3) (pv 4) (fun _ _ => rfl)))
          (pss_one (ps_dput hu (pe_dget hu (pv 1) pe_str (fun _ _ => rfl)) (pe_ix ix_tup (pe_ix ix_list (pe_dget hu (pv 1) pe_str (fun _ _ => rfl)) (pv 4) (fun _ _ => rfl)) pe_int (fun _ _ => rfl)) (pe_ix ix_tup (pe_ix ix_list (pe_dget hu (pv 1) pe_str (fun _ _ => rfl)) (pv 4) (fun _ _ => rfl)) pe_int (fun _ _ => rfl)) rfl))
          pss_nil)))
      (pss_cons (ps_expr (pe_dupdate (pv 1) (pe_disp (pps_cons pe_str (pe_lst pa_nil) (pps_cons pe_str pe_bl (pps_cons pe_str pe_non pps_nil))) (by rfl) (by rfl) (fun z => by cases z) (by decide)) ⟨rfl, rfl, rfl, rfl⟩))
      (pss_one (ps_ret pe_bl))))))), ?_⟩
    have n0 := g2.lo
    have n4 := g2.hi
    have wl : m.wt.length ≤ 900 := by
      obtain ⟨_, _, _, kvs, _, b, _⟩ := A0.wd
      have := b.few
      have := b.big
      omega
    obtain ⟨la, wa, co, kvs, zs, b0, eG⟩ := id A0.wd
    have lz0 := b0.it.length
    refine ⟨.ref st, rfl, .ref w, rfl, w, .ref wa, rfl, kget b0.hw rfl, wa, _, rfl, .inl (SqL.of b0.hwa), _, 3, rfl, rfl, st, L, _, rfl, A0.good, by omega, Int.lt_of_le_of_lt (b := 903) (by omega) (by decide), fun v H1 d1 v0 v1 => ?_⟩
    have A1 := A0.dr d1
    refine ⟨v, rfl, by omega, by omega, fun D nD => ?_⟩
    have nDst := A1.good.ne_new nD
    refine lc_range (lo := 0) (n := v.toNat) (fun i H' => Dr st L H1 H' ∧ ∃ bs : List Bool, H' D = some (.lst (bs.map V.bl)) ∧ bs.length = i) ⟨Dr.new A1.good nD, [], upd_same, rfl⟩ (fun i H' hi hP => ?_) (fun H2 hP => ?_)
    · obtain ⟨dd, bs, eD, lb⟩ := hP
      refine ⟨rfl, ?_⟩
      refine iteT (B := True) ?_
      refine ⟨.ref st, rfl, st, L, 2, rfl, dd.good, by decide, by decide, fun x H2 d2 x0 x1 => ?_⟩
      refine ⟨rfl, _, d2.at_ nDst eD, small7 (by rw [List.length_map]; omega), (dd.trans d2).put A1.good nD, bs ++ [_], by rw [upd_same, List.map_append]; rfl, by rw [List.length_append, lb]; rfl⟩
    · obtain ⟨dd, bs, eD, lb⟩ := hP
      have A2 := A1.dr dd
      have nFD : ¬ F D := fun z => A1.dk.known D z nD
      have nGD : ¬ G D := fun z => A1.wd.known D z nD
      obtain ⟨dx, Sy, Wr, Wa, xs, ys, ws, b2, eF2⟩ := id A2.dk
      refine ⟨.ref s, rfl, s, dx, _, rfl, b2.hs, rfl, .ref D, rfl, s, D, m, F, bs, rfl, A2.dk, eD, nFD, fun H3 F3 o3 hF3 D3 => ?_⟩
      have A3 := A2.disk o3 hF3 D3
      have eD3 := o3 _ _ nFD eD
      obtain ⟨f1, f2, f3, f4, f5⟩ := off_sy m
      obtain ⟨la, wa, co, kvs, zs, b, eG⟩ := A3.wd
      have lz := b.it.length
      have nDw : D ≠ w := fun z => nGD (by rw [eG]; exact .inl z)
      have nDla : D ≠ la := fun z => nGD (by rw [eG]; exact .inr (.inl z))
      refine ⟨.ref w, rfl, w, .int (m.fa : Nat), rfl, kget b.hw rfl, .ref w, rfl, w, .bl m.on, rfl, kget b.hw rfl, .inr ⟨m.on, rfl, ?_⟩⟩
      refine ⟨_, _, rfl, rfl, _, DPut.k (k := (Sum.inr "losses" : Key)) b.hw (small7 (by show 7 ≤ 1000000; decide)), ?_⟩
      have efa : (m.fa : Int) + (if m.on = true then 1 else 0) = (((offM m).fa : Nat) : Int) := by
        unfold offM
        cases m.on <;> rfl
      have ef : putK (wK n la wa co m) (Sum.inr "losses" : Key) (.int ((m.fa : Int) + (if m.on = true then 1 else 0))) = wK n la wa co { m with fa := (offM m).fa } := by
        rw [efa]
        rfl
      rw [ef]
      have b4 := b.fld (m' := { m with fa := (offM m).fa }) rfl rfl rfl rfl
      generalize hG : upd H3 w _ = H4 at b4 ⊢
      have k4 : ∀ c o, c ≠ w → H3 c = some o → H4 c = some o := fun c o hc h => by rw [← hG, upd_ne hc]; exact h
      clear hG
      have eD4 := k4 _ _ nDw eD3
      refine ⟨.ref D, rfl, D, _, rfl, .inl (SqL.of eD4), .ref w, rfl, w, .ref wa, rfl, kget b4.hw rfl, wa, _, rfl, .inl (SqL.of b4.hwa), (((bs.map V.bl).length : Nat) : Int), (zs.length : Int), rfl, ?_⟩
      have em : (if (zs.length : Int) < (((bs.map V.bl).length : Nat) : Int) then (zs.length : Int) else (((bs.map V.bl).length : Nat) : Int)) = ((min zs.length bs.length : Nat) : Int) := by
        rw [List.length_map]
        by_cases c : zs.length < bs.length
        · rw [if_pos (by omega), Nat.min_eq_left (by omega)]
        · rw [if_neg (by omega), Nat.min_eq_right (by omega)]
      refine ⟨_, rfl, by rw [em]; omega, by rw [em]; omega, ?_⟩
      rw [em, Int.toNat_natCast]
      have nwla : w ≠ la := b.n1
      have nwa : wa ≠ la := fun z => by have := b.hla; rw [← z, b.hwa] at this; cases this
      have nco : co ≠ la := fun z => by have := b.hla; rw [← z, b.hco] at this; cases this
      have few := b.few
      have big := b.big
      refine for_range (lo := 0) (n := min zs.length bs.length) (fun k σ H' => (∃ x4, σ = [some (.ref st), some (.ref w), some (.ref s), some (.ref D), x4]) ∧ (∀ c o, c ≠ la → H4 c = some o → H' c = some o) ∧ ∃ kvs', H' la = some (.dK kvs') ∧ Las H' kvs' (arr m.sy (keptW (m.wt.take k) (bs.take k))) ∧ kvs'.length ≤ kvs.length + k) ⟨⟨none, rfl⟩, (fun _ _ _ h => h), kvs, b4.hla, b4.las, Nat.le_refl _⟩ (fun k σ H' hk hP => ?_) (fun σ H' hP => ?_)
      · obtain ⟨⟨x4, rfl⟩, kp, kvs', hla', las', lk'⟩ := hP
        have kz : k < zs.length := by omega
        have kb : k < bs.length := by omega
        obtain ⟨x, hx⟩ : ∃ x, zs[k]? = some x := ⟨_, List.getElem?_eq_getElem kz⟩
        obtain ⟨t, r, j, d, rfl, ew, et, er⟩ := b4.it.get hx
        have ew : m.wt[k]? = some (j, d) := ew
        obtain ⟨bb, eb⟩ : ∃ bb, bs[k]? = some bb := ⟨_, List.getElem?_eq_getElem kb⟩
        have nt : t ≠ la := fun z => by rw [z, b4.hla] at et; cases et
        have nr : r ≠ la := fun z => by rw [z, b4.hla] at er; cases er
        have et' := kp _ _ nt et
        have e0 : (0 : Int) + (k : Int) = ((k : Nat) : Int) := Int.zero_add _
        have hw' := kp _ _ nwla b4.hw
        have hwa' := kp _ _ nwa b4.hwa
        have ek := keptW_take m.wt bs k
        rw [ew, eb] at ek
        refine ⟨.ref D, rfl, .int (0 + k), rfl, D, _, 0 + k, .bl bb, rfl, rfl, SqL.of (kp _ _ nDla eD4), at_of e0 (by rw [List.getElem?_map, eb]; rfl), bb, rfl, ?_⟩
        cases bb with
        | false =>
          refine iteF' rfl ⟨⟨_, rfl⟩, kp, kvs', hla', ?_, by omega⟩
          rw [ek]
          show Las _ _ (arr _ (_ ++ []))
          rw [List.append_nil]
          exact las'
        | true =>
          refine iteT' rfl ?_
          refine ⟨.ref w, rfl, w, .ref wa, rfl, kget hw' rfl, .int (0 + k), rfl, wa, _, 0 + k, .ref t, rfl, rfl, SqL.of hwa', at_of e0 hx, t, _, 1, .ref r, rfl, rfl, SqT.of et', rfl, ?_⟩
          refine ⟨.ref w, rfl, w, .ref la, rfl, kget hw' rfl, .ref w, rfl, w, .ref wa, rfl, kget hw' rfl, .int (0 + k), rfl, wa, _, 0 + k, .ref t, rfl, rfl, SqL.of hwa', at_of e0 hx, t, _, 0, .int (j : Int), rfl, rfl, SqT.of et', rfl, ?_⟩
          refine ⟨la, _, rfl, DPut.k (k := (Sum.inl (j : Int) : Key)) hla' (small7 (by omega)), ?_⟩
          refine ⟨⟨_, rfl⟩, fun c o hc h => ?_, putK kvs' (Sum.inl (j : Int) : Key) (.ref r), upd_same, ?_, ?_⟩
          · rw [upd_ne hc]
            exact kp c o hc h
          · rw [ek]
            show Las _ _ (arr m.sy (keptW (m.wt.take k) (bs.take k) ++ [(j, d)]))
            rw [arr_snoc]
            refine (las'.put ⟨r, rfl, kp _ _ nr er⟩).kp (la := la) (fun c o hc h => ?_) ⟨kvs', hla'⟩
            rw [upd_ne hc]
            exact h
          · have := length_putK kvs' (Sum.inl (j : Int) : Key) (.ref r)
            omega
      · obtain ⟨⟨x4, rfl⟩, kp, kvs', hla', las', lk'⟩ := hP
        have emin : keptW (m.wt.take (min zs.length bs.length)) (bs.take (min zs.length bs.length)) = keptW m.wt bs := by
          unfold keptW
          rw [zip_take, List.take_of_length_le]
          rw [List.length_zip, lz]
          exact Nat.le_refl _
        rw [emin] at las'
        have hw' := kp _ _ nwla b4.hw
        have hco' := kp _ _ nco b4.hco
        refine ⟨.ref w, rfl, w, rfl, .inl ⟨_, .inl hw'⟩, fun E nE => ?_⟩
        generalize hG : upd _ E _ = H5
        obtain ⟨s5, e5⟩ := gen_up hG nE
        clear hG
        refine ⟨Nat.zero_le _, fun p np => ?_⟩
        generalize hG : upd _ p _ = H6
        obtain ⟨s6, e6⟩ := gen_up hG np
        clear hG
        have nwE : w ≠ E := fun z => by rw [z, nE] at hw'; cases hw'
        have hw6 := s6 _ _ (s5 _ _ hw')
        refine ⟨s6 _ _ e5, [(.inr "waiting", .ref p), (.inr "on", .bl true), (.inr "left", .non)], rfl, (by show 3 ≤ 15; decide), E, _, _, rfl, by rw [upd_ne nwE]; exact hw6, .inl upd_same, nwE, small6 (by show 7 + 3 ≤ 1000000; decide), ?_⟩
        have eal : (offM m).al = none := by
          unfold offM
          split
          · rfl
          · rename_i h
            exact g2.off (by cases e : m.on with | true => exact absurd e h | false => rfl)
        have ef : mergeK (wK n la wa co { m with fa := (offM m).fa }) (mergeK [] [((Sum.inr "waiting" : Key), V.ref p), (Sum.inr "on", .bl true), (Sum.inr "left", .non)]) = wK n la p co (pwM m bs) := by
          have e2 : optV (pwM m bs).al = .non := by
            show optV (offM m).al = _
            rw [eal]
            rfl
          unfold wK
          rw [e2]
          rfl
        rw [ef]
        generalize hG : upd H6 E _ = H7
        have k7 : ∀ c o, c ≠ E → H6 c = some o → H7 c = some o := fun c o hc h => by rw [← hG, upd_ne hc]; exact h
        clear hG
        generalize hG : upd H7 w _ = H8
        have e8 : H8 w = some (.dK (wK n la p co (pwM m bs))) := by rw [← hG]; exact upd_same
        have k8 : ∀ c o, c ≠ w → H7 c = some o → H8 c = some o := fun c o hc h => by rw [← hG, upd_ne hc]; exact h
        clear hG
        have k58 : ∀ c o, c ≠ w → H' c = some o → H8 c = some o := fun c o hc h => k8 c o hc (k7 c o (fun z => by rw [z, nE] at h; cases h) (s6 _ _ (s5 _ _ h)))
        have npw : p ≠ w := fun z => by rw [z, s5 _ _ hw'] at np; cases np
        have nlaw : la ≠ w := nwla.symm
        have ncow : co ≠ w := fun z => by rw [z, hw'] at hco'; cases hco'
        have npco : p ≠ co := fun z => by rw [z, s5 _ _ hco'] at np; cases np
        have npla : p ≠ la := fun z => by rw [z, s5 _ _ hla'] at np; cases np
        have npE : p ≠ E := fun z => by rw [z, e5] at np; cases np
        have epw : (pwM m bs).sy = arr m.sy (keptW m.wt bs) := by
          show arr (offM m).sy _ = _
          rw [f1]
        have l64 : ∀ d ∈ arr m.sy (keptW m.wt bs), d.length = 64 := arr_64 b.s64 (fun p mp => (b.t64 p (keptW_mem mp)).2)
        have b8 : WdB H8 w la p co kvs' [] n (pwM m bs) N := by
          refine ⟨e8, k58 _ _ nlaw hla', k8 _ _ npw (k7 _ _ npE e6), ?_, .nil, ?_, nwla, npco, ?_, ?_, big, ?_, (fun p mp => nomatch mp)⟩
          · rw [show (pwM m bs).ws = m.ws from f4, show (pwM m bs).ss = m.ss from f5]
            exact k58 _ _ ncow hco'
          · rw [epw]
            refine las'.to fun d md v il => ?_
            obtain ⟨r, rfl, er⟩ := il
            exact ⟨r, rfl, k58 _ _ (fun z => by rw [z, hw'] at er; cases er) er⟩
          · rw [epw, arr_len]
            exact b.nn
          · show kvs'.length + 0 ≤ N
            omega
          · rw [epw]
            exact l64
        have o38 : Out G H3 H8 := fun c o hc h => by
          rw [eG] at hc
          exact k58 c o (fun z => hc (.inl z)) (kp c o (fun z => hc (.inr (.inl z))) (k4 c o (fun z => hc (.inl z)) h))
        have A8 := A3.world (G' := wFt w la p co) o38 (fun c hc => by
          rcases hc with rfl | rfl | rfl | rfl
          · exact .inl (by rw [eG]; exact .inl rfl)
          · exact .inl (by rw [eG]; exact .inr (.inl rfl))
          · refine .inr ?_
            cases e : H3 c with
            | none => rfl
            | some o =>
              rw [s5 _ _ (kp c o npla (k4 c o npw e))] at np
              cases np
          · exact .inl (by rw [eG]; exact .inr (.inr (.inr rfl)))) ⟨la, p, co, kvs', [], b8, rfl⟩
        exact q H8 (pwM m bs) F3 _ A8 ⟨rfl, (fun z => nomatch z), n0, n4⟩
abbrev dLPw (P : Program) (w0 : World) (K : PySem.W.Frag) (mg : Str → Option Value) (base : Heap) (C : Addr) : Prop := Def P w0 K mg base "_law_power" 4 ["state", "world", "disk"] (spLPw C)
abbrev sLDe : Stmt := topS 18
abbrev nLDe : List Str := ["state", "world", "disk", "pick"]
theorem scLDe : FnScope nLDe ["state", "world", "disk"] (defScope sLDe) := ⟨rfl, rfl, rfl, by decide +kernel, rfl, by decide +kernel, by decide +kernel⟩
def spLDe (C : Addr) : Sp := fun vs H Q _ => ∃ (st L s w : Addr) (n : Nat) (m : DM) (N : Nat) (F G : Addr → Prop), vs = [.ref st, .ref w, .ref s] ∧ All C H st L s w n m m N F G ∧ Good2 m n ∧ N + 1 ≤ 900 ∧ Done C st L s w n (N + 1) G Q
theorem ok_lde {f0 : Addr} {fd : FuncData} (F0 : Fun K "_law_deed" "_law_deed" sLDe f0 fd) (B : Bt mg) (T : Cd K mg C XP XR XI) (DNext : dNext P w0 K mg base) (DLWr : dLWr P w0 K mg base C) (DLSy : dLSy P w0 K mg base C) (DLFa : dLFa P w0 K mg base C) (DLPw : dLPw P w0 K mg base C) : FnOk P w0 K mg base CX0 5 f0 fd ["state", "world", "disk"] (spLDe C) := by
  refine F0.ok scLDe (fun vs H Q E h => ?_) (fun cdv A outer s0 H vs Q E hr h => ?_)
  · obtain ⟨_, _, _, _, _, _, _, _, _, rfl, _⟩ := h
    rfl
  · obtain ⟨st, L, s, w, n, m, N, F, G, rfl, A0, g2, hN, q⟩ := h
    have hu := hu_of hr
    refine ⟨_, (pss_cons (ps_set (i := 3) scLDe.nd rfl (.inl rfl) (pe_def DNext (hr.mono (by decide)) (by rfl) (pa_cons (pv 0) (pa_cons pe_int pa_nil))))
      (pss_cons (ps_if (pt_cmpR op_lt (pv 3) pe_int (nomark _))
        (pss_one (ps_ret (pe_def DLWr (hr.mono (by decide)) (by rfl) (pa_cons (pv 0) (pa_cons (pv 1) (pa_cons (pv 2) pa_nil))))))
        pss_nil)
      (pss_cons (ps_if (pt_cmpR op_lt (pv 3) pe_int (nomark _))
        (pss_one (ps_ret (pe_def DLSy (hr.mono (by decide)) (by rfl) (pa_cons (pv 1) (pa_cons (pv 2) pa_nil)))))
        pss_nil)
      (pss_cons (ps_if (pt_cmpR op_lt (pv 3) pe_int (nomark _))
        (pss_one (ps_ret (pe_def DLFa (hr.mono (by decide)) (by rfl) (pa_cons (pv 0) (pa_cons (pv 1) (pa_cons (pv 2) pa_nil))))))
        pss_nil)
      (pss_one (ps_ret (pe_def DLPw (hr.mono (by decide)) (by rfl) (pa_cons (pv 0) (pa_cons (pv 1) (pa_cons (pv 2) pa_nil)))))))))), ?_⟩
    have q' : Done C st L s w n N G Q := fun H' m' F' G' A g => q H' m' F' G' (A.more (Nat.le_succ _) hN) g
    refine ⟨.ref st, rfl, st, L, 11, rfl, A0.good, by decide, by decide, fun v H1 d1 v0 v1 => ?_⟩
    have A1 := A0.dr d1
    refine ⟨.int v, rfl, v, 6, rfl, rfl, _, rfl, ?_⟩
    by_cases c1 : v < 6
    · exact iteT' (decide_eq_true c1) ⟨.ref st, rfl, .ref w, rfl, .ref s, rfl, st, L, s, w, n, m, N, F, G, rfl, A1, g2, hN, q⟩
    refine iteF' (decide_eq_false c1) ⟨.int v, rfl, v, 8, rfl, rfl, _, rfl, ?_⟩
    by_cases c2 : v < 8
    · exact iteT' (decide_eq_true c2) ⟨.ref w, rfl, .ref s, rfl, st, L, s, w, n, m, N, F, G, rfl, A1, g2, q'⟩
    refine iteF' (decide_eq_false c2) ⟨.int v, rfl, v, 10, rfl, rfl, _, rfl, ?_⟩
    by_cases c3 : v < 10
    · exact iteT' (decide_eq_true c3) ⟨.ref st, rfl, .ref w, rfl, .ref s, rfl, st, L, s, w, n, m, N, F, G, rfl, A1, g2, q'⟩
    exact iteF' (decide_eq_false c3) ⟨.ref st, rfl, .ref w, rfl, .ref s, rfl, st, L, s, w, n, m, N, F, G, rfl, A1, g2, q'⟩
abbrev dLDe (P : Program) (w0 : World) (K : PySem.W.Frag) (mg : Str → Option Value) (base : Heap) (C : Addr) : Prop := Def P w0 K mg base "_law_deed" 5 ["state", "world", "disk"] (spLDe C)
end
end MK

namespace MK
open PySem PySem.Spec PyProof.Rows L2 KA
section
variable {P : Program} {w0 : World} {K : PySem.W.Frag} {mg : Str → Option Value} {base : Heap} {C XP XR XI : Addr}
abbrev dLRf (P : Program) (w0 : World) (K : PySem.W.Frag) (mg : Str → Option Value) (base : Heap) : Prop := Def P w0 K mg base "_law_refused" 3 ["size"] spLRf
abbrev dLIs (P : Program) (w0 : World) (K : PySem.W.Frag) (mg : Str → Option Value) (base : Heap) (C : Addr) : Prop := Def P w0 K mg base "_law_is_right" 6 ["state", "world", "disk"] (spLIs C)
abbrev sLaw : Stmt := topS 21
abbrev nLaw : List Str := ["script", "state", "size", "disk", "world", "k", "index"]
theorem scLaw : FnScope nLaw ["script"] (defScope sLaw) := ⟨rfl, rfl, rfl, by decide +kernel, rfl, by decide +kernel, by decide +kernel⟩
def spLaw (K : PySem.W.Frag) : Sp := fun vs H Q _ => ∃ (a : Addr) (ns : List Int), vs = [.ref a] ∧ SqL K H a (ns.map V.int) ∧ ns.length ≤ 63 ∧ ∀ H', Q (.bl true) H'
theorem ok_law {f0 : Addr} {fd : FuncData} (F0 : Fun K "law" "law" sLaw f0 fd) (B : Bt mg) (T : Cd K mg C XP XR XI) (M : Ms P w0 K mg base C XP) (MD : MkD P w0 K mg base C XI) (DNext : dNext P w0 K mg base) (DLRf : dLRf P w0 K mg base) (DLIs : dLIs P w0 K mg base C) (DLDe : dLDe P w0 K mg base C) (DLSe : dLSe P w0 K mg base) : FnOk P w0 K mg base CX0 7 f0 fd ["script"] (spLaw K) := by
  refine F0.ok scLaw (fun vs H Q E h => ?_) (fun cdv A outer s0 H vs Q E hr h => ?_)
  · obtain ⟨a, ns, rfl, _⟩ := h
    rfl
  · obtain ⟨sc, ns, rfl, hS, hlen, q⟩ := h
    have hu := hu_of hr
    obtain ⟨fi, fdi, hM, _, hF, hb⟩ := MD.ex
    have MMRe := M.re
    refine ⟨_, (pss_cons (ps_set (i := 1) scLaw.nd rfl (.inl rfl) (pe_lst (pa_cons (pe_callTy call_list_of (by rfl) B.lst (by decide +kernel) (pa_cons (pv 0) pa_nil)) (pa_cons pe_int (pa_cons pe_int (pa_cons pe_int pa_nil))))))
      (pss_cons (ps_for PassesOwn.never rfl (pi_list (pe_lst (pa_cons (pe_op op_sub pe_int (pe_def DNext (hr.mono (by decide)) (by rfl) (pa_cons (pv 1) (pa_cons pe_int pa_nil)))) (pa_cons (pe_op op_add pe_int (pe_def DNext (hr.mono (by decide)) (by rfl) (pa_cons (pv 1) (pa_cons pe_int pa_nil)))) (pa_cons pe_bl (pa_cons pe_str (pa_cons pe_non (pa_cons (pe_lst (pa_cons pe_int pa_nil)) pa_nil)))))))) (pg_name (i := 2) scLaw.nd rfl (Or.inl rfl))
        (pss_one (ps_if (pt_not (pt_val (pe_def DLRf (hr.mono (by decide)) (by rfl) (pa_cons (pv 2) pa_nil))))
          (pss_one (ps_ret pe_bl))
          pss_nil)))
      (pss_cons (ps_set (i := 2) scLaw.nd rfl (.inl rfl) (pe_ix ix_list (pe_lst (pa_cons pe_int (pa_cons pe_int (pa_cons pe_int (pa_cons (pe_op op_add pe_int (pe_def DNext (hr.mono (by decide)) (by rfl) (pa_cons (pv 1) (pa_cons pe_int pa_nil)))) pa_nil))))) (pe_def DNext (hr.mono (by decide)) (by rfl) (pa_cons (pv 1) (pa_cons pe_int pa_nil))) (fun _ _ => rfl)))
      (pss_cons (ps_set (i := 3) scLaw.nd rfl (.inl rfl) (pe_make hM hF (hr.mono (by decide)) (by rfl) T.mgC hb .nil pass0 (pa_cons (pv 2) pa_nil)))
      (pss_cons (ps_set (i := 4) scLaw.nd rfl (.inl rfl) (pe_disp (pps_cons pe_str (pv 2) (pps_cons pe_str pe_dnewK (pps_cons pe_str (pe_lst pa_nil) (pps_cons pe_str pe_bl (pps_cons pe_str pe_non (pps_cons pe_str pe_int (pps_cons pe_str (pe_lst (pa_cons pe_int (pa_cons pe_int pa_nil))) pps_nil))))))) (by rfl) (by rfl) (fun z => by cases z) (by decide)))
      (pss_cons (ps_if (pt_cmpR op_notBl (pe_fld (pv 3) rfl) pe_bl (nomark _))
        (pss_one (ps_ret pe_bl))
        pss_nil)
      (pss_cons (ps_for PassesOwn.never rfl (pi_range1 (by rfl) B.rng (pa_cons (pe_def DNext (hr.mono (by decide)) (by rfl) (pa_cons (pv 1) (pa_cons pe_int pa_nil))) pa_nil)) (pg_name (i := 5) scLaw.nd rfl (Or.inl rfl))
        (pss_one (ps_if (PW.pt (pw_or (pt_not (pt_val (pe_def DLIs (hr.mono (by decide)) (by rfl) (pa_cons (pv 1) (pa_cons (pv 4) (pa_cons (pv 3) pa_nil)))))) (pw_or1 (pt_not (pt_val (pe_def DLDe (hr.mono (by decide)) (by rfl) (pa_cons (pv 1) (pa_cons (pv 4) (pa_cons (pv 3) pa_nil)))))))))
          (pss_one (ps_ret pe_bl))
          pss_nil)))
      (pss_cons (ps_for PassesOwn.never rfl (pi_range1 (by rfl) B.rng (pa_cons (pv 2) pa_nil)) (pg_name (i := 6) scLaw.nd rfl (Or.inl rfl))
        (pss_one (ps_if (pt_cmpR (op_neQ hr.units) (pe_mdef MMRe (pv 3) T.cl (hr.mono (by decide)) (pa_cons (pv 6) pa_nil)) (pe_def DLSe (hr.mono (by decide)) (by rfl) (pa_cons (pv 4) (pa_cons (pv 6) pa_nil))) (nomark _))
          (pss_one (ps_ret pe_bl))
          pss_nil)))
      (pss_one (ps_ret (pe_def DLIs (hr.mono (by decide)) (by rfl) (pa_cons (pv 1) (pa_cons (pv 4) (pa_cons (pv 3) pa_nil)))))))))))))), ?_⟩
    refine ⟨.ref sc, rfl, sc, _, rfl, .inl hS, fun L nL => ?_⟩
    generalize hG : upd _ L _ = H1
    obtain ⟨s1, e1⟩ := gen_up hG nL
    clear hG
    refine ⟨(by show 4 ≤ sizeLine; exact small6 (by decide)), fun st nst => ?_⟩
    generalize hG : upd _ st _ = H2
    obtain ⟨s2, e2⟩ := gen_up hG nst
    clear hG
    have g : Good st L H2 := ⟨ns, 0, 0, 1, e2, s2 _ _ e1, by decide, by decide⟩
    -- what is no size
    refine ⟨.ref st, rfl, st, L, 70, rfl, g, by decide, by decide, fun v1 H3 d3 v10 v11 => ⟨_, _, rfl, rfl, ?_⟩⟩
    refine ⟨.ref st, rfl, st, L, 70, rfl, d3.good, by decide, by decide, fun v2 H4 d4 v20 v21 => ⟨_, _, rfl, rfl, ?_⟩⟩
    refine ⟨(by show 1 ≤ sizeLine; exact small6 (by decide)), fun p5 np5 => ?_⟩
    generalize hG : upd _ p5 _ = H5
    obtain ⟨s5, e5⟩ := gen_up hG np5
    clear hG
    refine ⟨(by show 6 ≤ sizeLine; exact small6 (by decide)), fun p6 np6 => ?_⟩
    generalize hG : upd _ p6 _ = H6
    obtain ⟨s6, e6⟩ := gen_up hG np6
    clear hG
    have g6 : Good st L H6 := (Dr.same d4.good (s5.trans s6)).good
    refine ⟨p6, rfl, ⟨_, SqL.of e6⟩, ?_⟩
    refine for_list (K := K) (a := p6) (xs := [.int (59 - v1), .int (401 + v2), .bl true, .str "60", .non, .ref p5]) (fun i σ H' => (∃ x2, σ = [some (.ref sc), some (.ref st), x2, none, none, none, none]) ∧ Same H6 H') ⟨⟨none, rfl⟩, fun _ _ h => h⟩ (fun i σ H' _ hP => SqL.of (hP.2 _ _ e6)) (fun i x σ Hi hx hP => ?_) (fun σ H7 hP => ?_)
    · obtain ⟨⟨x2, rfl⟩, sm⟩ := hP
      have bad : badV Hi x := by
        rcases i with _ | _ | _ | _ | _ | _ | i
        · cases hx
          exact .inl ⟨_, rfl, .inl (by omega)⟩
        · cases hx
          exact .inl ⟨_, rfl, .inr (by omega)⟩
        · cases hx
          exact .inr (.inl ⟨_, rfl⟩)
        · cases hx
          exact .inr (.inr (.inl ⟨_, rfl⟩))
        · cases hx
          exact .inr (.inr (.inr (.inl rfl)))
        · cases hx
          exact .inr (.inr (.inr (.inr ⟨p5, _, rfl, sm _ _ (s6 _ _ e5)⟩)))
        · cases hx
      exact ⟨x, rfl, x, rfl, bad, fun H' s' => ⟨true, rfl, iteF' rfl ⟨⟨_, rfl⟩, sm.trans s'⟩⟩⟩
    · obtain ⟨⟨x2, rfl⟩, sm7⟩ := hP
      have g7 := (Dr.same g6 sm7).good
      -- the size
      refine ⟨.ref st, rfl, st, L, 341, rfl, g7, by decide, by decide, fun v3 H8 d8 v30 v31 => ⟨_, _, rfl, rfl, ?_⟩⟩
      refine ⟨(by show 4 ≤ sizeLine; exact small6 (by decide)), fun p9 np9 => ?_⟩
      generalize hG : upd _ p9 _ = H9
      obtain ⟨s9, e9⟩ := gen_up hG np9
      clear hG
      have g9 := (Dr.same d8.good s9).good
      refine ⟨.ref st, rfl, st, L, 4, rfl, g9, by decide, by decide, fun k Ha da k0 k1 => ?_⟩
      have ea := da.at_ (d8.good.ne_new np9) e9
      obtain ⟨ix, mix, eix⟩ := lit_int (zs := [60, 61, 400, 60 + v3]) k0 k1
      refine ⟨p9, _, k, .int ix, rfl, rfl, SqL.of ea, eix, ?_⟩
      have hix : 60 ≤ ix ∧ ix ≤ 400 := by
        simp only [List.mem_cons, List.not_mem_nil, or_false] at mix
        rcases mix with rfl | rfl | rfl | rfl <;> omega
      obtain ⟨n, rfl⟩ : ∃ n : Nat, ix = n := ⟨ix.toNat, by omega⟩
      have n0 : 60 ≤ n := by omega
      have n4 : n ≤ 400 := by omega
      -- the disk
      refine ⟨.int (n : Int), rfl, fun s dx ns' ndx ndxs => ?_⟩
      have sab : Same Ha (upd (upd Ha dx (.own s)) s (.ins C dx [])) := same_put (same_new ndx) ns'
      have bk : ∀ c, (upd (upd Ha dx (.own s)) s (.ins C dx [])) c = none → Ha c = none := fun c hc => by
        cases e : Ha c with
        | none => rfl
        | some o =>
          rw [sab _ _ e] at hc
          cases hc
      refine ⟨s, dx, n, rfl, upd_same, n0, n4, fun Hb F kb hFb Db => ⟨rfl, ?_⟩⟩
      have sb : Same Ha Hb := fun c o h => kb c o (fun z => by rw [z, ns'] at h; cases h) (sab c o h)
      have gb := (Dr.same da.good sb).good
      have nF : ∀ c, Ha c ≠ none → ¬ F c := fun c hc z => by
        rcases hFb c z with h | h
        · rw [h] at hc
          exact hc ns'
        · exact hc (bk c h)
      -- the world
      intro w nw
      generalize hG : upd _ w _ = Hc
      obtain ⟨sc1, ec⟩ := gen_up hG nw
      clear hG
      refine ⟨.int (n : Int), rfl, fun la nla => ?_⟩
      generalize hG : upd _ la _ = Hd
      obtain ⟨sd, ed⟩ := gen_up hG nla
      clear hG
      refine ⟨Nat.zero_le _, fun wa nwa => ?_⟩
      generalize hG : upd _ wa _ = He
      obtain ⟨se, ee⟩ := gen_up hG nwa
      clear hG
      refine ⟨(by show 2 ≤ sizeLine; exact small6 (by decide)), fun co nco => ?_⟩
      generalize hG : upd _ co _ = Hf
      obtain ⟨sf, ef⟩ := gen_up hG nco
      clear hG
      have ed2 := sd _ _ ec
      refine ⟨sf _ _ (se _ _ ed2), [(.inr "size", .int (n : Nat)), (.inr "lasting", .ref la), (.inr "waiting", .ref wa), (.inr "on", .bl true), (.inr "left", .non), (.inr "losses", .int 0), (.inr "counts", .ref co)], rfl, (by show 7 ≤ 15; decide), ?_⟩
      have eK : mergeK [] [((Sum.inr "size" : Key), V.int (n : Nat)), (Sum.inr "lasting", .ref la), (Sum.inr "waiting", .ref wa), (Sum.inr "on", .bl true), (Sum.inr "left", .non), (Sum.inr "losses", .int 0), (Sum.inr "counts", .ref co)] = wK n la wa co (m0 n) := rfl
      rw [eK]
      generalize hG : upd Hf w _ = Hg
      have eg : Hg w = some (.dK (wK n la wa co (m0 n))) := by rw [← hG]; exact upd_same
      have kg : ∀ c o, c ≠ w → Hf c = some o → Hg c = some o := fun c o hc h => by rw [← hG, upd_ne hc]; exact h
      clear hG
      have sbf : Same Hb Hf := ((sc1.trans sd).trans se).trans sf
      have sbg : Same Hb Hg := fun c o h => kg c o (fun z => by rw [z, nw] at h; cases h) (sbf c o h)
      have nwla : w ≠ la := fun z => by rw [← z, ec] at nla; cases nla
      have nwwa : w ≠ wa := fun z => by rw [← z, ed2] at nwa; cases nwa
      have nwco : w ≠ co := fun z => by rw [← z, se _ _ ed2] at nco; cases nco
      have nwaco : wa ≠ co := fun z => by rw [← z, ee] at nco; cases nco
      have W0 : WdB Hg w la wa co [] [] n (m0 n) 0 := by
        refine ⟨eg, kg _ _ nwla.symm (sf _ _ (se _ _ ed)), kg _ _ nwwa.symm (sf _ _ ee), kg _ _ nwco.symm ef, .nil, fun i d hd => .inr ⟨rfl, ?_⟩, nwla, nwaco, ?_, Nat.le_refl _, by decide, fun d md => ?_, (fun p mp => nomatch mp)⟩
        · exact (List.mem_replicate.mp (List.mem_of_getElem? hd)).2
        · exact List.length_replicate
        · have : d = sec0 := (List.mem_replicate.mp md).2
          rw [this]
          decide
      have newG : ∀ c, wFt w la wa co c → Hb c = none := fun c hc => by
        cases e : Hb c with
        | none => rfl
        | some o =>
          rcases hc with rfl | rfl | rfl | rfl
          · rw [nw] at e; cases e
          · rw [sc1 _ _ e] at nla; cases nla
          · rw [sd _ _ (sc1 _ _ e)] at nwa; cases nwa
          · rw [se _ _ (sd _ _ (sc1 _ _ e))] at nco; cases nco
      have Dg := Db.same sbg
      have kstb : Hb st ≠ none := gb.not_none
      have knL : ∀ {H : Hp}, Good st L H → H L ≠ none := fun g => by
        obtain ⟨_, _, _, _, _, e, _⟩ := g
        rw [e]
        exact fun z => nomatch z
      have A0 : All C Hg st L s w n (m0 n) (m0 n) 0 F (wFt w la wa co) :=
        ⟨(Dr.same gb sbg).good, Dg, ⟨la, wa, co, [], [], W0, rfl⟩, fun c hc hg => Db.known c hc (newG c hg), nF _ da.good.not_none, nF _ (knL da.good), fun z => kstb (newG _ z), fun z => knL gb (newG _ z)⟩
      obtain ⟨dx2, Sy, Wr, Wa, xs, ys, zs, b, eF⟩ := id Dg
      refine ⟨.ref s, rfl, s, C, dx2, _, .bl false, rfl, b.hs, T.cl, T.nIU, rfl, false, false, rfl, rfl, _, rfl, iteF' (by decide) ?_⟩
      -- the deeds
      refine ⟨.ref st, rfl, st, L, 51, rfl, A0.good, by decide, by decide, fun v Hh dh v0 v1 => ⟨v, rfl, by omega, by omega, ?_⟩⟩
      have A1 := A0.dr dh
      refine for_range (lo := 0) (n := v.toNat) (fun k σ H' => (∃ x5, σ = [some (.ref sc), some (.ref st), some (.int (n : Int)), some (.ref s), some (.ref w), x5, none]) ∧ ∃ m F G, All C H' st L s w n m m k F G ∧ Good2 m n) ⟨⟨none, rfl⟩, m0 n, _, _, A1, rfl, (fun z => nomatch z), n0, n4⟩ (fun k σ H' hk hP => ?_) (fun σ Hi hP => ?_)
      · obtain ⟨⟨x5, rfl⟩, m, F, G, A, g2⟩ := hP
        refine ⟨.ref st, rfl, .ref w, rfl, .ref s, rfl, st, L, s, w, n, m, k, F, G, rfl, A, g2, fun H2 _ A2 => ⟨true, rfl, iteF' rfl ?_⟩⟩
        exact ⟨.ref st, rfl, .ref w, rfl, .ref s, rfl, st, L, s, w, n, m, k, F, G, rfl, A2, g2, by omega, fun H3 m' F' G' A' g' => ⟨true, rfl, iteF' rfl ⟨⟨_, rfl⟩, m', F', G', A', g'⟩⟩⟩
      · obtain ⟨⟨x5, rfl⟩, m, F, G, A, g2⟩ := hP
        refine ⟨.int (n : Int), rfl, (n : Int), rfl, by omega, by omega, ?_⟩
        refine for_range (lo := 0) (n := ((n : Nat) : Int).toNat) (fun i σ H' => (∃ x6, σ = [some (.ref sc), some (.ref st), some (.int (n : Int)), some (.ref s), some (.ref w), x5, x6]) ∧ Same Hi H') ⟨⟨none, rfl⟩, fun _ _ h => h⟩ (fun i σ H' hi hP => ?_) (fun σ H' hP => ?_)
        · obtain ⟨⟨x6, rfl⟩, sm⟩ := hP
          have hin : i < n := hi
          have e0 : (0 : Int) + (i : Int) = ((i : Nat) : Int) := Int.zero_add _
          have Ai := A.same sm
          have Di := Ai.dk
          obtain ⟨dx, Sy, Wr, Wa, xs, ys, zs, b, eF⟩ := id Di
          have lnn : m.sy.length = n := by
            obtain ⟨_, _, _, _, _, wb, _⟩ := Ai.wd
            exact wb.nn
          obtain ⟨d, ed⟩ : ∃ d, m.wr[i]? = some d := ⟨_, List.getElem?_eq_getElem (by rw [b.fit.len, lnn]; exact hin)⟩
          have l64 := b.fit.w64 d (List.mem_of_getElem? ed)
          refine ⟨.ref s, rfl, s, dx, _, rfl, b.hs, rfl, .int (0 + i), rfl, s, m, F, i, d, (by show [V.ref s, V.int (0 + (i : Int))] = [V.ref s, V.int (i : Int)]; rw [e0]), Di, ed, fun p Hj sa na ea => ?_⟩
          have Aj := Ai.same sa
          refine ⟨.ref w, rfl, .int (0 + i), rfl, w, n, m, v.toNat, G, i, d, (by show [V.ref w, V.int (0 + (i : Int))] = [V.ref w, V.int (i : Int)]; rw [e0]), Aj.wd, by rw [← g2.link]; exact ed, fun x Hk sb' il => ?_⟩
          refine ⟨_, _, .lst (sb' _ _ ea) (dls_ints d), il.dl, Nat.le_trans (depth_ints d) (by decide), _, rfl, iteF' ?_ ⟨⟨_, rfl⟩, sm.trans (sa.trans sb')⟩⟩
          show (!PyData.eqv (.list (intsD d)) (.list (intsD d))) = false
          rw [eqv_il, decide_eq_true rfl]
          rfl
        · obtain ⟨⟨x6, rfl⟩, sm⟩ := hP
          have Ai := A.same sm
          exact ⟨.ref st, rfl, .ref w, rfl, .ref s, rfl, st, L, s, w, n, m, v.toNat, F, G, rfl, Ai, g2, fun H'' _ _ => q H''⟩
end
end MK

namespace MK
open PySem PySem.Spec PyProof.Rows L2 KA
/-- a method of the class -/
def MethAt (K : PySem.W.Frag) (C : Addr) (x q : Str) (st : Stmt) : Prop :=
  ∃ (f : Addr) (od an : Option Addr) (sl : Array (Option Value)) (oc kV dc pm cd ct : Value),
    PySem.W.findIn K (.ref C) x = some (some (.ref f)) ∧ PySem.W.isFn K (.ref f) = true ∧ K.lookup f = some ⟨oc, od, .func (PySem.W.fnOf x q (defArgs st) (defBody st) (defScope st) .none kV dc pm an cd ct), sl⟩ ∧
    PySem.W.codeIn K cd q = true ∧ PySem.W.keepIn K (.ref f) = true
theorem methAt {K : PySem.W.Frag} {C : Addr} {x q : Str} {st : Stmt} {f : Addr} {od an : Option Addr} {sl : Array (Option Value)} {oc kV dc pm cd ct : Value} (a : PySem.W.findIn K (.ref C) x = some (some (.ref f))) (i : PySem.W.isFn K (.ref f) = true)
    (l : K.lookup f = some ⟨oc, od, .func (PySem.W.fnOf x q (defArgs st) (defBody st) (defScope st) .none kV dc pm an cd ct), sl⟩) (c : PySem.W.codeIn K cd q = true) (k : PySem.W.keepIn K (.ref f) = true) : MethAt K C x q st :=
  ⟨f, od, an, sl, oc, kV, dc, pm, cd, ct, a, i, l, c, k⟩
/-- an error of the class at S is what «except R» names -/
theorem exm_at {K : PySem.W.Frag} {S R : Addr} (h1 : PySem.W.subIn K (.ref R) (.type "BaseException") = some true) (h2 : PySem.W.isClsIn K R = true) (h3 : PySem.W.typeIn K (.ref R) = some (.type "type")) (h4 : PySem.W.subIn K (.ref S) (.ref R) = some true) :
    PySem.W.exmOne K (.ref S) (.ref R) = some true := by
  have e1 : (PySem.W.subIn K (.ref R) (.type "BaseException") == some true) = true := by rw [h1] <;> rfl
  have e2 : ((PySem.W.clsIn K R).isSome && PySem.W.typeIn K (.ref R) == some (.type "type")) = true := by
    have h2' : (PySem.W.clsIn K R).isSome = true := h2
    rw [h2', h3] <;> rfl
  show (if (PySem.W.subIn K (.ref R) (.type "BaseException") == some true) = true then (if ((PySem.W.clsIn K R).isSome && PySem.W.typeIn K (.ref R) == some (.type "type")) = true then PySem.W.subIn K (.ref S) (.ref R) else none) else none) = some true
  rw [if_pos e1, if_pos e2]
  exact h4
section
variable {P0 : Program} {w : World} {K : PySem.W.Frag} {mg : Str → Option Value} {base h : Heap} {C P R I : Addr}
/-- a def of the text stands behind the top under its name -/
def DefAt (K : PySem.W.Frag) (x : Str) (st : Stmt) : Prop :=
  ∃ (f : Addr) (od an : Option Addr) (sl : Array (Option Value)) (oc kV dc pm cd ct : Value),
    PySem.W.nsIn K mainGlobals x = some (some (.ref f)) ∧ K.lookup f = some ⟨oc, od, .func (PySem.W.fnOf x x (defArgs st) (defBody st) (defScope st) .none kV dc pm an cd ct), sl⟩ ∧
    PySem.W.codeIn K cd x = true ∧ PySem.W.keepIn K (.ref f) = true
theorem defAt {K : PySem.W.Frag} {x : Str} {st : Stmt} {f : Addr} {od an : Option Addr} {sl : Array (Option Value)} {oc kV dc pm cd ct : Value} (a : PySem.W.nsIn K mainGlobals x = some (some (.ref f)))
    (l : K.lookup f = some ⟨oc, od, .func (PySem.W.fnOf x x (defArgs st) (defBody st) (defScope st) .none kV dc pm an cd ct), sl⟩) (c : PySem.W.codeIn K cd x = true) (k : PySem.W.keepIn K (.ref f) = true) : DefAt K x st :=
  ⟨f, od, an, sl, oc, kV, dc, pm, cd, ct, a, l, c, k⟩
theorem mk_def {x : Str} {st : Stmt} {ps : List Str} {sp : Sp} {k : Nat} (T : DefAt K x st) (X : K.In h) (G : h.Ns mainGlobals mg)
    (bind : ∀ (kV doc pm : Value) (an : Option Addr) (cdv ct : Value) (us : List Value), us.length = ps.length → bindArgs (PySem.W.fnOf x x (defArgs st) (defBody st) (defScope st) .none kV doc pm an cdv ct) ⟨us, []⟩ = pure (ps.zip us))
    (ok : ∀ (f : Addr) (fd : FuncData), Fun K x x st f fd → FnOk P0 w K mg base CX0 k f fd ps sp) : Def P0 w K mg base x k ps sp := by
  obtain ⟨f, od, an, sl, oc, kV, dc, pm, cd, ct, a, l, c, kp⟩ := T
  have F := fun_mk l c kp
  exact ⟨f, _, ok f _ F, PySem.W.mg_of X G a, kp, F.binds bind⟩
/-- a whole number of the top -/
def ConAt (K : PySem.W.Frag) (x : Str) (i : Int) : Prop := ∃ t, PySem.W.nsIn K mainGlobals x = some (some (.int i t))
theorem conAt {K : PySem.W.Frag} {x : Str} {i : Int} {t : Tok} (a : PySem.W.nsIn K mainGlobals x = some (some (.int i t))) : ConAt K x i := ⟨t, a⟩
theorem mk_con {x : Str} {i : Int} (T : ConAt K x i) (X : K.In h) (G : h.Ns mainGlobals mg) : ∃ t, mg x = some (.int i t) := by
  obtain ⟨t, a⟩ := T
  exact ⟨t, PySem.W.mg_of X G a⟩
theorem mk_meth {x q : Str} {st : Stmt} {ps : List Str} {sp : Sp} {k : Nat} (T : MethAt K C x q st)
    (bind : ∀ (kV doc pm : Value) (an : Option Addr) (cdv ct : Value) (us : List Value), us.length = ps.length → bindArgs (PySem.W.fnOf x q (defArgs st) (defBody st) (defScope st) .none kV doc pm an cdv ct) ⟨us, []⟩ = pure (ps.zip us))
    (ok : ∀ (f : Addr) (fd : FuncData), Fun K x q st f fd → FnOk P0 w K mg base CX0 k f fd ps sp) : MDef P0 w K mg base C x k ps sp := by
  obtain ⟨f, od, an, sl, oc, kV, dc, pm, cd, ct, a, i, l, c, kp⟩ := T
  have F := fun_mk l c kp
  exact ⟨f, _, ok f _ F, ⟨a, i, kp⟩, F.binds bind⟩
theorem mk_methX {x q : Str} {st : Stmt} {ps : List Str} {sp : Sp} {k : Nat} (T : MethAt K C x q st)
    (bind : ∀ (kV doc pm : Value) (an : Option Addr) (cdv ct : Value) (us : List Value), us.length = ps.length → bindArgs (PySem.W.fnOf x q (defArgs st) (defBody st) (defScope st) .none kV doc pm an cdv ct) ⟨us, []⟩ = pure (ps.zip us))
    (ok : ∀ (f : Addr) (fd : FuncData), Fun K x q st f fd → FnOk P0 w K mg base (L2.CX P0 w) k f fd ps sp) : MDefX P0 w K mg base C x k ps sp := by
  obtain ⟨f, od, an, sl, oc, kV, dc, pm, cd, ct, a, i, l, c, kp⟩ := T
  have F := fun_mk l c kp
  exact ⟨f, _, ok f _ F, ⟨a, i, kp⟩, F.binds bind⟩
theorem mk_make (T : MethAt K C "__init__" "Disk.__init__" sMIn) (m : PySem.W.makesIn K C = true) (kc : PySem.W.keepIn K (.ref C) = true) (B : Bt mg) (CC : Cd K mg C P R I) : MkD P0 w K mg base C I := by
  obtain ⟨f, od, an, sl, oc, kV, dc, pm, cd, ct, a, i, l, c, kp⟩ := T
  have F := fun_mk l c kp
  exact ⟨f, _, ⟨m, a, i, kc⟩, ok_minB F B CC, ok_minG F B CC, F.binds (ps := ["self", "sectors"]) fun _ _ _ _ _ _ us hl => match us, hl with | [_, _], _ => rfl⟩
/-- what the top has written, and the built-in names that it has not -/
structure Top (K : PySem.W.Frag) (C P R I : Addr) : Prop where
  cC : PySem.W.nsIn K mainGlobals "Disk" = some (some (.ref C))
  cP : PySem.W.nsIn K mainGlobals "PowerOff" = some (some (.ref P))
  cI : PySem.W.nsIn K mainGlobals "InvalidArgument" = some (some (.ref I))
  cR : PySem.W.nsIn K mainGlobals "RuleError" = some (some (.ref R))
  c60 : ConAt K "LEAST_SECTORS" 60
  c400 : ConAt K "MOST_SECTORS" 400
  c64 : ConAt K "SECTOR_BYTES" 64
  d_next : DefAt K "_law_next" sNext
  d_sm : DefAt K "_law_same" sSM
  d_rf : DefAt K "_law_refused" sLRf
  d_op : DefAt K "_law_operate" sLOp
  d_wr : DefAt K "_law_write" sLWr
  d_sy : DefAt K "_law_sync" sLSy
  d_fa : DefAt K "_law_fail" sLFa
  d_pw : DefAt K "_law_power" sLPw
  d_de : DefAt K "_law_deed" sLDe
  d_se : DefAt K "_law_sector" sLSe
  d_is_ : DefAt K "_law_is_right" sLIs
  d_law : DefAt K "law" sLaw
  mIn : MethAt K C "__init__" "Disk.__init__" sMIn
  mSz : MethAt K C "size" "Disk.size" sMSz
  mRe : MethAt K C "read" "Disk.read" sMRe
  mPe : MethAt K C "pending" "Disk.pending" sMPe
  mCn : MethAt K C "counts" "Disk.counts" sMCn
  mOn : MethAt K C "is_on" "Disk.is_on" sMOn
  mLo : MethAt K C "losses" "Disk.losses" sMLo
  mWr : MethAt K C "write" "Disk.write" sMWr
  mSy : MethAt K C "sync" "Disk.sync" sMSy
  mFA : MethAt K C "fail_after" "Disk.fail_after" sMFA
  mPw : MethAt K C "power" "Disk.power" sMPw
  mBO : MethAt K C "_begin_operation" "Disk._begin_operation" sMBO
  mFl : MethAt K C "_fail" "Disk._fail" sMFl
  mSt : MethAt K C "_settle" "Disk._settle" sMSt
  pg : PySem.W.plainGet K C Str.empty = true
  hd : PySem.W.hasDictIn K C = true
  pv : PySem.W.plainOver K C = true
  sat : PySem.W.findIn K (.ref C) "__setattr__" = some (some (.builtin "object.__setattr__"))
  mk_ : PySem.W.makesIn K C = true
  kc : PySem.W.keepIn K (.ref C) = true
  nIU : PySem.W.findIn K (.ref C) "in_use" = some none
  nSy : PySem.W.findIn K (.ref C) "synced" = some none
  nWr : PySem.W.findIn K (.ref C) "written" = some none
  nWa : PySem.W.findIn K (.ref C) "waiting" = some none
  nWs : PySem.W.findIn K (.ref C) "writes" = some none
  nSs : PySem.W.findIn K (.ref C) "syncs" = some none
  nFa : PySem.W.findIn K (.ref C) "failures" = some none
  nOn : PySem.W.findIn K (.ref C) "on" = some none
  nAl : PySem.W.findIn K (.ref C) "allowed" = some none
  xP : PySem.W.excIn K P [.type "ValueError", .type "Exception", .type "BaseException", .type "object"] "ValueError.__new__" = true
  kP : PySem.W.keepIn K (.ref P) = true
  bP : PySem.W.subIn K (.ref P) (.type "BaseException") = some true
  tP : PySem.W.typeIn K (.ref P) = some (.type "type")
  xI : PySem.W.excIn K I [.type "ValueError", .type "Exception", .type "BaseException", .type "object"] "ValueError.__new__" = true
  kI : PySem.W.keepIn K (.ref I) = true
  bI : PySem.W.subIn K (.ref I) (.type "BaseException") = some true
  tI : PySem.W.typeIn K (.ref I) = some (.type "type")
  hP : PySem.W.isClsIn K P = true
  sP : PySem.W.subIn K (.ref P) (.ref P) = some true
  hR : PySem.W.isClsIn K R = true
  bR : PySem.W.subIn K (.ref R) (.type "BaseException") = some true
  tR : PySem.W.typeIn K (.ref R) = some (.type "type")
  sI : PySem.W.subIn K (.ref I) (.ref R) = some true
  i_hg : PySem.W.findIn K (.ref I) "__getattribute__" = some (some (.builtin "BaseException.__getattribute__"))
  i_hk : PySem.W.findIn K (.ref I) "__getattr__" = some none
  i_hd : PySem.W.hasDictIn K I = true
  i_ha : PySem.W.findIn K (.ref I) "__class__" = some (some (.builtin "object.__class__"))
  i_hn : PySem.W.specialIn K (.builtin "object.__class__") "__get__" = some (some (.builtin "getset_descriptor.__get__"))
  i_ht : PySem.W.takesIn K (.builtin "object.__class__") = some true
  i_hm : PySem.W.mroIn K I (.type "object") = some true
  i1 : PySem.W.kitOne K (.ref I) (.ref I) = some true
  i2 : PySem.W.kitOne K (.ref I) (.type "ValueError") = some true
  z_len : PySem.W.nsIn K mainGlobals "len" = some none
  z_int : PySem.W.nsIn K mainGlobals "int" = some none
  z_isinstance : PySem.W.nsIn K mainGlobals "isinstance" = some none
  z_bool : PySem.W.nsIn K mainGlobals "bool" = some none
  z_str : PySem.W.nsIn K mainGlobals "str" = some none
  z_tuple : PySem.W.nsIn K mainGlobals "tuple" = some none
  z_list : PySem.W.nsIn K mainGlobals "list" = some none
  z_range : PySem.W.nsIn K mainGlobals "range" = some none
  z_min : PySem.W.nsIn K mainGlobals "min" = some none
  z_zip : PySem.W.nsIn K mainGlobals "zip" = some none
  z_ValueError : PySem.W.nsIn K mainGlobals "ValueError" = some none
theorem Top.bt (T : Top K C P R I) (X : K.In h) (G : h.Ns mainGlobals mg) : Bt mg :=
  ⟨PySem.W.mg_none_of X G T.z_len, PySem.W.mg_none_of X G T.z_int, PySem.W.mg_none_of X G T.z_isinstance, PySem.W.mg_none_of X G T.z_bool, PySem.W.mg_none_of X G T.z_str, PySem.W.mg_none_of X G T.z_tuple, PySem.W.mg_none_of X G T.z_list, PySem.W.mg_none_of X G T.z_range, PySem.W.mg_none_of X G T.z_min, PySem.W.mg_none_of X G T.z_zip⟩
theorem Top.cd (T : Top K C P R I) (X : K.In h) (G : h.Ns mainGlobals mg) : Cd K mg C P R I :=
  { cl := ⟨T.pg, T.hd, T.pv, T.sat⟩, nIU := T.nIU, nSy := T.nSy, nWr := T.nWr, nWa := T.nWa, nWs := T.nWs, nSs := T.nSs, nFa := T.nFa, nOn := T.nOn, nAl := T.nAl,
    mgC := PySem.W.mg_of X G T.cC, c60 := mk_con T.c60 X G, c400 := mk_con T.c400 X G, c64 := mk_con T.c64 X G,
    gP := PySem.W.mg_of X G T.cP, xP := T.xP, kP := T.kP, bP := T.bP, tP := T.tP, gI := PySem.W.mg_of X G T.cI, xI := T.xI, kI := T.kI, bI := T.bI, tI := T.tI, gR := PySem.W.mg_of X G T.cR,
    eP := exm_at T.bP T.hP T.tP T.sP, eI := exm_at T.bR T.hR T.tR T.sI, iI := ⟨T.i_hg, T.i_hk, T.bI, T.i_hd, T.i_ha, T.i_hn, T.i_ht, T.i_hm⟩, i1 := T.i1, i2 := T.i2, gV := PySem.W.mg_none_of X G T.z_ValueError }
theorem all_mk {l : PySem.W.OpenLaw} {fa : Addr} (T : Top K C P R I) (X : K.In h) (G : h.Ns mainGlobals mg) (hfa : mg "law" = some (.ref fa)) :
    ∃ fd : FuncData, (∀ (s : Shared) (v : Value), BindsTo s fd ⟨[v], []⟩ [("script", v)]) ∧ ∀ base : Heap, K.In base → base.Ns mainGlobals mg → FnOk l.prog w K mg base CX0 7 fa fd ["script"] (spLaw K) := by
  obtain ⟨f, od, an, sl, oc, kV, dc, pm, cd, ct, a, lk, c, kp⟩ := T.d_law
  have e := hfa.symm.trans (PySem.W.mg_of X G a)
  cases e
  have F := fun_mk lk c kp
  refine ⟨PySem.W.fnOf "law" "law" (defArgs sLaw) (defBody sLaw) (defScope sLaw) .none kV dc pm an cd ct, fun s v => .of_eq rfl, fun base _ _ => ?_⟩
  have B := T.bt X G
  have CC := T.cd X G
  have mFl : mMFl l.prog w K mg base C := mk_meth T.mFl (fun _ _ _ _ _ _ us hl => match us, hl with | [_], _ => rfl) fun f fd F => ok_mfl F CC
  have mSt : mMSt l.prog w K mg base C := mk_meth T.mSt (fun _ _ _ _ _ _ us hl => match us, hl with | [_, _], _ => rfl) fun f fd F => ok_mst F B CC
  have mBO : mMBO l.prog w K mg base C P := mk_methX T.mBO (fun _ _ _ _ _ _ us hl => match us, hl with | [_], _ => rfl) fun f fd F => ok_mbo F CC mFl
  have MM : Ms l.prog w K mg base C P := ⟨mk_meth T.mSz (fun _ _ _ _ _ _ us hl => match us, hl with | [_], _ => rfl) fun f fd F => ok_msz F B CC,
    mk_meth T.mRe (fun _ _ _ _ _ _ us hl => match us, hl with | [_, _], _ => rfl) fun f fd F => ok_mre F B CC,
    mk_meth T.mPe (fun _ _ _ _ _ _ us hl => match us, hl with | [_], _ => rfl) fun f fd F => ok_mpe F B CC,
    mk_meth T.mCn (fun _ _ _ _ _ _ us hl => match us, hl with | [_], _ => rfl) fun f fd F => ok_mcn F CC,
    mk_meth T.mOn (fun _ _ _ _ _ _ us hl => match us, hl with | [_], _ => rfl) fun f fd F => ok_mon F CC,
    mk_meth T.mLo (fun _ _ _ _ _ _ us hl => match us, hl with | [_], _ => rfl) fun f fd F => ok_mlo F CC,
    mk_methX T.mWr (fun _ _ _ _ _ _ us hl => match us, hl with | [_, _, _], _ => rfl) fun f fd F => ok_mwr F B CC mBO,
    mk_methX T.mSy (fun _ _ _ _ _ _ us hl => match us, hl with | [_], _ => rfl) fun f fd F => ok_msy F CC mBO mSt,
    mk_methX T.mFA (fun _ _ _ _ _ _ us hl => match us, hl with | [_, _], _ => rfl) fun f fd F => ok_mfa F CC,
    mk_meth T.mPw (fun _ _ _ _ _ _ us hl => match us, hl with | [_, _], _ => rfl) fun f fd F => ok_mpw F B CC mFl mSt⟩
  have MD : MkD l.prog w K mg base C I := mk_make T.mIn T.mk_ T.kc B CC
  have N : dNext l.prog w K mg base := mk_def T.d_next X G (fun _ _ _ _ _ _ us hl => match us, hl with | [_, _], _ => rfl) fun f fd F => ok_next F B
  have S0 : Def l.prog w K mg base "_law_same" 1 ["actual", "expected"] (spSQ 0) := mk_def T.d_sm X G (fun _ _ _ _ _ _ us hl => match us, hl with | [_, _], _ => rfl) fun f fd F => ok_sq F B 0 (.inl rfl)
  have Sn : ∀ n, Def l.prog w K mg base "_law_same" (n + 1) ["actual", "expected"] (spSQ n) := fun n => by
    induction n with
    | zero => exact S0
    | succ n ih => exact mk_def T.d_sm X G (fun _ _ _ _ _ _ us hl => match us, hl with | [_, _], _ => rfl) fun f fd F => ok_sq F B (n + 1) (.inr ⟨n, rfl, ih⟩)
  have SM : dSQ l.prog w K mg base := Sn 4
  have RF : dLRf l.prog w K mg base := mk_def T.d_rf X G (fun _ _ _ _ _ _ us hl => match us, hl with | [_], _ => rfl) fun f fd F => ok_lrf F B CC MD
  have OP : dLOp l.prog w K mg base := mk_def T.d_op X G (fun _ _ _ _ _ _ us hl => match us, hl with | [_], _ => rfl) fun f fd F => ok_lop F
  have SE : dLSe l.prog w K mg base := mk_def T.d_se X G (fun _ _ _ _ _ _ us hl => match us, hl with | [_, _], _ => rfl) fun f fd F => ok_lse F
  have WR : dLWr l.prog w K mg base C := mk_def T.d_wr X G (fun _ _ _ _ _ _ us hl => match us, hl with | [_, _, _], _ => rfl) fun f fd F => ok_lwr F B CC MM N OP
  have SY : dLSy l.prog w K mg base C := mk_def T.d_sy X G (fun _ _ _ _ _ _ us hl => match us, hl with | [_, _], _ => rfl) fun f fd F => ok_lsy F B CC MM OP
  have FA : dLFa l.prog w K mg base C := mk_def T.d_fa X G (fun _ _ _ _ _ _ us hl => match us, hl with | [_, _, _], _ => rfl) fun f fd F => ok_lfa F B CC MM N
  have PW : dLPw l.prog w K mg base C := mk_def T.d_pw X G (fun _ _ _ _ _ _ us hl => match us, hl with | [_, _, _], _ => rfl) fun f fd F => ok_lpw F B CC MM N
  have DE : dLDe l.prog w K mg base C := mk_def T.d_de X G (fun _ _ _ _ _ _ us hl => match us, hl with | [_, _, _], _ => rfl) fun f fd F => ok_lde F B CC N WR SY FA PW
  have IS : dLIs l.prog w K mg base C := mk_def T.d_is_ X G (fun _ _ _ _ _ _ us hl => match us, hl with | [_, _, _], _ => rfl) fun f fd F => ok_lis F B CC MM N SE SM
  exact ok_law F B CC MM MD N RF IS DE SE
end
end MK

open PySem PySem.W PyProof.Rows
set_option maxHeartbeats 0 in
theorem PySem.Challenge.cw_rulestead_k06_disk_keeps_what_was_synced_holds : PySem.Challenge.rw_rulestead_k06_disk_keeps_what_was_synced.Holds := by
  w_on; o_law; k_head; (case hw => w_witness2)
  k_fill
  refine L2.walk_of (l := PySem.Challenge.rw_rulestead_k06_disk_keeps_what_was_synced) (n := 63) (k := 7) (x := "script") (CX := fun _ => L2.CX0) (sp := fun w => MK.spLaw _) rfl (by decide) rfl ⟨rfl, by decide, by decide⟩ (fun w h Y => PySem.W.kIn_of Y) ?F (fun _ _ a ns hl _ hS => ⟨a, ns, rfl, hS, hl, fun _ => rfl⟩) (fun _ _ _ _ _ h => h)
  case F =>
    intro w mg fa h KX G hmg
    refine' MK.all_mk ?T KX G hmg
    case T =>
      constructor
      all_goals first
        | k_is
        | k_exc
        | (refine' MK.defAt ?a ?l ?c ?k; (case a => k_is); (case l => k_is); (case c => k_is); (case k => k_is))
        | (refine' MK.methAt ?a ?i ?l ?c ?k; (case a => k_is); (case i => k_is); (case l => k_is); (case c => k_is); (case k => k_is))
        | (refine' MK.conAt ?a; (case a => k_is))
        | kit_is
        | rfl
