import PyProof.Rows.All
import Wide.All
import OpenK.AllK
import Wide.FinOn
import Open.SpecLaws
import KE.OsGo
import HandS.ForSpec
import HandS.Comp
import HandS.CallLocal
import HandS.Evl
import PySem.Challenge.RW_shipmuster_s01_answers
set_option Elab.async false
set_option linter.all false
set_option maxRecDepth 100000
set_option maxHeartbeats 4000000
namespace Sm
open Km441

/-- how many whole numbers stand behind the station; whether a row does -/
def wn (p : Nat) : Nat := [1, 1, 0, 1, 0, 0, 1, 0, 0, 1, 2, 1, 1, 0, 0, 0, 0].getD p 0
def rn (p : Nat) : Nat := [0, 0, 0, 0, 0, 1, 0, 0, 0, 0, 0, 0, 0, 1, 0, 0, 0].getD p 0
/-- how many numbers stand behind the station, with the row's length -/
def xn (p : Nat) : Nat := wn p + 23 * rn p
def mkCall (p : Nat) (xs : List Nat) : Km441.Call := match p with
  | 0 => .start (xs.getD 0 0)
  | 1 => .minutes (xs.getD 0 0)
  | 2 => .drill
  | 3 => .in_ (xs.getD 0 0)
  | 4 => .tell
  | 5 => .hear (xs.drop 1)
  | 6 => .where_ (xs.getD 0 0)
  | 7 => .count
  | 8 => .missing
  | 9 => .at_ (xs.getD 0 0)
  | 10 => .sure (xs.getD 0 0) (xs.getD 1 0)
  | 11 => .news (xs.getD 0 0)
  | 12 => .soonest (xs.getD 0 0)
  | 13 => .new_ (xs.drop 1)
  | 14 => .last
  | 15 => .drillNow
  | _ => .state
/-- numbers as whole numbers -/
def castL (xs : List Nat) : List Int := xs.map fun (x : Nat) => (x : Int)
theorem ints_of : ∀ {l : List Int}, (∀ z ∈ l, 0 ≤ z) → l = castL (l.map Int.toNat)
  | [], _ => rfl
  | z :: r, h => by
    have h0 : 0 ≤ z := h z (List.mem_cons_self ..)
    have ih := ints_of (l := r) fun y hy => h y (List.mem_cons_of_mem _ hy)
    show z :: r = ((z.toNat : Nat) : Int) :: castL (r.map Int.toNat)
    rw [← ih, Int.toNat_of_nonneg h0]
theorem ints_length (xs : List Nat) : (castL xs).length = xs.length := List.length_map ..

/-- what is to be known of the first call -/
structure First (l : List Int) (cs : List (List (List Int))) (p k : Nat) (xs : List Nat) (t : List Int) (f' : Nat) (cs' : List (List (List Int))) : Prop where
  eq : l = (p : Int) :: (k : Int) :: (castL xs ++ t)
  hp : p ≤ 16
  hk : k ≤ 2
  len : xs.length = xn p
  row : rn p = 1 → xs.getD 0 0 = 22
  step : ∃ c, cs = c :: cs' ∧ ∀ S, Km441Neutral.step S (PyKm441.whole c) = Km441Neutral.step0 S k (mkCall p xs)
  rest : PyFlat.calls PyKm441.shape f' t = some cs'
  bnd : PyInside.calls PyKm441.bound cs' = true

theorem call0 {q : Int} {n : Nat} {r : List Int} (h : PyKm441.shape q = some (n, 0)) : PyFlat.call PyKm441.shape (q :: r) = if r.length < n then none else some ([q :: r.take n], r.drop n) := by
  unfold PyFlat.call
  simp only [h]
  by_cases c : r.length < n
  · rw [if_pos c, if_pos c]
  · rw [if_neg c, if_neg c]
    rfl
theorem call1 {q : Int} {n : Nat} {r : List Int} (h : PyKm441.shape q = some (n, 1)) : PyFlat.call PyKm441.shape (q :: r) = if r.length < n then none else match PyFlat.row (r.drop n) with
    | none => none
    | some (x, s) => some ([q :: r.take n, x], s) := by
  unfold PyFlat.call
  simp only [h]
  by_cases c : r.length < n
  · rw [if_pos c, if_pos c]
  · rw [if_neg c, if_neg c]
    unfold PyFlat.rows
    cases PyFlat.row (r.drop n) with
    | none => rfl
    | some y => rfl
theorem calls_cons {f : Nat} {q : Int} {r : List Int} {cs : List (List (List Int))} (h : PyFlat.calls PyKm441.shape f (q :: r) = some cs) : ∃ f' c t cs', f = f' + 1 ∧ PyFlat.call PyKm441.shape (q :: r) = some (c, t) ∧ PyFlat.calls PyKm441.shape f' t = some cs' ∧ cs = c :: cs' := by
  cases f with
  | zero => exact absurd h (by simp [PyFlat.calls])
  | succ f' =>
    rw [PyFlat.calls] at h
    cases e : PyFlat.call PyKm441.shape (q :: r) with
    | none => rw [e] at h; cases h
    | some y =>
      obtain ⟨c, t⟩ := y
      rw [e] at h
      simp only at h
      cases e2 : PyFlat.calls PyKm441.shape f' t with
      | none => rw [e2] at h; cases h
      | some cs' =>
        rw [e2] at h
        exact ⟨f', c, t, cs', rfl, rfl, e2, (Option.some.inj h).symm⟩
theorem bound_cons {c : List (List Int)} {cs : List (List (List Int))} (h : PyInside.calls PyKm441.bound (c :: cs) = true) : PyInside.call PyKm441.bound c = true ∧ PyInside.calls PyKm441.bound cs = true := by
  simpa [PyInside.calls] using h
theorem within_iff {lo hi z : Int} : PyInside.within lo hi z = true ↔ lo ≤ z ∧ z ≤ hi := by
  simp [PyInside.within]

section
variable {f f' : Nat} {r t : List Int} {c : List (List Int)} {cs' : List (List (List Int))}
/-- a call with its station alone -/
theorem first1 {p : Nat} {q : Int} (hq : q = (p : Int)) (hp : p ≤ 16) (hs : PyKm441.shape q = some (1, 0)) (hb : (PyKm441.bound q).1 = [(0, 2)]) (hx : xn p = 0) (hr : rn p = 0)
    (hw : ∀ (k : Nat) (S : Km441Neutral.S), Km441Neutral.step S (PyKm441.whole [[q, (k : Int)]]) = Km441Neutral.step0 S k (mkCall p []))
    (e : PyFlat.call PyKm441.shape (q :: r) = some (c, t)) (e2 : PyFlat.calls PyKm441.shape f' t = some cs') (b : PyInside.calls PyKm441.bound (c :: cs') = true) :
    ∃ k xs, First (q :: r) (c :: cs') p k xs t f' cs' := by
  rw [call0 hs] at e
  obtain ⟨b1, b2⟩ := bound_cons b
  match r, e with
  | [], e => simp at e
  | k :: r', e =>
    rw [if_neg (by simp)] at e
    simp only [List.take_succ_cons, List.take_zero, List.drop_succ_cons, List.drop_zero, Option.some.injEq, Prod.mk.injEq] at e
    obtain ⟨rfl, rfl⟩ := e
    simp only [PyInside.call, hb, PyInside.each, Bool.and_true, Bool.and_eq_true, within_iff] at b1
    obtain ⟨⟨h0, h2⟩, _⟩ := b1
    obtain ⟨k', rfl⟩ := Int.eq_ofNat_of_zero_le h0
    refine ⟨k', [], ⟨?_, hp, by omega, by rw [hx]; rfl, fun h => absurd h (by omega), ⟨_, rfl, fun S => hw k' S⟩, e2, b2⟩⟩
    rw [hq]
    rfl
/-- .. with one number -/
theorem first2 {p : Nat} {q : Int} (hq : q = (p : Int)) (hp : p ≤ 16) (hs : PyKm441.shape q = some (2, 0)) (hb : (PyKm441.bound q).1 = [(0, 2), (0, 4294967295)]) (hx : xn p = 1) (hr : rn p = 0)
    (hw : ∀ (k x : Nat) (S : Km441Neutral.S), Km441Neutral.step S (PyKm441.whole [[q, (k : Int), (x : Int)]]) = Km441Neutral.step0 S k (mkCall p [x]))
    (e : PyFlat.call PyKm441.shape (q :: r) = some (c, t)) (e2 : PyFlat.calls PyKm441.shape f' t = some cs') (b : PyInside.calls PyKm441.bound (c :: cs') = true) :
    ∃ k xs, First (q :: r) (c :: cs') p k xs t f' cs' := by
  rw [call0 hs] at e
  obtain ⟨b1, b2⟩ := bound_cons b
  match r, e with
  | [], e => simp at e
  | [_], e => simp at e
  | k :: x :: r', e =>
    rw [if_neg (by simp)] at e
    simp only [List.take_succ_cons, List.take_zero, List.drop_succ_cons, List.drop_zero, Option.some.injEq, Prod.mk.injEq] at e
    obtain ⟨rfl, rfl⟩ := e
    simp only [PyInside.call, hb, PyInside.each, Bool.and_true, Bool.and_eq_true, within_iff] at b1
    obtain ⟨⟨⟨h0, h2⟩, ⟨h3, h4⟩⟩, _⟩ := b1
    obtain ⟨k', rfl⟩ := Int.eq_ofNat_of_zero_le h0
    obtain ⟨x', rfl⟩ := Int.eq_ofNat_of_zero_le h3
    refine ⟨k', [x'], ⟨?_, hp, by omega, by rw [hx]; rfl, fun h => absurd h (by omega), ⟨_, rfl, fun S => hw k' x' S⟩, e2, b2⟩⟩
    rw [hq]
    rfl
/-- .. with two numbers -/
theorem first3 {p : Nat} {q : Int} (hq : q = (p : Int)) (hp : p ≤ 16) (hs : PyKm441.shape q = some (3, 0)) (hb : (PyKm441.bound q).1 = [(0, 2), (0, 4294967295), (0, 4294967295)]) (hx : xn p = 2) (hr : rn p = 0)
    (hw : ∀ (k x y : Nat) (S : Km441Neutral.S), Km441Neutral.step S (PyKm441.whole [[q, (k : Int), (x : Int), (y : Int)]]) = Km441Neutral.step0 S k (mkCall p [x, y]))
    (e : PyFlat.call PyKm441.shape (q :: r) = some (c, t)) (e2 : PyFlat.calls PyKm441.shape f' t = some cs') (b : PyInside.calls PyKm441.bound (c :: cs') = true) :
    ∃ k xs, First (q :: r) (c :: cs') p k xs t f' cs' := by
  rw [call0 hs] at e
  obtain ⟨b1, b2⟩ := bound_cons b
  match r, e with
  | [], e => simp at e
  | [_], e => simp at e
  | [_, _], e => simp at e
  | k :: x :: y :: r', e =>
    rw [if_neg (by simp)] at e
    simp only [List.take_succ_cons, List.take_zero, List.drop_succ_cons, List.drop_zero, Option.some.injEq, Prod.mk.injEq] at e
    obtain ⟨rfl, rfl⟩ := e
    simp only [PyInside.call, hb, PyInside.each, Bool.and_true, Bool.and_eq_true, within_iff] at b1
    obtain ⟨⟨⟨h0, h2⟩, ⟨h3, h4⟩, ⟨h5, h6⟩⟩, _⟩ := b1
    obtain ⟨k', rfl⟩ := Int.eq_ofNat_of_zero_le h0
    obtain ⟨x', rfl⟩ := Int.eq_ofNat_of_zero_le h3
    obtain ⟨y', rfl⟩ := Int.eq_ofNat_of_zero_le h5
    refine ⟨k', [x', y'], ⟨?_, hp, by omega, by rw [hx]; rfl, fun h => absurd h (by omega), ⟨_, rfl, fun S => hw k' x' y' S⟩, e2, b2⟩⟩
    rw [hq]
    rfl
/-- .. with a row -/
theorem firstR {p : Nat} {q : Int} (hq : q = (p : Int)) (hp : p ≤ 16) (hs : PyKm441.shape q = some (1, 1)) (hb : PyKm441.bound q = ([(0, 2)], [(0, 4294967295, 22, 22)])) (hx : xn p = 23)
    (hw : ∀ (k : Nat) (m : List Nat) (S : Km441Neutral.S), Km441Neutral.step S (PyKm441.whole [[q, (k : Int)], castL m]) = Km441Neutral.step0 S k (mkCall p (22 :: m)))
    (e : PyFlat.call PyKm441.shape (q :: r) = some (c, t)) (e2 : PyFlat.calls PyKm441.shape f' t = some cs') (b : PyInside.calls PyKm441.bound (c :: cs') = true) :
    ∃ k xs, First (q :: r) (c :: cs') p k xs t f' cs' := by
  rw [call1 hs] at e
  obtain ⟨b1, b2⟩ := bound_cons b
  match r, e with
  | [], e => simp at e
  | [k], e => simp [PyFlat.row] at e
  | k :: n :: r', e =>
    rw [if_neg (by simp)] at e
    simp only [List.take_succ_cons, List.take_zero, List.drop_succ_cons, List.drop_zero, PyFlat.row] at e
    by_cases hn : 0 ≤ n ∧ n.toNat ≤ r'.length
    · rw [if_pos hn] at e
      simp only [Option.some.injEq, Prod.mk.injEq] at e
      obtain ⟨rfl, rfl⟩ := e
      simp only [PyInside.call, hb, PyInside.each, PyInside.lists, Bool.and_true, Bool.and_eq_true, within_iff, decide_eq_true_eq, List.all_eq_true] at b1
      obtain ⟨⟨h0, h2⟩, ⟨⟨h3, h4⟩, h5⟩⟩ := b1
      rw [List.length_take] at h3 h4
      have hn22 : n = 22 := by omega
      subst hn22
      obtain ⟨k', rfl⟩ := Int.eq_ofNat_of_zero_le h0
      have em : r'.take (22 : Int).toNat = castL ((r'.take (22 : Int).toNat).map Int.toNat) := ints_of fun z hz => (h5 z hz).1
      refine ⟨k', 22 :: (r'.take (22 : Int).toNat).map Int.toNat, ⟨?_, hp, by omega, ?_, fun _ => rfl, ⟨_, rfl, fun S => ?_⟩, e2, b2⟩⟩
      · rw [hq]
        show _ :: _ :: (22 : Int) :: r' = _ :: _ :: ((22 : Int) :: castL _) ++ _
        rw [← em]
        simp
      · rw [hx, List.length_cons, List.length_map, List.length_take]
        omega
      · have hh := hw k' ((r'.take (22 : Int).toNat).map Int.toNat) S
        rw [← em] at hh
        exact hh
    · rw [if_neg hn] at e
      cases e
end
theorem shape_some {q : Int} {y : Nat × Nat} (h : PyKm441.shape q = some y) : 0 ≤ q ∧ q ≤ 16 := by
  by_cases c : 0 ≤ q ∧ q ≤ 16
  · exact c
  · exfalso
    unfold PyKm441.shape at h
    repeat (rw [if_neg (by omega)] at h)
    cases h
theorem nats_ints (m : List Nat) : Km441Neutral.nats (castL m) = m := by
  unfold Km441Neutral.nats castL
  rw [List.map_map]
  exact (List.map_congr_left fun x _ => by simp).trans (List.map_id _)
theorem one {l : List Int} {f : Nat} {cs : List (List (List Int))} (h : PyFlat.calls PyKm441.shape f l = some cs) (hne : l ≠ []) (b : PyInside.calls PyKm441.bound cs = true) :
    ∃ p k xs t f' cs', First l cs p k xs t f' cs' := by
  match l, hne, h with
  | q :: r, _, h =>
    obtain ⟨f', c, t, cs', rfl, e, e2, rfl⟩ := calls_cons h
    have hq : 0 ≤ q ∧ q ≤ 16 := by
      cases hs : PyKm441.shape q with
      | none =>
        simp [PyFlat.call, hs] at e
      | some y => exact shape_some hs
    obtain ⟨h0, h16⟩ := hq
    obtain ⟨p, rfl⟩ := Int.eq_ofNat_of_zero_le h0
    have hp : p ≤ 16 := by omega
    suffices hh : ∃ k xs, First ((p : Int) :: r) (c :: cs') p k xs t f' cs' by
      obtain ⟨k, xs, F⟩ := hh
      exact ⟨p, k, xs, t, f', cs', F⟩
    match p, hp with
    | 0, hp => exact first2 rfl hp rfl rfl rfl rfl (fun k x S => rfl) e e2 b
    | 1, hp => exact first2 rfl hp rfl rfl rfl rfl (fun k x S => rfl) e e2 b
    | 2, hp => exact first1 rfl hp rfl rfl rfl rfl (fun k S => rfl) e e2 b
    | 3, hp => exact first2 rfl hp rfl rfl rfl rfl (fun k x S => rfl) e e2 b
    | 4, hp => exact first1 rfl hp rfl rfl rfl rfl (fun k S => rfl) e e2 b
    | 5, hp => exact firstR rfl hp rfl rfl rfl (fun k m S => (congrArg (fun z => Km441Neutral.step0 S k (.hear z)) (nats_ints m))) e e2 b
    | 6, hp => exact first2 rfl hp rfl rfl rfl rfl (fun k x S => rfl) e e2 b
    | 7, hp => exact first1 rfl hp rfl rfl rfl rfl (fun k S => rfl) e e2 b
    | 8, hp => exact first1 rfl hp rfl rfl rfl rfl (fun k S => rfl) e e2 b
    | 9, hp => exact first2 rfl hp rfl rfl rfl rfl (fun k x S => rfl) e e2 b
    | 10, hp => exact first3 rfl hp rfl rfl rfl rfl (fun k x y S => rfl) e e2 b
    | 11, hp => exact first2 rfl hp rfl rfl rfl rfl (fun k x S => rfl) e e2 b
    | 12, hp => exact first2 rfl hp rfl rfl rfl rfl (fun k x S => rfl) e e2 b
    | 13, hp => exact firstR rfl hp rfl rfl rfl (fun k m S => (congrArg (fun z => Km441Neutral.step0 S k (.new_ z)) (nats_ints m))) e e2 b
    | 14, hp => exact first1 rfl hp rfl rfl rfl rfl (fun k S => rfl) e e2 b
    | 15, hp => exact first1 rfl hp rfl rfl rfl rfl (fun k S => rfl) e e2 b
    | 16, hp => exact first1 rfl hp rfl rfl rfl rfl (fun k S => rfl) e e2 b
    | p + 17, hp => exact absurd hp (by omega)
end Sm

namespace Sm
open Km441
/-- what always holds of a station -/
structure WF (s : Station) : Prop where
  me : s.me < 5
  minute : s.minute ≤ 100000
  drill : s.drill ≤ 1000
  seenLen : s.seen.length = 16
  newsLen : s.news.length = 5
  seen : ∀ x ∈ s.seen, x = 0 ∨ (1 ≤ x % 8 ∧ x % 8 ≤ 5 ∧ x / 8 ≤ 100000)
  news : ∀ x ∈ s.news, x ≤ 100000
  heard : s.heard ≤ 100000
/-- the walk's words: where it stands in the list l, what the stations are, what is given so far -/
structure Lp (l : List Int) (place : Nat) (S : Km441Neutral.S) (given : List Int) : Prop where
  le : place ≤ l.length
  len : S.length = 3
  rest : ∃ f cs, PyFlat.calls PyKm441.shape f (l.drop place) = some cs ∧ PyInside.calls PyKm441.bound cs = true ∧ Km441Neutral.may S (cs.map PyKm441.whole) = true ∧
    PyKm441.answers l = given ++ PyFlat.told (PyFlat.played Km441Neutral.step S (cs.map PyKm441.whole)) ∧ given.length + 24 * cs.length ≤ 24000
/-- one answer of a call as it stands in what is given back -/
def row1 (a : List Int) : List Int := (a.length : Int) :: a
theorem inv_start {l : List Int} (h : PyKm441.answers_asked l = true) : Lp l 0 Km441Neutral.start [] := by
  unfold PyKm441.answers_asked at h
  cases e : PyFlat.calls PyKm441.shape l.length l with
  | none => rw [e] at h; cases h
  | some raw =>
    rw [e] at h
    simp only [Bool.and_eq_true] at h
    obtain ⟨⟨⟨⟨_, h1⟩, h2⟩, h3⟩, _⟩ := h
    unfold Km441Neutral.asked at h3
    simp only [Bool.and_eq_true] at h3
    refine ⟨Nat.zero_le _, rfl, l.length, raw, e, h2, h3.2.2.2, ?_, ?_⟩
    · unfold PyKm441.answers PyKm441.calls
      rw [e]
      rfl
    · have := of_decide_eq_true h1
      show 0 + _ ≤ _
      omega
theorem inv_end {l : List Int} {S : Km441Neutral.S} {given : List Int} (I : Lp l l.length S given) : PyKm441.answers l = given := by
  obtain ⟨f, cs, e, _, _, a, _⟩ := I.rest
  rw [List.drop_length] at e
  have : cs = [] := by
    cases f with
    | zero => exact (Option.some.inj e).symm
    | succ f => exact (Option.some.inj e).symm
  subst this
  rw [a]
  simp [PyFlat.played, PyFlat.told]
theorem told_ne (a : Km441.Ans) : (Km441Neutral.told a).isEmpty = false := rfl
/-- what the walk's next turn is -/
structure Next (l : List Int) (place : Nat) (S : Km441Neutral.S) (given : List Int) (p k : Nat) (xs : List Nat) : Prop where
  hp : p ≤ 16
  hk : k < 3
  len : xs.length = xn p
  row : rn p = 1 → xs.getD 0 0 = 22
  at0 : l[place]? = some (p : Int)
  at1 : l[place + 1]? = some (k : Int)
  atx : (l.drop (place + 2)).take (xn p) = castL xs
  fit : place + 2 + xn p ≤ l.length
  go : ∀ m : Station, (∀ s, S.getD k none = some s → s = m) → (Km441Neutral.told (Km441.act m (mkCall p xs)).2).length ≤ 23 →
    ∃ S' : Km441Neutral.S, Lp l (place + 2 + xn p) S' (given ++ row1 (Km441Neutral.told (Km441.act m (mkCall p xs)).2)) ∧
      (∀ s, S'.getD k none = some s → s = (Km441.act m (mkCall p xs)).1) ∧ (∀ i, i ≠ k → S'.getD i none = S.getD i none)
theorem told_append (a : List Int) (r : List (List Int)) : PyFlat.told (a :: r) = row1 a ++ PyFlat.told r := by
  simp [PyFlat.told, row1]
theorem getD_set_self {α : Type} {l : List α} {k : Nat} {x d : α} (h : k < l.length) : (l.set k x).getD k d = x := by
  simp [List.getD, h]
theorem getD_set_ne {α : Type} {l : List α} {k i : Nat} {x d : α} (h : i ≠ k) : (l.set k x).getD i d = l.getD i d := by
  simp [List.getD, List.getElem?_set_ne (Ne.symm h)]
/-- a start answers, and makes, the same of whatever station -/
theorem act_start (s m : Station) (x : Nat) : (Km441.act s (.start x)).2 = (Km441.act m (.start x)).2 ∧ (¬ STATIONS ≤ x → (Km441.act s (.start x)).1 = (Km441.act m (.start x)).1) := by
  unfold Km441.act
  by_cases h : STATIONS ≤ x
  · simp [h]
  · simp [h]
theorem inv_next {l : List Int} {place : Nat} {S : Km441Neutral.S} {given : List Int} (I : Lp l place S given) (hlt : place < l.length) : ∃ p k xs, Next l place S given p k xs := by
  obtain ⟨f, cs, e, b, m, a, sz⟩ := I.rest
  have hne : l.drop place ≠ [] := by
    intro h
    have := congrArg List.length h
    rw [List.length_drop] at this
    simp at this
    omega
  obtain ⟨p, k, xs, t, f', cs', F⟩ := one e hne b
  obtain ⟨c, rfl, hst⟩ := F.step
  have hdl : ∀ i, l[place + i]? = (l.drop place)[i]? := fun i => (List.getElem?_drop ..).symm
  have hk3 : k < 3 := Nat.lt_succ_of_le F.hk
  have hd2 : l.drop (place + 2) = castL xs ++ t := by
    rw [← List.drop_drop, F.eq]
    rfl
  have hlen : (l.drop place).length = 2 + xn p + t.length := by
    rw [F.eq]
    simp [ints_length, F.len]
    omega
  have hfit : place + 2 + xn p ≤ l.length := by
    rw [List.length_drop] at hlen
    omega
  have hd3 : l.drop (place + 2 + xn p) = t := by
    rw [← List.drop_drop, hd2]
    have : (castL xs).length = xn p := by rw [ints_length, F.len]
    rw [← this, List.drop_left]
  rw [List.map_cons, Km441Neutral.may, Bool.and_eq_true, hst S] at m
  rw [List.map_cons, PyFlat.played, told_append, hst S] at a
  rw [List.length_cons] at sz
  refine ⟨p, k, xs, ⟨F.hp, hk3, F.len, F.row, ?_, ?_, ?_, hfit, ?_⟩⟩
  · have := hdl 0
    rw [F.eq] at this
    exact this
  · have := hdl 1
    rw [F.eq] at this
    exact this
  · rw [hd2]
    have : (castL xs).length = xn p := by rw [ints_length, F.len]
    rw [← this, List.take_left]
  · intro st hs h23
    have kS : k < S.length := by rw [I.len]; exact hk3
    have key : ∃ S' : Km441Neutral.S, Km441Neutral.step0 S k (mkCall p xs) = (S', Km441Neutral.told (Km441.act st (mkCall p xs)).2) ∧ S'.length = 3 ∧
        (∀ s, S'.getD k none = some s → s = (Km441.act st (mkCall p xs)).1) ∧ (∀ i, i ≠ k → S'.getD i none = S.getD i none) := by
      unfold Km441Neutral.step0 at m ⊢
      rw [if_neg (by omega)] at m ⊢
      cases q : S.getD k none with
      | some s =>
        have := hs s q
        subst this
        refine ⟨_, rfl, ?_, ?_, ?_⟩
        · rw [List.length_set, I.len]
        · intro s' h'
          rw [getD_set_self kS] at h'
          exact (Option.some.inj h').symm
        · intro i hi
          exact getD_set_ne hi
      | none =>
        rw [q] at m
        simp only at m ⊢
        by_cases hst : Km441.isStart (mkCall p xs) = true
        · rw [if_pos hst] at m ⊢
          obtain ⟨x, hx⟩ : ∃ x, mkCall p xs = .start x := by
            cases hc : mkCall p xs <;> rw [hc] at hst <;> first | exact ⟨_, rfl⟩ | cases hst
          rw [hx]
          obtain ⟨a1, a2⟩ := act_start (Km441.station0 0) st x
          refine ⟨_, by rw [← a1], ?_, ?_, ?_⟩
          · split
            · exact I.len
            · rw [List.length_set, I.len]
          · intro s' h'
            by_cases c5 : STATIONS ≤ x
            · rw [if_pos (by unfold Km441.act; simp [c5, Km441.only, Km441Neutral.told]), q] at h'
              cases h'
            · rw [if_neg (by unfold Km441.act; simp [c5, Km441.only, Km441Neutral.told]), getD_set_self kS] at h'
              rw [← a2 c5]
              exact (Option.some.inj h').symm
          · intro i hi
            split
            · rfl
            · exact getD_set_ne hi
        · rw [if_neg hst] at m
          simp at m
    obtain ⟨S', hS, h3, hself, hoth⟩ := key
    rw [hS] at m a
    refine ⟨S', ⟨hfit, h3, f', cs', ?_, F.bnd, m.2, ?_, ?_⟩, hself, hoth⟩
    · rw [hd3]
      exact F.rest
    · rw [a, List.append_assoc]
    · rw [List.length_append]
      simp only [row1, List.length_cons]
      omega
theorem Next.row22 {l : List Int} {place : Nat} {S : Km441Neutral.S} {given : List Int} {p k : Nat} {xs : List Nat} (N : Next l place S given p k xs) (h : rn p = 1) : l[place + 2]? = some 22 := by
  have hx := N.row h
  have hl := N.len
  have hpos : 0 < xn p := by
    unfold xn
    rw [h]
    omega
  have e : (l.drop (place + 2))[0]? = ((l.drop (place + 2)).take (xn p))[0]? := by
    rw [List.getElem?_take_of_lt hpos]
  rw [List.getElem?_drop, Nat.add_zero, N.atx] at e
  rw [e]
  match xs, hl, hx with
  | [], hl, _ => exact absurd hl (by simp; omega)
  | x :: r, _, hx =>
    have : x = 22 := hx
    rw [this]
    rfl
end Sm

namespace Sm
open Km441
/-- the spec's own look at a person's number -/
def pgood (x : Nat) : Bool := x == 0 || (decide (1 ≤ x % 8) && (decide (x % 8 ≤ 5) && decide (x / 8 ≤ 100000)))
theorem good_eq {m : List Nat} (h : m.length = 22) : Km441.good m = (decide (1 ≤ m.getD 0 0) && (decide (m.getD 0 0 ≤ 1000) && (((m.drop 1).take 16).all pgood && (m.drop 17).all fun x => decide (x ≤ 100000)))) := by
  unfold Km441.good
  have : (m.length == 1 + PERSONS + STATIONS) = true := by rw [h]; rfl
  rw [this, Bool.true_and]
  rfl
theorem pgood_iff {x : Nat} : pgood x = true ↔ x = 0 ∨ (1 ≤ x % 8 ∧ x % 8 ≤ 5 ∧ x / 8 ≤ 100000) := by
  unfold pgood
  simp
theorem and_no {p q : Prop} [Decidable p] [Decidable q] {r : Bool} (h : ¬ (p ∧ q)) : (decide p && (decide q && r)) = false := by
  by_cases hp : p
  · by_cases hq : q
    · exact absurd ⟨hp, hq⟩ h
    · simp [hq]
  · simp [hp]
theorem and_yes {p q : Prop} [Decidable p] [Decidable q] {r : Bool} (h : p ∧ q) : (decide p && (decide q && r)) = r := by
  rw [decide_eq_true h.1, decide_eq_true h.2, Bool.true_and, Bool.true_and]
theorem all_map_id {α : Type} (l : List α) (f : α → Bool) : (l.map f).all id = l.all f := by
  rw [List.all_map]
  rfl
/-! ### which, as bits -/
theorem filter_range_succ (f : Nat → Bool) (i : Nat) : (List.range (i + 1)).filter f = (List.range i).filter f ++ (if f i = true then [i] else []) := by
  rw [List.range_succ, List.filter_append]
  congr 1
  by_cases h : f i = true <;> simp [h]
theorem bits_append (l r : List Nat) : Km441.bits (l ++ r) = r.foldl (fun w k => w + 2 ^ k) (Km441.bits l) := List.foldl_append ..
theorem bits_yes {f : Nat → Bool} {i : Nat} (h : f i = true) : Km441.bits ((List.range (i + 1)).filter f) = Km441.bits ((List.range i).filter f) + 2 ^ i := by
  rw [filter_range_succ, if_pos h, bits_append]
  rfl
theorem bits_no {f : Nat → Bool} {i : Nat} (h : f i = false) : Km441.bits ((List.range (i + 1)).filter f) = Km441.bits ((List.range i).filter f) := by
  rw [filter_range_succ, if_neg (by rw [h]; exact Bool.false_ne_true), List.append_nil]
theorem len_yes {f : Nat → Bool} {i : Nat} (h : f i = true) : ((List.range (i + 1)).filter f).length = ((List.range i).filter f).length + 1 := by
  rw [filter_range_succ, if_pos h, List.length_append]
  rfl
theorem len_no {f : Nat → Bool} {i : Nat} (h : f i = false) : ((List.range (i + 1)).filter f).length = ((List.range i).filter f).length := by
  rw [filter_range_succ, if_neg (by rw [h]; exact Bool.false_ne_true), List.append_nil]
/-- the places of a list of flags that are true -/
def places (bs : List Bool) : List Nat := (List.range bs.length).filter fun k => bs.getD k false
theorem places_map {l : List Nat} (g : Nat → Bool) : places (l.map g) = (List.range l.length).filter fun k => g (l.getD k 0) := by
  unfold places
  rw [List.length_map]
  refine List.filter_congr fun k hk => ?_
  rw [List.mem_range] at hk
  simp [List.getD, hk]
theorem in_eq {s : Station} (h : s.seen.length = 16) : places (s.seen.map fun x => x != 0) = s.in_ := by
  rw [places_map, h]
  rfl
theorem missing_eq {s : Station} (h : s.seen.length = 16) : places (s.seen.map fun x => x == 0) = s.missing := by
  rw [places_map, h]
  rfl
/-! ### hearing -/
theorem merge_length (a b : List Nat) : (Km441.merge a b).length = a.length := by
  unfold Km441.merge
  rw [List.length_map, List.length_range]
theorem merge_getD {a b : List Nat} {i : Nat} (h : i < a.length) : (Km441.merge a b).getD i 0 = max (a.getD i 0) (b.getD i 0) := by
  unfold Km441.merge
  simp [List.getD, h]
/-- the list as it stands when the first i places have taken the greater -/
def mixed (i : Nat) (a b : List Nat) : List Nat := (List.range a.length).map fun j => if j < i then max (a.getD j 0) (b.getD j 0) else a.getD j 0
theorem mixed_length (i : Nat) (a b : List Nat) : (mixed i a b).length = a.length := by
  unfold mixed
  rw [List.length_map, List.length_range]
theorem mixed_getD {i : Nat} {a b : List Nat} {j : Nat} (h : j < a.length) : (mixed i a b).getD j 0 = if j < i then max (a.getD j 0) (b.getD j 0) else a.getD j 0 := by
  unfold mixed
  simp [List.getD, h]
theorem ext_getD {a b : List Nat} (h : a.length = b.length) (hx : ∀ i, i < a.length → a.getD i 0 = b.getD i 0) : a = b := by
  refine List.ext_getElem h fun i h1 h2 => ?_
  have := hx i h1
  simpa [List.getD, h1, h2] using this
theorem mixed_zero (a b : List Nat) : mixed 0 a b = a := by
  refine ext_getD (mixed_length ..) fun i h => ?_
  rw [mixed_length] at h
  rw [mixed_getD h, if_neg (Nat.not_lt_zero _)]
theorem mixed_all {i : Nat} {a b : List Nat} (h : a.length ≤ i) : mixed i a b = Km441.merge a b := by
  refine ext_getD (by rw [mixed_length, merge_length]) fun j hj => ?_
  rw [mixed_length] at hj
  rw [mixed_getD hj, merge_getD hj, if_pos (Nat.lt_of_lt_of_le hj h)]
theorem set_getD {a : List Nat} {i j x : Nat} (h : j < a.length) : (a.set i x).getD j 0 = if i = j then x else a.getD j 0 := by
  by_cases e : i = j
  · subst e
    simp [List.getD, h]
  · simp [List.getD, e]
theorem mixed_turn {i : Nat} {a b : List Nat} (h : i < a.length) : (mixed i a b).set i (max (a.getD i 0) (b.getD i 0)) = mixed (i + 1) a b := by
  refine ext_getD (by rw [List.length_set, mixed_length, mixed_length]) fun j hj => ?_
  rw [List.length_set, mixed_length] at hj
  rw [set_getD (by rw [mixed_length]; exact hj), mixed_getD hj, mixed_getD hj]
  by_cases e : i = j
  · subst e
    rw [if_pos rfl, if_pos (Nat.lt_succ_self _)]
  · rw [if_neg e]
    by_cases c : j < i
    · rw [if_pos c, if_pos (by omega)]
    · rw [if_neg c, if_neg (by omega)]
theorem mixed_skip {i : Nat} {a b : List Nat} (h : i < a.length) (hle : b.getD i 0 ≤ a.getD i 0) : mixed i a b = mixed (i + 1) a b := by
  rw [← mixed_turn h]
  refine ext_getD (by rw [List.length_set]) fun j hj => ?_
  rw [mixed_length] at hj
  rw [set_getD (by rw [mixed_length]; exact hj)]
  by_cases e : i = j
  · subst e
    rw [if_pos rfl, mixed_getD h, if_neg (Nat.lt_irrefl _), Nat.max_eq_left hle]
  · rw [if_neg e]
/-- at how many of the first i places something greater is told -/
def greater (i : Nat) (a b : List Nat) : Nat := ((List.range i).filter fun j => decide (a.getD j 0 < b.getD j 0)).length
end Sm

namespace Sm
open Km441
theorem getD_mem {l : List Nat} {i : Nat} (h : i < l.length) : l.getD i 0 ∈ l := by
  simp [List.getD, h]
theorem mem_merge {a b : List Nat} {x : Nat} (h : x ∈ Km441.merge a b) (hl : b.length = a.length) : x ∈ a ∨ x ∈ b := by
  unfold Km441.merge at h
  rw [List.mem_map] at h
  obtain ⟨i, hi, rfl⟩ := h
  rw [List.mem_range] at hi
  rcases Nat.le_total (a.getD i 0) (b.getD i 0) with c | c
  · rw [Nat.max_eq_right c]
    exact .inr (getD_mem (by omega))
  · rw [Nat.max_eq_left c]
    exact .inl (getD_mem hi)
theorem wf_start {me : Nat} (h : me < 5) : WF (station0 me) :=
  ⟨h, Nat.zero_le _, Nat.zero_le _, rfl, rfl, fun x hx => .inl (List.eq_of_mem_replicate hx), fun x hx => by rw [List.eq_of_mem_replicate hx]; exact Nat.zero_le _, Nat.zero_le _⟩
section
variable {s : Station} (h : WF s)
include h
theorem wf_minute {n : Nat} (hn : n ≤ 100000) : WF { s with minute := n } := ⟨h.me, hn, h.drill, h.seenLen, h.newsLen, h.seen, h.news, h.heard⟩
theorem wf_heard {n : Nat} (hn : n ≤ 100000) : WF { s with heard := n } := ⟨h.me, h.minute, h.drill, h.seenLen, h.newsLen, h.seen, h.news, hn⟩
theorem wf_fresh {k : Nat} (hk : k ≤ 1000) : WF (s.fresh k) :=
  ⟨h.me, h.minute, hk, rfl, rfl, fun x hx => .inl (List.eq_of_mem_replicate hx), fun x hx => by rw [List.eq_of_mem_replicate hx]; exact Nat.zero_le _, h.heard⟩
theorem wf_news {m : List Nat} (hl : m.length = 5) (hm : ∀ x ∈ m, x ≤ 100000) : WF { s with news := Km441.merge s.news m } :=
  ⟨h.me, h.minute, h.drill, h.seenLen, by show (Km441.merge s.news m).length = 5; rw [merge_length, h.newsLen], h.seen, fun x hx => (mem_merge hx (by rw [hl, h.newsLen])).elim (h.news x) (hm x), h.heard⟩
theorem wf_seen {m : List Nat} (hl : m.length = 16) (hm : ∀ x ∈ m, x = 0 ∨ (1 ≤ x % 8 ∧ x % 8 ≤ 5 ∧ x / 8 ≤ 100000)) : WF { s with seen := Km441.merge s.seen m } :=
  ⟨h.me, h.minute, h.drill, by show (Km441.merge s.seen m).length = 16; rw [merge_length, h.seenLen], h.newsLen, fun x hx => (mem_merge hx (by rw [hl, h.seenLen])).elim (h.seen x) (hm x), h.news, h.heard⟩
theorem wf_now : WF s.now := ⟨h.me, h.minute, h.drill, h.seenLen, by show (s.news.set s.me s.minute).length = 5; rw [List.length_set, h.newsLen], h.seen, fun x hx => (List.mem_or_eq_of_mem_set hx).elim (h.news x) (fun e => e ▸ h.minute), h.heard⟩
theorem wf_in {p : Nat} : WF { s with seen := s.seen.set p (8 * s.minute + s.me + 1) } :=
  ⟨h.me, h.minute, h.drill, by show (s.seen.set p _).length = 16; rw [List.length_set, h.seenLen], h.newsLen, fun x hx => (List.mem_or_eq_of_mem_set hx).elim (h.seen x) (fun e => .inr (by
    have h1 := h.me
    have h2 := h.minute
    omega)), h.news, h.heard⟩
end
/-- what good says of the parts -/
structure GoodP (m : List Nat) : Prop where
  lo : 1 ≤ m.getD 0 0
  hi : m.getD 0 0 ≤ 1000
  ps : ∀ x ∈ (m.drop 1).take 16, x = 0 ∨ (1 ≤ x % 8 ∧ x % 8 ≤ 5 ∧ x / 8 ≤ 100000)
  ns : ∀ x ∈ m.drop 17, x ≤ 100000
  pl : ((m.drop 1).take 16).length = 16
  nl : (m.drop 17).length = 5
theorem goodP {m : List Nat} (h : m.length = 22) (g : Km441.good m = true) : GoodP m := by
  rw [good_eq h] at g
  simp only [Bool.and_eq_true, decide_eq_true_eq, List.all_eq_true, pgood_iff] at g
  obtain ⟨h1, h2, h3, h4⟩ := g
  exact ⟨h1, h2, h3, h4, by rw [List.length_take, List.length_drop]; omega, by rw [List.length_drop]; omega⟩
/-- the station ahead of the merge -/
def base (s : Station) (m : List Nat) : Station := if s.drill < m.getD 0 0 then s.fresh (m.getD 0 0) else s
theorem join_eq {s : Station} {m : List Nat} (h : ¬ m.getD 0 0 < s.drill) : s.join m = { base s m with seen := Km441.merge (base s m).seen ((m.drop 1).take 16), news := Km441.merge (base s m).news (m.drop 17) } := by
  unfold Station.join
  rw [if_neg h]
  rfl
theorem join_old {s : Station} {m : List Nat} (h : m.getD 0 0 < s.drill) : s.join m = s := if_pos h
theorem wf_base {s : Station} (h : WF s) {m : List Nat} (hm : m.getD 0 0 ≤ 1000) : WF (base s m) := by
  unfold base
  split
  · exact wf_fresh h hm
  · exact h
theorem greater_eq {a b : List Nat} {n : Nat} (h : n ≤ a.length) : ((List.range n).filter fun j => (Km441.merge a b).getD j 0 != a.getD j 0).length = greater n a b := by
  unfold greater
  congr 1
  refine List.filter_congr fun j hj => ?_
  rw [List.mem_range] at hj
  rw [merge_getD (by omega)]
  by_cases c : a.getD j 0 < b.getD j 0
  · rw [decide_eq_true c, Nat.max_eq_right (Nat.le_of_lt c), bne_iff_ne]
    omega
  · rw [decide_eq_false c, Nat.max_eq_left (by omega)]
    simp
theorem base_know {s : Station} {m : List Nat} (p : Nat) : (base s m).know p = if s.drill < m.getD 0 0 then 0 else s.know p := by
  unfold base
  by_cases c : s.drill < m.getD 0 0
  · rw [if_pos c, if_pos c]
    show (List.replicate PERSONS 0).getD p 0 = 0
    rw [List.getD, List.getElem?_replicate]
    split <;> rfl
  · rw [if_neg c, if_neg c]
theorem changes_eq {s : Station} (hw : WF s) {m : List Nat} (hm : m.getD 0 0 ≤ 1000) (h : ¬ m.getD 0 0 < s.drill) : s.changes m = greater 16 (base s m).seen ((m.drop 1).take 16) := by
  have hb := (wf_base hw hm).seenLen
  rw [← greater_eq (by omega)]
  unfold Station.changes
  congr 1
  refine List.filter_congr fun j hj => ?_
  rw [join_eq h, ← base_know (m := m) j]
  rfl
theorem greater_yes {a b : List Nat} {i : Nat} (h : a.getD i 0 < b.getD i 0) : greater (i + 1) a b = greater i a b + 1 := len_yes (f := fun j => decide (a.getD j 0 < b.getD j 0)) (decide_eq_true h)
theorem greater_no {a b : List Nat} {i : Nat} (h : ¬ a.getD i 0 < b.getD i 0) : greater (i + 1) a b = greater i a b := len_no (f := fun j => decide (a.getD j 0 < b.getD j 0)) (decide_eq_false h)
end Sm

namespace Sm
open Km441
theorem message_len {s : Station} (h : WF s) : s.message.length = 22 := by
  show (s.drill :: (s.seen ++ s.news.set s.me s.minute)).length = 22
  rw [List.length_cons, List.length_append, List.length_set, h.seenLen, h.newsLen]
theorem told_len (a : Ans) : (Km441Neutral.told a).length = 1 + a.out.length := by
  unfold Km441Neutral.told Km441Neutral.nums
  rw [List.length_cons, List.length_map]
  omega
theorem act_len {s : Station} (h : WF s) (c : Call) : (Km441Neutral.told (act s c).2).length ≤ 23 := by
  have hm := message_len h
  rw [told_len]
  cases c <;> simp only [act, only] <;> (repeat' split) <;> simp [hm] 
end Sm

namespace Sm
open Km441
/-! ### what the calls 9 to 16 ask of numbers -/
theorem at_eq {s : Station} (h : s.seen.length = 16) (k : Nat) : places (s.seen.map fun x => x % 8 == k + 1) = s.at_ k := by
  rw [places_map, h]
  rfl
theorem places_congr {l : List Nat} {f g : Nat → Bool} (h : ∀ x ∈ l, f x = g x) : places (l.map f) = places (l.map g) := by
  rw [List.map_congr_left h]
/-- the news as they are now -/
theorem now_len {s : Station} (h : WF s) : s.now.news.length = 5 := (wf_now h).newsLen
theorem now_le {s : Station} (h : WF s) {k : Nat} (hk : k < 5) : s.now.news.getD k 0 ≤ 100000 := (wf_now h).news _ (getD_mem (by rw [now_len h]; exact hk))
/-! the least -/
def lst (f : Nat → Nat) (n : Nat) : Nat := (List.range n).foldl (fun r k => min r (f k)) 100000
theorem lst_succ (f : Nat → Nat) (n : Nat) : lst f (n + 1) = min (lst f n) (f n) := by
  unfold lst
  rw [List.range_succ, List.foldl_append]
  rfl
theorem lst_le (f : Nat → Nat) : ∀ n k, k < n → lst f n ≤ f k
  | 0, _, h => absurd h (Nat.not_lt_zero _)
  | n + 1, k, h => by
    rw [lst_succ]
    by_cases e : k = n
    · subst e
      exact Nat.min_le_right ..
    · exact Nat.le_trans (Nat.min_le_left ..) (lst_le f n k (by omega))
theorem le_lst (f : Nat → Nat) (m : Nat) (hm : m ≤ 100000) : ∀ n, (∀ k, k < n → m ≤ f k) → m ≤ lst f n
  | 0, _ => hm
  | n + 1, h => by
    rw [lst_succ]
    exact Nat.le_min.mpr ⟨le_lst f m hm n fun k hk => h k (by omega), h n (Nat.lt_succ_self _)⟩
theorem least_lst (s : Station) (n : Nat) : s.least n = lst (fun k => s.now.news.getD k 0) n := rfl
theorem least_eq {s : Station} (h : WF s) {n k : Nat} (hn : n ≤ 5) (hk : k < n) (hm : ∀ j, j < n → s.now.news.getD k 0 ≤ s.now.news.getD j 0) : s.least n = s.now.news.getD k 0 :=
  Nat.le_antisymm (lst_le (fun k => s.now.news.getD k 0) n k hk) (le_lst (fun k => s.now.news.getD k 0) _ (now_le h (by omega)) n hm)
/-- by the list of the first n -/
theorem least_take {s : Station} (h : WF s) {n m : Nat} (hn : n ≤ 5) (hm : m ∈ s.now.news.take n) (hl : ∀ y ∈ s.now.news.take n, m ≤ y) : s.least n = m := by
  obtain ⟨k, hk, e⟩ := List.getElem_of_mem hm
  rw [List.length_take, now_len h] at hk
  have hg : ∀ j, j < n → s.now.news.getD j 0 ∈ s.now.news.take n := fun j hj => by
    have hj5 : j < s.now.news.length := by rw [now_len h]; omega
    have : (s.now.news.take n)[j]? = some (s.now.news.getD j 0) := by
      rw [List.getElem?_take_of_lt hj, List.getElem?_eq_getElem hj5]
      simp [List.getD, hj5]
    exact List.mem_of_getElem? this
  have ek : s.now.news.getD k 0 = m := by
    have hk5 : k < s.now.news.length := by rw [now_len h]; omega
    rw [List.getElem_take] at e
    simp [List.getD, hk5, e]
  rw [← ek]
  exact least_eq h hn (by omega) fun j hj => by rw [ek]; exact hl _ (hg j hj)
/-! too late -/
theorem late_nil {s : Station} {n t : Nat} : s.late n t = [] ↔ ∀ k, k < n → ¬ s.now.news.getD k 0 ≤ t := by
  unfold Station.late
  rw [List.filter_eq_nil_iff]
  simp only [List.mem_range, decide_eq_true_eq]
theorem late_any {s : Station} (h : WF s) {n t : Nat} (hn : n ≤ 5) : s.late n t ≠ [] ↔ ((s.now.news.take n).any fun x => decide (x ≤ t)) = true := by
  have hl := now_len h
  rw [List.any_eq_true, Ne, late_nil]
  constructor
  · intro z
    have : ∃ k, k < n ∧ s.now.news.getD k 0 ≤ t := Classical.byContradiction fun w => z fun k hk hle => w ⟨k, hk, hle⟩
    obtain ⟨k, hk, hle⟩ := this
    have hk5 : k < s.now.news.length := by omega
    refine ⟨s.now.news.getD k 0, List.mem_of_getElem? (i := k) ?_, decide_eq_true hle⟩
    rw [List.getElem?_take_of_lt hk, List.getElem?_eq_getElem hk5]
    simp [List.getD, hk5]
  · rintro ⟨x, hx, hd⟩ z
    obtain ⟨k, hk, e⟩ := List.getElem_of_mem hx
    rw [List.length_take] at hk
    have hk5 : k < s.now.news.length := by omega
    rw [List.getElem_take] at e
    refine z k (by omega) ?_
    have : s.now.news.getD k 0 = x := by simp [List.getD, hk5, e]
    rw [this]
    exact of_decide_eq_true hd
/-! who came last -/
def lastStep (f : Nat → Nat) (r : Option Nat) (p : Nat) : Option Nat := match r with
  | none => some p
  | some q => if f q ≤ f p then some p else some q
def lastOf (f : Nat → Nat) (n : Nat) : Option Nat := ((List.range n).filter fun p => f p != 0).foldl (lastStep f) none
theorem last_of (s : Station) : s.last = lastOf s.know 16 := rfl
/-- r is the last among the first n -/
def IsLast (f : Nat → Nat) (n : Nat) : Option Nat → Prop
  | none => ∀ p, p < n → f p = 0
  | some q => q < n ∧ f q ≠ 0 ∧ ∀ p, p < n → f p ≤ f q ∧ (f p = f q → p ≤ q)
theorem lastOf_is (f : Nat → Nat) : ∀ n, IsLast f n (lastOf f n)
  | 0 => fun p h => absurd h (Nat.not_lt_zero _)
  | n + 1 => by
    have ih := lastOf_is f n
    unfold lastOf at ih ⊢
    rw [filter_range_succ, List.foldl_append]
    cases c : ((List.range n).filter fun p => f p != 0).foldl (lastStep f) none with
    | none =>
      rw [c] at ih
      by_cases h0 : f n = 0
      · rw [if_neg (by simp [h0])]
        intro p hp
        by_cases e : p = n
        · subst e; exact h0
        · exact ih p (by omega)
      · rw [if_pos (by simp [h0])]
        refine ⟨Nat.lt_succ_self _, h0, fun p hp => ?_⟩
        by_cases e : p = n
        · subst e; exact ⟨Nat.le_refl _, fun _ => Nat.le_refl _⟩
        · have := ih p (by omega)
          exact ⟨by omega, fun z => by omega⟩
    | some q =>
      rw [c] at ih
      obtain ⟨h1, h2, h3⟩ := ih
      by_cases h0 : f n = 0
      · rw [if_neg (by simp [h0])]
        refine ⟨by omega, h2, fun p hp => ?_⟩
        by_cases e : p = n
        · subst e; exact ⟨by omega, fun z => by omega⟩
        · exact h3 p (by omega)
      · rw [if_pos (by simp [h0])]
        show IsLast f (n + 1) (lastStep f (some q) n)
        unfold lastStep
        by_cases hc : f q ≤ f n
        · simp only [if_pos hc]
          refine ⟨Nat.lt_succ_self _, h0, fun p hp => ?_⟩
          by_cases e : p = n
          · subst e; exact ⟨Nat.le_refl _, fun _ => Nat.le_refl _⟩
          · have := (h3 p (by omega)).1
            exact ⟨by omega, fun _ => by omega⟩
        · simp only [if_neg hc]
          refine ⟨by omega, h2, fun p hp => ?_⟩
          by_cases e : p = n
          · subst e; exact ⟨by omega, fun z => by omega⟩
          · exact h3 p (by omega)
theorem isLast_unique {f : Nat → Nat} {n : Nat} {r r' : Option Nat} (h : IsLast f n r) (h' : IsLast f n r') : r = r' := by
  cases r with
  | none =>
    cases r' with
    | none => rfl
    | some q => exact absurd (h q h'.1) h'.2.1
  | some p =>
    cases r' with
    | none => exact absurd (h' p h.1) h.2.1
    | some q =>
      obtain ⟨a1, a2, a3⟩ := h
      obtain ⟨b1, b2, b3⟩ := h'
      have e : f p = f q := Nat.le_antisymm (b3 p a1).1 (a3 q b1).1
      rw [Nat.le_antisymm ((b3 p a1).2 e) ((a3 q b1).2 e.symm)]
theorem last_is {s : Station} {r : Option Nat} (h : IsLast s.know 16 r) : s.last = r := isLast_unique (lastOf_is s.know 16) h
/-! the least, once more: it is one of them -/
theorem min_of : ∀ l : List Nat, l ≠ [] → ∃ m, m ∈ l ∧ ∀ y, y ∈ l → m ≤ y
  | [], h => absurd rfl h
  | [x], _ => ⟨x, List.mem_cons_self .., fun y hy => by
    rw [List.mem_singleton] at hy
    rw [hy]
    exact Nat.le_refl _⟩
  | x :: z :: r, _ => by
    obtain ⟨m, hm, hl⟩ := min_of (z :: r) (by simp)
    by_cases c : x ≤ m
    · refine ⟨x, List.mem_cons_self .., fun y hy => ?_⟩
      rcases List.mem_cons.mp hy with e | e
      · rw [e]; exact Nat.le_refl _
      · exact Nat.le_trans c (hl y e)
    · refine ⟨m, List.mem_cons_of_mem _ hm, fun y hy => ?_⟩
      rcases List.mem_cons.mp hy with e | e
      · rw [e]; omega
      · exact hl y e
theorem least_min {s : Station} (h : WF s) {n : Nat} (h1 : 1 ≤ n) (hn : n ≤ 5) : s.least n ∈ s.now.news.take n ∧ ∀ y, y ∈ s.now.news.take n → s.least n ≤ y := by
  have hne : s.now.news.take n ≠ [] := fun z => by
    have := congrArg List.length z
    rw [List.length_take, now_len h] at this
    simp only [List.length_nil] at this
    omega
  obtain ⟨m, hm, hl⟩ := min_of _ hne
  rw [least_take h hn hm hl]
  exact ⟨hm, hl⟩
theorem late_least {s : Station} (h : WF s) {n t : Nat} (h1 : 1 ≤ n) (hn : n ≤ 5) : s.late n t ≠ [] ↔ s.least n ≤ t := by
  obtain ⟨hm, hl⟩ := least_min h h1 hn
  rw [late_any h hn, List.any_eq_true]
  constructor
  · rintro ⟨x, hx, hd⟩
    exact Nat.le_trans (hl x hx) (of_decide_eq_true hd)
  · intro z
    exact ⟨_, hm, decide_eq_true z⟩
theorem soon_eq {s : Station} (h : WF s) {n : Nat} (hn : n ≤ 5) (v : Nat) : places ((s.now.news.take n).map fun x => x == v) = (List.range n).filter fun k => s.now.news.getD k 0 == v := by
  have hl := now_len h
  rw [places_map, List.length_take, hl, Nat.min_eq_left hn]
  refine List.filter_congr fun k hk => ?_
  rw [List.mem_range] at hk
  have hk5 : k < s.now.news.length := by omega
  have e : (s.now.news.take n).getD k 0 = s.now.news.getD k 0 := by
    rw [List.getD, List.getElem?_take_of_lt hk, List.getD]
  rw [e]
end Sm

namespace Sm
open PySem PySem.Spec PyProof.Rows L2 Evl
/-! ### calls by name, by method, with no default and nothing raised -/
structure Cal (P : Program) (w : World) (K : PySem.W.Frag) (mg : Str → Option Value) (base : Heap) (k : Nat) (x : Str) (sp : Sp) : Prop where
  ex : ∃ (f : Addr) (fd : FuncData) (ps : List Str), FnOk P w K mg base CX0 k f fd ps sp ∧ mg x = some (.ref f) ∧ PySem.W.keepIn K (.ref f) = true ∧ Binds K fd ps []
structure Met (P : Program) (w : World) (K : PySem.W.Frag) (mg : Str → Option Value) (base : Heap) (k : Nat) (C : Addr) (m : Str) (sp : Sp) : Prop where
  ex : ∃ (f : Addr) (fd : FuncData) (ps : List Str), Cls K C ∧ Meth K C m f ∧ FnOk P w K mg base CX0 k f fd ps sp ∧ Binds K fd ps []
structure Mak (P : Program) (w : World) (K : PySem.W.Frag) (mg : Str → Option Value) (base : Heap) (k : Nat) (x : Str) (C : Addr) (sp : Sp) : Prop where
  ex : ∃ (f : Addr) (fd : FuncData) (ps : List Str), Mk K C f ∧ FnOk P w K mg base CX0 k f fd ps sp ∧ mg x = some (.ref C) ∧ Binds K fd ps []
/-- the reading of a call: what the arguments ask, then the promise -/
def tCl (sp : Sp) (t : TA) : TE := fun σ H Q => t σ H fun vs H1 => sp vs H1 Q E0
def tMt (C : Addr) (m : Str) (sp : Sp) (ta : TE) (t : TA) : TE := fun σ H Q => ta σ H fun x H1 => ∃ a dx fs, x = .ref a ∧ H1 a = some (.ins C dx fs) ∧ fs.lookup m = none ∧ t σ H1 fun vs H2 => sp (x :: vs) H2 Q E0
def tMk (C : Addr) (sp : Sp) (t : TA) : TE := fun σ H Q => t σ H fun vs H1 => ∀ x dx, H1 x = none → H1 dx = none → dx ≠ x → sp (.ref x :: vs) (upd (upd H1 dx (.own x)) x (.ins C dx [])) (fun v H2 => v = .non ∧ Q (.ref x) H2) E0
theorem tCl_eq {sp : Sp} {t : TA} : tCall sp [] E0 t = tCl sp t := by
  funext σ H Q
  unfold tCall tCl
  simp only [List.append_nil]
theorem tMt_eq {C : Addr} {m : Str} {sp : Sp} {ta : TE} {t : TA} : tMeth C m sp [] E0 ta t = tMt C m sp ta t := by
  funext σ H Q
  unfold tMeth tMt
  simp only [List.append_nil]
theorem tMk_eq {C : Addr} {sp : Sp} {t : TA} : tMake C sp [] E0 t = tMk C sp t := by
  funext σ H Q
  unfold tMake tMk
  simp only [List.append_nil]
section
variable {X : Cx} {k j : Nat} {C : Addr} {x m : Str} {sp : Sp} {p pos apos : Pos} {e o : Expr} {es : List Expr} {ta : TE} {t : TA}
/-- no argument is starred -/
structure Args (X : Cx) (pos : Pos) (e : Expr) (es : List Expr) : Prop where
  one : starEach (e :: es) X.env = [(false, eval e X.env)] ++ starEach es X.env
  non : ((backTo pos (starEach es X.env)).any fun z => z.1) = false
/-- how a method's call is evaluated -/
def Mev (X : Cx) (o : Expr) (m : Str) (apos pos : Pos) (es : List Expr) (pl : Sem Bool) : Prop :=
  eval (.Call (.Attribute o m apos) es [] pos) X.env = eval o X.env >>= fun u => standAt apos.atName >>= fun _ => holding [u] (getMethod u m pl) >>= fun y =>
    callWith pos y.1 y.2 (backTo pos (starEach es X.env)) (backToKw pos (keywordEach [] X.env))
theorem pcl (c : Cal X.prog X.w X.K X.mg X.base k x sp) (hr : Room j X.A) (hk : k ≤ j) (hg : Gl X x) (ha : PA X (e :: es) t) (hx : (x == ("__debug__" : Str)) = false := by decide) (hs : Args X pos e es := by exact ⟨rfl, rfl⟩) :
    PE X (.Call (.Name x p) (e :: es) [] pos) (tCl sp t) := by
  obtain ⟨f, fd, ps, F, hm, kp, b⟩ := c.ex
  rw [← tCl_eq]
  exact pe_call F (hr.mono hk) hg hm kp b .nil pass0 ha hx hs.one hs.non
theorem pmk0 (c : Mak X.prog X.w X.K X.mg X.base k x C sp) (hr : Room j X.A) (hk : k + 1 ≤ j) (hg : Gl X x) (hx : (x == ("__debug__" : Str)) = false := by decide) :
    PE X (.Call (.Name x p) [] [] pos) (tMk C sp tNil) := by
  obtain ⟨f, fd, ps, M, F, hm, b⟩ := c.ex
  rw [← tMk_eq]
  exact pe_make0 M F (hr.mono hk) hg hm b .nil pass0 hx
theorem pmt {pl : Sem Bool} (c : Met X.prog X.w X.K X.mg X.base k C m sp) (hr : Room j X.A) (hk : k ≤ j) (he : PE X o ta) (ha : PA X (e :: es) t) (hs : Args X pos e es := by exact ⟨rfl, rfl⟩) (ht : Mev X o m apos pos (e :: es) pl := by unfold Mev; rfl) :
    PE X (.Call (.Attribute o m apos) (e :: es) [] pos) (tMt C m sp ta t) := by
  obtain ⟨f, fd, ps, hc, hm, F, b⟩ := c.ex
  rw [← tMt_eq]
  exact pe_meth (pl := pl) he hc hm F (hr.mono hk) b .nil pass0 ha hs.one hs.non ht
theorem pmt0 {pl : Sem Bool} (c : Met X.prog X.w X.K X.mg X.base k C m sp) (hr : Room j X.A) (hk : k ≤ j) (he : PE X o ta) (ht : Mev X o m apos pos [] pl := by unfold Mev; rfl) :
    PE X (.Call (.Attribute o m apos) [] [] pos) (tMt C m sp ta tNil) := by
  obtain ⟨f, fd, ps, hc, hm, F, b⟩ := c.ex
  rw [← tMt_eq]
  exact pe_meth0 (pl := pl) he hc hm F (hr.mono hk) b .nil pass0 ht
/-- within a comprehension: what the top has written is the same there -/
theorem pe_fldK {K : PySem.W.Frag} {f : Str} (hK : X.K = K) (he : PE X e ta) (hb : attributeBase e f X.env (eval e X.env) = eval e X.env) : PE X (.Attribute e f pos) (tFld K ta f) := by
  subst hK
  exact pe_fld he hb
theorem ix_listK {K : PySem.W.Frag} (hK : X.K = K) : IxR X (rIxL K) := by
  subst hK
  exact ix_list
/-- a whole number of the module -/
theorem pgc {i : Int} (h : ∃ t, X.mg x = some (.int i t)) (hg : Gl X x) (hd : (x == ("__debug__" : Str)) = false := by decide) : PE X (.Name x pos) (tC (.int i)) := by
  obtain ⟨t, h⟩ := h
  exact pe_glob hg h ⟨_, rfl⟩ hd
/-- an object of the module -/
theorem pgr {a : Addr} (h : X.mg x = some (.ref a)) (hg : Gl X x) (hd : (x == ("__debug__" : Str)) = false := by decide) : PE X (.Name x pos) (tC (.ref a)) := pe_glob hg h rfl hd
end
/-! ### what evaluates to what, further -/
section
variable {K : PySem.W.Frag} {σ : L2.St} {H H' : Hp} {ta tb te : TE} {t : TA} {v z : V} {xs vs : List V} {sp : Sp} {a C dx : Addr} {fs : List (Str × V)} {f m : Str}
theorem ev_fld (h : Ev ta σ H (.ref a)) (ho : H a = some (.ins C dx fs)) (hc : Cls K C) (hn : NoAttr K C f) (hl : fs.lookup f = some v) : Ev (tFld K ta f) σ H v := fun H1 e Q q =>
  h H1 e _ fun H2 e2 => ⟨a, C, dx, fs, v, rfl, e2 _ _ (e _ _ ho), hc, hn, hl, q H2 e2⟩
theorem ev_cl (h : EvA t σ H vs) (hs : SpV sp vs H z) : Ev (tCl sp t) σ H z := fun H1 e Q q =>
  h H1 e _ fun H2 e2 => hs H2 (e.trans e2) _ (fun H3 e3 => q H3 (e2.trans e3)) _
theorem el_cl (h : EvA t σ H vs) (hs : SpL sp vs H xs) : EvL (tCl sp t) σ H xs := fun H1 e Q q =>
  h H1 e _ fun H2 e2 => hs H2 (e.trans e2) _ (fun p H3 hp e3 h3 => q p H3 (fresh_back e2 hp) (e2.trans e3) h3) _
/-- an argument that is a new list -/
theorem ev_clL {ys : List V} (h : EvL te σ H ys) (hs : ∀ p H1, Ex H H1 → H1 p = some (.lst ys) → SpV sp [.ref p] H1 z) : Ev (tCl sp (tCons te tNil)) σ H z := fun H1 e Q q =>
  h H1 e _ fun p H2 _ e2 hp => hs p H2 (e.trans e2) hp H2 (Ex.refl _) _ (fun H3 e3 => q H3 (e2.trans e3)) _
theorem el_clL {ys : List V} (h : EvL te σ H ys) (hs : ∀ p H1, Ex H H1 → H1 p = some (.lst ys) → SpL sp [.ref p] H1 xs) : EvL (tCl sp (tCons te tNil)) σ H xs := fun H1 e Q q =>
  h H1 e _ fun p H2 _ e2 hp => hs p H2 (e.trans e2) hp H2 (Ex.refl _) _ (fun r H3 hr e3 h3 => q r H3 (fresh_back e2 hr) (e2.trans e3) h3) _
theorem ev_mt (h : Ev ta σ H (.ref a)) (ho : H a = some (.ins C dx fs)) (hl : fs.lookup m = none) (ht : EvA t σ H vs) (hs : SpV sp (.ref a :: vs) H z) : Ev (tMt C m sp ta t) σ H z := fun H1 e Q q =>
  h H1 e _ fun H2 e2 => ⟨a, dx, fs, rfl, e2 _ _ (e _ _ ho), hl, ht H2 (e.trans e2) _ fun H3 e3 => hs H3 ((e.trans e2).trans e3) _ (fun H4 e4 => q H4 ((e2.trans e3).trans e4)) _⟩
theorem el_mt (h : Ev ta σ H (.ref a)) (ho : H a = some (.ins C dx fs)) (hl : fs.lookup m = none) (ht : EvA t σ H vs) (hs : SpL sp (.ref a :: vs) H xs) : EvL (tMt C m sp ta t) σ H xs := fun H1 e Q q =>
  h H1 e _ fun H2 e2 => ⟨a, dx, fs, rfl, e2 _ _ (e _ _ ho), hl, ht H2 (e.trans e2) _ fun H3 e3 => hs H3 ((e.trans e2).trans e3) _ (fun p H4 hp e4 h4 => q p H4 (fresh_back (e2.trans e3) hp) ((e2.trans e3).trans e4) h4) _⟩
/-- a < b < c of whole numbers -/
theorem ev_chain {tc : TE} {g g' : Int → Int → Bool} {i j k : Int} (ha : Ev ta σ H (.int i)) (hb : Ev tb σ H (.int j)) (hc : Ev tc σ H (.int k)) :
    Ev (tChain (rI0 fun i j => .bl (g i j)) (rI0 fun i j => .bl (g' i j)) ta tb tc) σ H (.bl (g i j && g' j k)) := fun H1 e Q q =>
  ha H1 e _ fun H2 e2 => hb H2 (e.trans e2) _ fun H3 e3 => ⟨i, j, rfl, rfl, _, rfl, by
    cases hg : g i j with
    | true => exact iteT (hc H3 ((e.trans e2).trans e3) _ fun H4 e4 => ⟨j, k, rfl, rfl, by
        have := q H4 ((e2.trans e3).trans e4)
        rw [hg] at this
        exact this⟩)
    | false => exact iteF (by
        have := q H3 (e2.trans e3)
        rw [hg] at this
        exact this)⟩
theorem ev_allL {bs : List Bool} (h : EvL te σ H (bs.map V.bl)) : Ev (tCB (rAll K) (tCons te tNil)) σ H (.bl (bs.all id)) := fun H1 e Q q =>
  h H1 e _ fun p H2 _ e2 hp => ⟨p, bs, rfl, sq_of hp, q H2 e2⟩
theorem ev_min2 {i j : Int} (ha : Ev ta σ H (.int i)) (hb : Ev tb σ H (.int j)) : Ev (tCB (fun xs H Q => ∃ i j, xs = [V.int i, .int j] ∧ Q (.int (if j < i then j else i)) H) (tCons ta (tCons tb tNil))) σ H (.int (if j < i then j else i)) := fun H1 e Q q =>
  ha H1 e _ fun H2 f => hb H2 (e.trans f) _ fun H3 g => ⟨i, j, rfl, q H3 (f.trans g)⟩
theorem ev_neg {i : Int} (h : Ev ta σ H (.int i)) : Ev (tUn (rU fun i => .int (-i)) ta) σ H (.int (-i)) := ev_un h ru_neg
end
/-! ### lists made of lists -/
section
variable {σ : L2.St} {H : Hp} {ta tb : TE} {xs ys : List V} {b : Addr}
theorem el_catLV (ha : EvL ta σ H xs) (hb : Ev tb σ H (.ref b)) (h : H b = some (.lst ys)) (hl : xs.length + ys.length ≤ 100000) : EvL (tOp rCat ta tb) σ H (xs ++ ys) := fun H1 e Q q =>
  ha H1 e _ fun p H2 hp e2 h2 => hb H2 (e.trans e2) _ fun H3 e3 => ⟨p, b, xs, ys, rfl, rfl, e3 _ _ h2, e3 _ _ (e2 _ _ (e _ _ h)), sz_of hl, fun r hr => q r _ (fresh_back (e2.trans e3) hr) ((e2.trans e3).trans (Ex.new hr)) upd_same⟩
theorem el_catLL (ha : EvL ta σ H xs) (hb : EvL tb σ H ys) (hl : xs.length + ys.length ≤ 100000) : EvL (tOp rCat ta tb) σ H (xs ++ ys) := fun H1 e Q q =>
  ha H1 e _ fun p H2 hp e2 h2 => hb H2 (e.trans e2) _ fun r H3 hr e3 h3 => ⟨p, r, xs, ys, rfl, rfl, e3 _ _ h2, h3, sz_of hl, fun z hz => q z _ (fresh_back (e2.trans e3) hz) ((e2.trans e3).trans (Ex.new hz)) upd_same⟩
theorem el_rep {k : Nat} (ha : EvL ta σ H xs) (hb : Ev tb σ H (.int (k : Nat))) (hk : k ≤ 100000) (hl : xs.length * k ≤ 100000) : EvL (tOp rRep ta tb) σ H (List.replicate k xs).flatten := fun H1 e Q q =>
  ha H1 e _ fun p H2 hp e2 h2 => hb H2 (e.trans e2) _ fun H3 e3 => ⟨p, (k : Nat), xs, rfl, rfl, e3 _ _ h2, by omega, by omega, sz_of hl, fun z hz => q z _ (fresh_back (e2.trans e3) hz) ((e2.trans e3).trans (Ex.new hz)) upd_same⟩
theorem el_is (h : EvL ta σ H xs) (e : xs = ys) : EvL ta σ H ys := e ▸ h
end
/-! ### all but one place stands as it stood -/
def But (H H' : Hp) (a : Addr) : Prop := ∀ b o, H b = some o → b ≠ a → H' b = some o
theorem But.of {H H' : Hp} {a : Addr} (e : Ex H H') : But H H' a := fun b o h _ => e b o h
theorem But.upd {H H' : Hp} {a : Addr} {o : HO} (e : But H H' a) : But H (upd H' a o) a := fun b u h ne => by
  rw [upd_ne ne]
  exact e b u h ne
theorem But.trans {H H1 H2 : Hp} {a : Addr} (e1 : But H H1 a) (e2 : But H1 H2 a) : But H H2 a := fun b o h ne => e2 b o (e1 b o h ne) ne
theorem But.ex {H H1 H2 : Hp} {a : Addr} (e1 : But H H1 a) (e2 : Ex H1 H2) : But H H2 a := e1.trans (But.of e2)
theorem But.free {H H' : Hp} {a p : Addr} (e : But H H' a) (h : H' p = none) (ne : p ≠ a) : H p = none := by
  cases q : H p with
  | none => rfl
  | some o =>
    rw [e p o q ne] at h
    cases h
theorem ne_upd {H : Hp} {a p : Addr} {o : HO} (h : (L2.upd H a o) p = none) : p ≠ a := fun e => by
  rw [e, upd_same] at h
  cases h
/-! ### stores to fields, calls that change the heap -/
section
variable {K : PySem.W.Frag} {σ : L2.St} {H : Hp} {D : Ends} {ta tv te : TE} {t : TA} {tz : TS} {y : V} {vs ys : List V} {a C dx : Addr} {fs : List (Str × V)} {f m : Str} {sp : Sp} {Q : VK}
theorem s_fld (hv : Ev tv σ H y) (ha : Ev ta σ H (.ref a)) (ho : H a = some (.ins C dx fs)) (hc : Cls K C) (hn : NoAttr K C f) (hl : fs.length < 1000) (k : ∀ H1, Ex H H1 → D.nx σ (upd H1 a (.ins C dx (putF f y fs)))) : sFld K ta tv f D σ H :=
  hv H (Ex.refl H) _ fun H1 e1 => ha H1 e1 _ fun H2 e2 => ⟨a, C, dx, fs, rfl, e2 _ _ (e1 _ _ ho), hc, hn, hl, k H2 (e1.trans e2)⟩
theorem q_fld (hv : Ev tv σ H y) (ha : Ev ta σ H (.ref a)) (ho : H a = some (.ins C dx fs)) (hc : Cls K C) (hn : NoAttr K C f) (hl : fs.length < 1000) (k : ∀ H1, Ex H H1 → tz D σ (upd H1 a (.ins C dx (putF f y fs)))) : tSeq (sFld K ta tv f) tz D σ H :=
  s_fld (D := { D with nx := tz D }) hv ha ho hc hn hl k
theorem s_fldL (hv : EvL tv σ H ys) (ha : Ev ta σ H (.ref a)) (ho : H a = some (.ins C dx fs)) (hc : Cls K C) (hn : NoAttr K C f) (hl : fs.length < 1000) (k : ∀ p H1, H p = none → Ex H H1 → H1 p = some (.lst ys) → D.nx σ (upd H1 a (.ins C dx (putF f (.ref p) fs)))) : sFld K ta tv f D σ H :=
  hv H (Ex.refl H) _ fun p H1 hp e1 h1 => ha H1 e1 _ fun H2 e2 => ⟨a, C, dx, fs, rfl, e2 _ _ (e1 _ _ ho), hc, hn, hl, k p H2 hp (e1.trans e2) (e2 _ _ h1)⟩
theorem q_fldL (hv : EvL tv σ H ys) (ha : Ev ta σ H (.ref a)) (ho : H a = some (.ins C dx fs)) (hc : Cls K C) (hn : NoAttr K C f) (hl : fs.length < 1000) (k : ∀ p H1, H p = none → Ex H H1 → H1 p = some (.lst ys) → tz D σ (upd H1 a (.ins C dx (putF f (.ref p) fs)))) : tSeq (sFld K ta tv f) tz D σ H :=
  s_fldL (D := { D with nx := tz D }) hv ha ho hc hn hl k
theorem q_fldaug {i j : Int} (ha : Ev ta σ H (.ref a)) (ho : H a = some (.ins C dx fs)) (hc : Cls K C) (hn : NoAttr K C f) (hl : fs.lookup f = some (.int i)) (hz : fs.length < 1000) (hv : Ev tv σ H (.int j)) (k : ∀ H1, Ex H H1 → tz D σ (upd H1 a (.ins C dx (putF f (.int (i + j)) fs)))) : tSeq (sFldAug K ta tv L2.rAdd f) tz D σ H :=
  ha H (Ex.refl H) _ fun H1 e1 => ⟨a, C, dx, fs, .int i, rfl, e1 _ _ ho, hc, hn, hl, hv H1 e1 _ fun H2 e2 => ⟨i, j, rfl, rfl, dx, fs, e2 _ _ (e1 _ _ ho), hz, k H2 (e1.trans e2)⟩⟩
theorem mt_go (h : Ev ta σ H (.ref a)) (ho : H a = some (.ins C dx fs)) (hl : fs.lookup m = none) (ht : EvA t σ H vs) (hs : ∀ H1, Ex H H1 → sp (.ref a :: vs) H1 Q E0) : tMt C m sp ta t σ H Q :=
  h H (Ex.refl H) _ fun H1 e1 => ⟨a, dx, fs, rfl, e1 _ _ ho, hl, ht H1 e1 _ fun H2 e2 => hs H2 (e1.trans e2)⟩
theorem mt_goL (h : Ev ta σ H (.ref a)) (ho : H a = some (.ins C dx fs)) (hl : fs.lookup m = none) (ht : EvL te σ H ys) (hs : ∀ p H1, H p = none → Ex H H1 → H1 p = some (.lst ys) → sp [.ref a, .ref p] H1 Q E0) : tMt C m sp ta (tCons te tNil) σ H Q :=
  h H (Ex.refl H) _ fun H1 e1 => ⟨a, dx, fs, rfl, e1 _ _ ho, hl, ht H1 e1 _ fun p H2 hp e2 h2 => hs p H2 (fresh_back e1 hp) (e1.trans e2) h2⟩
theorem q_mt (h : Ev ta σ H (.ref a)) (ho : H a = some (.ins C dx fs)) (hl : fs.lookup m = none) (ht : EvA t σ H vs) (hs : ∀ H1, Ex H H1 → sp (.ref a :: vs) H1 (fun _ H2 => tz D σ H2) E0) : tSeq (tDrop (tMt C m sp ta t)) tz D σ H := mt_go h ho hl ht hs
theorem s_mt (h : Ev ta σ H (.ref a)) (ho : H a = some (.ins C dx fs)) (hl : fs.lookup m = none) (ht : EvA t σ H vs) (hs : ∀ H1, Ex H H1 → sp (.ref a :: vs) H1 (fun _ H2 => D.nx σ H2) E0) : tDrop (tMt C m sp ta t) D σ H := mt_go h ho hl ht hs
theorem q_mtL (h : Ev ta σ H (.ref a)) (ho : H a = some (.ins C dx fs)) (hl : fs.lookup m = none) (ht : EvL te σ H ys) (hs : ∀ p H1, H p = none → Ex H H1 → H1 p = some (.lst ys) → sp [.ref a, .ref p] H1 (fun _ H2 => tz D σ H2) E0) : tSeq (tDrop (tMt C m sp ta (tCons te tNil))) tz D σ H := mt_goL h ho hl ht hs
theorem s_mtL (h : Ev ta σ H (.ref a)) (ho : H a = some (.ins C dx fs)) (hl : fs.lookup m = none) (ht : EvL te σ H ys) (hs : ∀ p H1, H p = none → Ex H H1 → H1 p = some (.lst ys) → sp [.ref a, .ref p] H1 (fun _ H2 => D.nx σ H2) E0) : tDrop (tMt C m sp ta (tCons te tNil)) D σ H := mt_goL h ho hl ht hs
theorem r_mtL (h : Ev ta σ H (.ref a)) (ho : H a = some (.ins C dx fs)) (hl : fs.lookup m = none) (ht : EvL te σ H ys) (hs : ∀ p H1, H p = none → Ex H H1 → H1 p = some (.lst ys) → sp [.ref a, .ref p] H1 D.rt E0) : tRet (tMt C m sp ta (tCons te tNil)) D σ H := mt_goL h ho hl ht hs
theorem q_asgmt {i : Nat} (h : Ev ta σ H (.ref a)) (ho : H a = some (.ins C dx fs)) (hl : fs.lookup m = none) (ht : EvA t σ H vs) (hs : ∀ H1, Ex H H1 → sp (.ref a :: vs) H1 (fun v H2 => tz D (σ.set i (some v)) H2) E0) : tSeq (tAsg (tMt C m sp ta t) (gName i)) tz D σ H := mt_go h ho hl ht hs
end
/-- an if without else whose two ways meet -/
theorem q_join {σ : L2.St} {H : Hp} {D : Ends} {t : TT} {tu tz : TS} {b : Bool} (R : Hp → Prop) (h : EvT t σ H b) (h1 : b = true → (∀ H', R H' → tz D σ H') → ∀ H1, Ex H H1 → tu { D with nx := tz D } σ H1) (h2 : b = false → ∀ H1, Ex H H1 → R H1) (k : ∀ H', R H' → tz D σ H') : tSeq (tIfS t tu tNext) tz D σ H :=
  q_when h (fun hb => h1 hb k) (fun hb H1 e => k H1 (h2 hb H1 e))
theorem max_int {x y : Nat} : V.int (if (y : Int) > (x : Int) then (y : Int) else (x : Int)) = V.int ((max x y : Nat) : Int) := by
  congr 1
  split <;> omega
/-! ### numbers as values -/
def vN (l : List Nat) : List V := l.map fun x => V.int (x : Nat)
def vI (l : List Int) : List V := l.map V.int
theorem vN_length (l : List Nat) : (vN l).length = l.length := List.length_map ..
theorem vI_length (l : List Int) : (vI l).length = l.length := List.length_map ..
theorem vI_ints (l : List Nat) : vI (castL l) = vN l := by
  unfold vI castL vN
  rw [List.map_map]
  rfl
theorem vN_get {l : List Nat} {i : Nat} (h : i < l.length) : (vN l)[i]? = some (.int (l.getD i 0 : Nat)) := by
  unfold vN
  rw [List.getElem?_map, List.getElem?_eq_getElem h]
  simp [List.getD, h]
theorem vN_set (l : List Nat) (i x : Nat) : (vN l).set i (.int (x : Nat)) = vN (l.set i x) := by
  unfold vN
  rw [List.map_set]
theorem vN_at {l : List Nat} {i : Nat} (h : i < l.length) : atI (vN l) (i : Int) = some (.int (l.getD i 0 : Nat)) := atI_nat (vN_get h)
/-! ### slices -/
theorem cutV_nat {xs : List V} (i j : Nat) (hi : i ≤ xs.length) (hj : j ≤ xs.length) : cutV xs (some (i : Int)) (some (j : Int)) = (xs.drop i).take (j - i) := by
  unfold cutV
  rw [HT.sIx_nat, HT.sIx_nat, Nat.min_eq_left hi, Nat.min_eq_left hj]
theorem cutV_from {xs : List V} (i : Nat) (hi : i ≤ xs.length) : cutV xs (some (i : Int)) none = xs.drop i := by
  unfold cutV
  rw [HT.sIx_nat, HT.sIx_none, Nat.min_eq_left hi]
  exact List.take_of_length_le (by rw [List.length_drop]; exact Nat.le_refl _)
theorem vN_drop (l : List Nat) (i : Nat) : (vN l).drop i = vN (l.drop i) := (List.map_drop ..).symm
theorem vN_take (l : List Nat) (i : Nat) : (vN l).take i = vN (l.take i) := (List.map_take ..).symm
/-! ### comprehensions without a test, over a list of numbers -/
section
variable {K : PySem.W.Frag} {σ : L2.St} {H : Hp} {te tl : TE} {j : Nat} {l : List Nat} {g : Nat → V}
theorem wipe_turn (σ : L2.St) (j : Nat) (x : V) : wipe ((wipe σ [j]).set j (some x)) [j] = wipe σ [j] := by
  show ((σ.set j none).set j (some x)).set j none = σ.set j none
  rw [List.set_set, List.set_set]
theorem et_yes : EvT tYes σ H true := fun H1 _ _ q => q H1 (Ex.refl H1)
theorem given_all : given (vN l).length (fun _ => true) (fun i => g (l.getD i 0)) = l.map g := by
  unfold given
  rw [vN_length, List.filter_eq_self.mpr (fun _ _ => rfl)]
  refine List.ext_getElem (by simp) fun i h1 h2 => ?_
  rw [List.length_map] at h2
  simp [List.getD, h2]
theorem item_of {i : Nat} {x : V} (h : (vN l)[i]? = some x) : i < l.length ∧ x = .int (l.getD i 0 : Nat) := by
  have hi := (List.getElem?_eq_some_iff.mp h).1
  rw [vN_length] at hi
  rw [vN_get hi] at h
  exact ⟨hi, (Option.some.inj h).symm⟩
theorem el_mapL {a : Addr} (h : Ev tl σ H (.ref a)) (hx : SqL K H a (vN l)) (hz : l.length ≤ 40000)
    (he : ∀ (x : Nat) H1, Ex H H1 → Ev te ((σ.set j none).set j (some (.int (x : Nat)))) H1 (g x)) : EvL (tLc (iList K tl) (gName j) tYes te [j]) σ H (l.map g) := by
  rw [← given_all]
  refine el_lcL _ _ h hx (by rw [vN_length]; exact hz) (wipe_turn σ j) (fun i x H1 _ _ => et_yes) fun i x H1 e hi _ => ?_
  obtain ⟨_, rfl⟩ := item_of hi
  exact he _ H1 e
theorem el_mapN (h : EvL tl σ H (vN l)) (hz : l.length ≤ 40000)
    (he : ∀ (x : Nat) H1, Ex H H1 → Ev te ((σ.set j none).set j (some (.int (x : Nat)))) H1 (g x)) : EvL (tLc (iList K tl) (gName j) tYes te [j]) σ H (l.map g) := by
  rw [← given_all]
  refine el_lcNL _ _ h (by rw [vN_length]; exact hz) (wipe_turn σ j) (fun i x H1 _ _ => et_yes) fun i x H1 e hi _ => ?_
  obtain ⟨_, rfl⟩ := item_of hi
  exact he _ H1 e
end
/-! ### sum, max, min of a list; a part of a new list -/
section
variable {K : PySem.W.Frag} {σ : L2.St} {H : Hp} {te : TE} {a : Addr}
theorem el_slL {tl th : TO} {xs : List V} {lo hi : Option Int} (h : EvL te σ H xs) (h1 : EvO tl σ H lo) (h2 : EvO th σ H hi) : EvL (tSl (rSlL K) te tl th) σ H (cutV xs lo hi) := fun H1 e _ q =>
  h H1 e _ fun b H2 hb e2 hx => h1 H2 (e.trans e2) _ fun H3 e3 => h2 H3 ((e.trans e2).trans e3) _ fun H4 e4 =>
    ⟨b, xs, rfl, sq_of (e4 _ _ (e3 _ _ hx)), fun p hp => q p _ (fresh_back ((e2.trans e3).trans e4) hp) (((e2.trans e3).trans e4).trans (Ex.new hp)) upd_same⟩
theorem ev_sumL {ns : List Int} (h : EvL te σ H (ns.map V.int)) : Ev (tCB (rSum K) (tCons te tNil)) σ H (.int ns.sum) := fun H1 e Q q =>
  h H1 e _ fun p H2 _ e2 hp => ⟨p, ns, rfl, sq_of hp, q H2 e2⟩
theorem ev_maxL {ns : List Int} {m : Int} (h : EvL te σ H (ns.map V.int)) (hm : m ∈ ns) (hg : ∀ y, y ∈ ns → y ≤ m) : Ev (tCB (rMax K) (tCons te tNil)) σ H (.int m) := fun H1 e Q q =>
  h H1 e _ fun p H2 _ e2 hp => ⟨p, ns, rfl, sq_of hp, List.length_pos_of_mem hm, fun z hz hg' => by
    rw [Int.le_antisymm (hg z hz) (hg' m hm)]
    exact q H2 e2⟩
theorem ev_maxV {ns : List Int} {m : Int} (h : Ev te σ H (.ref a)) (hs : SqL K H a (ns.map V.int)) (hm : m ∈ ns) (hg : ∀ y, y ∈ ns → y ≤ m) : Ev (tCB (rMax K) (tCons te tNil)) σ H (.int m) := fun H1 e Q q =>
  h H1 e _ fun H2 e2 => ⟨a, ns, rfl, ex_l (e.trans e2) hs, List.length_pos_of_mem hm, fun z hz hg' => by
    rw [Int.le_antisymm (hg z hz) (hg' m hm)]
    exact q H2 e2⟩
theorem ev_minL {ns : List Int} {m : Int} (h : EvL te σ H (ns.map V.int)) (hm : m ∈ ns) (hg : ∀ y, y ∈ ns → m ≤ y) : Ev (tCB (rMin K) (tCons te tNil)) σ H (.int m) := fun H1 e Q q =>
  h H1 e _ fun p H2 _ e2 hp => ⟨p, ns, rfl, sq_of hp, List.length_pos_of_mem hm, fun z hz hg' => by
    rw [Int.le_antisymm (hg' m hm) (hg z hz)]
    exact q H2 e2⟩
theorem ev_minV {ns : List Int} {m : Int} (h : Ev te σ H (.ref a)) (hs : SqL K H a (ns.map V.int)) (hm : m ∈ ns) (hg : ∀ y, y ∈ ns → m ≤ y) : Ev (tCB (rMin K) (tCons te tNil)) σ H (.int m) := fun H1 e Q q =>
  h H1 e _ fun H2 e2 => ⟨a, ns, rfl, ex_l (e.trans e2) hs, List.length_pos_of_mem hm, fun z hz hg' => by
    rw [Int.le_antisymm (hg' m hm) (hg z hz)]
    exact q H2 e2⟩
end
theorem sum_ones : ∀ n : Nat, (List.replicate n (1 : Int)).sum = (n : Int)
  | 0 => rfl
  | n + 1 => by
    rw [List.replicate_succ, List.sum_cons, sum_ones n]
    omega
theorem given_ones (n : Nat) (f : Nat → Bool) : given n f (fun _ => V.int 1) = (List.replicate ((List.range n).filter f).length (1 : Int)).map V.int := by
  unfold given
  rw [List.map_replicate, List.map_const']
theorem cutV_to {xs : List V} (j : Nat) (hj : j ≤ xs.length) : cutV xs none (some (j : Int)) = xs.take j := by
  unfold cutV
  rw [HT.sIx_nat, HT.sIx_none, Nat.min_eq_left hj]
  rfl
theorem vN_ints (l : List Nat) : (castL l).map V.int = vN l := vI_ints l
theorem mem_castL {l : List Nat} {x : Nat} (h : x ∈ l) : ((x : Nat) : Int) ∈ castL l := List.mem_map_of_mem h
theorem of_castL {l : List Nat} {z : Int} (h : z ∈ castL l) : ∃ x, x ∈ l ∧ z = ((x : Nat) : Int) := by
  unfold castL at h
  rw [List.mem_map] at h
  obtain ⟨x, hx, e⟩ := h
  exact ⟨x, hx, e.symm⟩
/-- the i-th statement of the program -/
def top (i : Nat) : Stmt := PySem.Challenge.pw_shipmuster_s01_answers.main.body.getD i (.Pass ⟨0, 0, 0, 0⟩)
end Sm

namespace Sm
open PySem PySem.Spec PyProof.Rows L2 Evl
abbrev s_told_drill : Stmt := top 7
theorem sc_told_drill : FnScope ["message"] ["message"] (defScope s_told_drill) := ⟨rfl, rfl, rfl, by decide +kernel, rfl, by decide +kernel, by decide +kernel⟩
abbrev s_told_persons : Stmt := top 8
theorem sc_told_persons : FnScope ["message"] ["message"] (defScope s_told_persons) := ⟨rfl, rfl, rfl, by decide +kernel, rfl, by decide +kernel, by decide +kernel⟩
abbrev s_told_news : Stmt := top 9
theorem sc_told_news : FnScope ["message"] ["message"] (defScope s_told_news) := ⟨rfl, rfl, rfl, by decide +kernel, rfl, by decide +kernel, by decide +kernel⟩
abbrev s_coming_in : Stmt := top 10
theorem sc_coming_in : FnScope ["minute", "station"] ["minute", "station"] (defScope s_coming_in) := ⟨rfl, rfl, rfl, by decide +kernel, rfl, by decide +kernel, by decide +kernel⟩
abbrev s_minute_of : Stmt := top 11
theorem sc_minute_of : FnScope ["number"] ["number"] (defScope s_minute_of) := ⟨rfl, rfl, rfl, by decide +kernel, rfl, by decide +kernel, by decide +kernel⟩
abbrev s_station_of : Stmt := top 12
theorem sc_station_of : FnScope ["number"] ["number"] (defScope s_station_of) := ⟨rfl, rfl, rfl, by decide +kernel, rfl, by decide +kernel, by decide +kernel⟩
abbrev s_is_minute : Stmt := top 13
theorem sc_is_minute : FnScope ["number"] ["number"] (defScope s_is_minute) := ⟨rfl, rfl, rfl, by decide +kernel, rfl, by decide +kernel, by decide +kernel⟩
abbrev s_is_person_good : Stmt := top 14
theorem sc_is_person_good : FnScope ["number"] ["number"] (defScope s_is_person_good) := ⟨rfl, rfl, rfl, by decide +kernel, rfl, by decide +kernel, by decide +kernel⟩
abbrev s_is_good : Stmt := top 15
theorem sc_is_good : FnScope ["message", "number"] ["message"] (defScope s_is_good) := ⟨rfl, rfl, rfl, by decide +kernel, rfl, by decide +kernel, by decide +kernel⟩
abbrev s_Station_init : Stmt := inClass (top 17) 0
theorem sc_Station_init : FnScope ["self"] ["self"] (defScope s_Station_init) := ⟨rfl, rfl, rfl, by decide +kernel, rfl, by decide +kernel, by decide +kernel⟩
abbrev s_Station_begin : Stmt := inClass (top 17) 1
theorem sc_Station_begin : FnScope ["self", "me"] ["self", "me"] (defScope s_Station_begin) := ⟨rfl, rfl, rfl, by decide +kernel, rfl, by decide +kernel, by decide +kernel⟩
abbrev s_Station_enter_drill : Stmt := inClass (top 17) 2
theorem sc_Station_enter_drill : FnScope ["self", "drill"] ["self", "drill"] (defScope s_Station_enter_drill) := ⟨rfl, rfl, rfl, by decide +kernel, rfl, by decide +kernel, by decide +kernel⟩
abbrev s_Station_here_and_now : Stmt := inClass (top 17) 3
theorem sc_Station_here_and_now : FnScope ["self"] ["self"] (defScope s_Station_here_and_now) := ⟨rfl, rfl, rfl, by decide +kernel, rfl, by decide +kernel, by decide +kernel⟩
abbrev s_Station_news : Stmt := inClass (top 17) 4
theorem sc_Station_news : FnScope ["self", "minutes"] ["self"] (defScope s_Station_news) := ⟨rfl, rfl, rfl, by decide +kernel, rfl, by decide +kernel, by decide +kernel⟩
abbrev s_Station_message_now : Stmt := inClass (top 17) 5
theorem sc_Station_message_now : FnScope ["self"] ["self"] (defScope s_Station_message_now) := ⟨rfl, rfl, rfl, by decide +kernel, rfl, by decide +kernel, by decide +kernel⟩
abbrev s_Station_would_learn : Stmt := inClass (top 17) 6
theorem sc_Station_would_learn : FnScope ["self", "message", "drill", "told", "number", "p"] ["self", "message"] (defScope s_Station_would_learn) := ⟨rfl, rfl, rfl, by decide +kernel, rfl, by decide +kernel, by decide +kernel⟩
abbrev s_Station_hear : Stmt := inClass (top 17) 7
theorem sc_Station_hear : FnScope ["self", "message", "changed", "drill"] ["self", "message"] (defScope s_Station_hear) := ⟨rfl, rfl, rfl, by decide +kernel, rfl, by decide +kernel, by decide +kernel⟩
abbrev s_Station_learn_persons : Stmt := inClass (top 17) 8
theorem sc_Station_learn_persons : FnScope ["self", "told", "p"] ["self", "told"] (defScope s_Station_learn_persons) := ⟨rfl, rfl, rfl, by decide +kernel, rfl, by decide +kernel, by decide +kernel⟩
abbrev s_Station_learn_news : Stmt := inClass (top 17) 9
theorem sc_Station_learn_news : FnScope ["self", "told", "k"] ["self", "told"] (defScope s_Station_learn_news) := ⟨rfl, rfl, rfl, by decide +kernel, rfl, by decide +kernel, by decide +kernel⟩
abbrev s_is_person : Stmt := top 19
theorem sc_is_person : FnScope ["p"] ["p"] (defScope s_is_person) := ⟨rfl, rfl, rfl, by decide +kernel, rfl, by decide +kernel, by decide +kernel⟩
abbrev s_is_station : Stmt := top 20
theorem sc_is_station : FnScope ["k"] ["k"] (defScope s_is_station) := ⟨rfl, rfl, rfl, by decide +kernel, rfl, by decide +kernel, by decide +kernel⟩
abbrev s_is_some_stations : Stmt := top 21
theorem sc_is_some_stations : FnScope ["n"] ["n"] (defScope s_is_some_stations) := ⟨rfl, rfl, rfl, by decide +kernel, rfl, by decide +kernel, by decide +kernel⟩
abbrev s_message_in : Stmt := top 22
theorem sc_message_in : FnScope ["numbers"] ["numbers"] (defScope s_message_in) := ⟨rfl, rfl, rfl, by decide +kernel, rfl, by decide +kernel, by decide +kernel⟩
abbrev s_count_and_bits : Stmt := top 23
theorem sc_count_and_bits : FnScope ["flags", "count", "bits", "bit", "flag"] ["flags"] (defScope s_count_and_bits) := ⟨rfl, rfl, rfl, by decide +kernel, rfl, by decide +kernel, by decide +kernel⟩
abbrev s_who_is_in : Stmt := top 24
theorem sc_who_is_in : FnScope ["station", "number"] ["station"] (defScope s_who_is_in) := ⟨rfl, rfl, rfl, by decide +kernel, rfl, by decide +kernel, by decide +kernel⟩
abbrev s_who_is_not_in : Stmt := top 25
theorem sc_who_is_not_in : FnScope ["station", "number"] ["station"] (defScope s_who_is_not_in) := ⟨rfl, rfl, rfl, by decide +kernel, rfl, by decide +kernel, by decide +kernel⟩
abbrev s_mu_start : Stmt := top 26
theorem sc_mu_start : FnScope ["station", "numbers", "me"] ["station", "numbers"] (defScope s_mu_start) := ⟨rfl, rfl, rfl, by decide +kernel, rfl, by decide +kernel, by decide +kernel⟩
abbrev s_mu_minutes : Stmt := top 27
theorem sc_mu_minutes : FnScope ["station", "numbers", "n"] ["station", "numbers"] (defScope s_mu_minutes) := ⟨rfl, rfl, rfl, by decide +kernel, rfl, by decide +kernel, by decide +kernel⟩
abbrev s_mu_drill : Stmt := top 28
theorem sc_mu_drill : FnScope ["station", "numbers"] ["station", "numbers"] (defScope s_mu_drill) := ⟨rfl, rfl, rfl, by decide +kernel, rfl, by decide +kernel, by decide +kernel⟩
abbrev s_mu_in : Stmt := top 29
theorem sc_mu_in : FnScope ["station", "numbers", "p", "before"] ["station", "numbers"] (defScope s_mu_in) := ⟨rfl, rfl, rfl, by decide +kernel, rfl, by decide +kernel, by decide +kernel⟩
abbrev s_mu_tell : Stmt := top 30
theorem sc_mu_tell : FnScope ["station", "numbers"] ["station", "numbers"] (defScope s_mu_tell) := ⟨rfl, rfl, rfl, by decide +kernel, rfl, by decide +kernel, by decide +kernel⟩
abbrev s_mu_hear : Stmt := top 31
theorem sc_mu_hear : FnScope ["station", "numbers", "message", "changed"] ["station", "numbers"] (defScope s_mu_hear) := ⟨rfl, rfl, rfl, by decide +kernel, rfl, by decide +kernel, by decide +kernel⟩
abbrev s_mu_where : Stmt := top 32
theorem sc_mu_where : FnScope ["station", "numbers", "p", "number"] ["station", "numbers"] (defScope s_mu_where) := ⟨rfl, rfl, rfl, by decide +kernel, rfl, by decide +kernel, by decide +kernel⟩
abbrev s_mu_count : Stmt := top 33
theorem sc_mu_count : FnScope ["station", "numbers"] ["station", "numbers"] (defScope s_mu_count) := ⟨rfl, rfl, rfl, by decide +kernel, rfl, by decide +kernel, by decide +kernel⟩
abbrev s_mu_missing : Stmt := top 34
theorem sc_mu_missing : FnScope ["station", "numbers"] ["station", "numbers"] (defScope s_mu_missing) := ⟨rfl, rfl, rfl, by decide +kernel, rfl, by decide +kernel, by decide +kernel⟩
abbrev s_mu_at : Stmt := top 35
theorem sc_mu_at : FnScope ["station", "numbers", "k", "number"] ["station", "numbers"] (defScope s_mu_at) := ⟨rfl, rfl, rfl, by decide +kernel, rfl, by decide +kernel, by decide +kernel⟩
abbrev s_mu_sure : Stmt := top 36
theorem sc_mu_sure : FnScope ["station", "numbers", "n", "t"] ["station", "numbers"] (defScope s_mu_sure) := ⟨rfl, rfl, rfl, by decide +kernel, rfl, by decide +kernel, by decide +kernel⟩
abbrev s_mu_news : Stmt := top 37
theorem sc_mu_news : FnScope ["station", "numbers", "k"] ["station", "numbers"] (defScope s_mu_news) := ⟨rfl, rfl, rfl, by decide +kernel, rfl, by decide +kernel, by decide +kernel⟩
abbrev s_mu_soonest : Stmt := top 38
theorem sc_mu_soonest : FnScope ["station", "numbers", "n", "minutes", "earliest", "minute"] ["station", "numbers"] (defScope s_mu_soonest) := ⟨rfl, rfl, rfl, by decide +kernel, rfl, by decide +kernel, by decide +kernel⟩
abbrev s_mu_new : Stmt := top 39
theorem sc_mu_new : FnScope ["station", "numbers", "message"] ["station", "numbers"] (defScope s_mu_new) := ⟨rfl, rfl, rfl, by decide +kernel, rfl, by decide +kernel, by decide +kernel⟩
abbrev s_mu_last : Stmt := top 40
theorem sc_mu_last : FnScope ["station", "numbers", "latest", "who", "p"] ["station", "numbers"] (defScope s_mu_last) := ⟨rfl, rfl, rfl, by decide +kernel, rfl, by decide +kernel, by decide +kernel⟩
abbrev s_mu_which : Stmt := top 41
theorem sc_mu_which : FnScope ["station", "numbers"] ["station", "numbers"] (defScope s_mu_which) := ⟨rfl, rfl, rfl, by decide +kernel, rfl, by decide +kernel, by decide +kernel⟩
abbrev s_mu_state : Stmt := top 42
theorem sc_mu_state : FnScope ["station", "numbers"] ["station", "numbers"] (defScope s_mu_state) := ⟨rfl, rfl, rfl, by decide +kernel, rfl, by decide +kernel, by decide +kernel⟩
abbrev s_end_of_call : Stmt := top 46
theorem sc_end_of_call : FnScope ["calls", "place", "number", "end"] ["calls", "place"] (defScope s_end_of_call) := ⟨rfl, rfl, rfl, by decide +kernel, rfl, by decide +kernel, by decide +kernel⟩
abbrev s_answers : Stmt := top 47
theorem sc_answers : FnScope ["calls", "stations", "given", "place", "end", "call", "answered"] ["calls"] (defScope s_answers) := ⟨rfl, rfl, rfl, by decide +kernel, rfl, by decide +kernel, by decide +kernel⟩
/-- what the top has written: numbers, the built-in names, the class -/
structure Env (K : PySem.W.Frag) (mg : Str → Option Value) (C : Addr) : Prop where
  STATIONS : ∃ t, mg "STATIONS" = some (.int 5 t)
  PERSONS : ∃ t, mg "PERSONS" = some (.int 16 t)
  LAST_MINUTE : ∃ t, mg "LAST_MINUTE" = some (.int 100000 t)
  LAST_DRILL : ∃ t, mg "LAST_DRILL" = some (.int 1000 t)
  MOST_HEARD : ∃ t, mg "MOST_HEARD" = some (.int 100000 t)
  MOST_AT_ONCE : ∃ t, mg "MOST_AT_ONCE" = some (.int 1440 t)
  b_len : mg "len" = none
  b_min : mg "min" = none
  b_max : mg "max" = none
  b_all : mg "all" = none
  b_range : mg "range" = none
  b_list : mg "list" = none
  b_sum : mg "sum" = none
  cls : Cls K C
  n_me : NoAttr K C "me"
  n_minute : NoAttr K C "minute"
  n_heard : NoAttr K C "heard"
  n_drill : NoAttr K C "drill"
  n_known : NoAttr K C "known"
  n_others : NoAttr K C "others_news"
/-! ### promises of the defs that change nothing -/
def sp_told_drill (K : PySem.W.Frag) : Sp := fun vs H Q _ => ∃ (b : Addr) (m : List Nat), vs = [.ref b] ∧ SqL K H b (vN m) ∧ m.length = 22 ∧ RetV (.int (m.getD 0 0 : Nat)) H Q
def sp_told_persons (K : PySem.W.Frag) : Sp := fun vs H Q _ => ∃ (b : Addr) (m : List Nat), vs = [.ref b] ∧ SqL K H b (vN m) ∧ m.length = 22 ∧ RetL (vN ((m.drop 1).take 16)) H Q
def sp_told_news (K : PySem.W.Frag) : Sp := fun vs H Q _ => ∃ (b : Addr) (m : List Nat), vs = [.ref b] ∧ SqL K H b (vN m) ∧ m.length = 22 ∧ RetL (vN (m.drop 17)) H Q
def sp_coming_in : Sp := fun vs H Q _ => ∃ m s : Nat, vs = [.int (m : Nat), .int (s : Nat)] ∧ m ≤ 100000 ∧ RetV (.int ((8 * m + s + 1 : Nat) : Int)) H Q
def sp_minute_of : Sp := fun vs H Q _ => ∃ x : Nat, vs = [.int (x : Nat)] ∧ RetV (.int ((x / 8 : Nat) : Int)) H Q
def sp_station_of : Sp := fun vs H Q _ => ∃ x : Nat, vs = [.int (x : Nat)] ∧ RetV (.int (((x % 8 : Nat) : Int) - 1)) H Q
def sp_is_minute : Sp := fun vs H Q _ => ∃ x : Nat, vs = [.int (x : Nat)] ∧ RetV (.bl (decide (x ≤ 100000))) H Q
def sp_is_person_good : Sp := fun vs H Q _ => ∃ x : Nat, vs = [.int (x : Nat)] ∧ RetV (.bl (pgood x)) H Q
def sp_is_good (K : PySem.W.Frag) : Sp := fun vs H Q _ => ∃ (b : Addr) (m : List Nat), vs = [.ref b] ∧ SqL K H b (vN m) ∧ m.length = 22 ∧ RetV (.bl (Km441.good m)) H Q
def sp_is_person : Sp := fun vs H Q _ => ∃ x : Nat, vs = [.int (x : Nat)] ∧ RetV (.bl (decide (x < 16))) H Q
def sp_is_station : Sp := fun vs H Q _ => ∃ x : Nat, vs = [.int (x : Nat)] ∧ RetV (.bl (decide (x < 5))) H Q
def sp_is_some_stations : Sp := fun vs H Q _ => ∃ x : Nat, vs = [.int (x : Nat)] ∧ RetV (.bl (decide (1 ≤ x ∧ x ≤ 5))) H Q
def sp_message_in (K : PySem.W.Frag) : Sp := fun vs H Q _ => ∃ (b : Addr) (m : List Nat), vs = [.ref b] ∧ SqL K H b (vN m) ∧ 1 ≤ m.length ∧ RetL (vN (m.drop 1)) H Q
section
variable {P : Program} {w : World} {K : PySem.W.Frag} {mg : Str → Option Value} {base : Heap} {C f : Addr} {fd : FuncData}
theorem ok_told_drill (F : Fun K "told_drill" "told_drill" s_told_drill f fd) : FnOk P w K mg base CX0 1 f fd ["message"] (sp_told_drill K) := by
  refine F.ok sc_told_drill (fun vs H Q E h => ?_) (fun cdv A outer s H vs Q E hr h => ?_)
  · obtain ⟨b, m, rfl, _⟩ := h
    rfl
  · obtain ⟨b, m, rfl, hs, hm, q⟩ := h
    refine ⟨_, (pss_one (ps_ret (pe_ix ix_list (pv 0) pe_int (fun _ _ => rfl)))), ?_⟩
    exact s_ret (ev_op (ev_var rfl) ev_c (rv_ixL hs (vN_at (i := 0) (by omega)))) q
theorem ok_told_persons (E : Env K mg C) (F : Fun K "told_persons" "told_persons" s_told_persons f fd) : FnOk P w K mg base CX0 1 f fd ["message"] (sp_told_persons K) := by
  refine F.ok sc_told_persons (fun vs H Q E h => ?_) (fun cdv A outer s H vs Q _ hr h => ?_)
  · obtain ⟨b, m, rfl, _⟩ := h
    rfl
  · obtain ⟨b, m, rfl, hs, hm, q⟩ := h
    refine ⟨_, (pss_one (ps_ret (pe_slice sl_list (pv 0) (po_some pe_int) (po_some (pe_op op_add pe_int (pgc E.PERSONS (by rfl))))))), ?_⟩
    have q' : RetL (cutV (vN m) (some ((1 : Nat) : Int)) (some ((17 : Nat) : Int))) H Q := by
      rw [cutV_nat 1 17 (by rw [vN_length]; omega) (by rw [vN_length]; omega), vN_drop, vN_take]
      exact q
    exact s_retL (el_sl (ev_var rfl) (eo_some ev_c) (eo_some (ev_op ev_c ev_c rv_I0)) hs) q'
theorem ok_told_news (E : Env K mg C) (F : Fun K "told_news" "told_news" s_told_news f fd) : FnOk P w K mg base CX0 1 f fd ["message"] (sp_told_news K) := by
  refine F.ok sc_told_news (fun vs H Q E h => ?_) (fun cdv A outer s H vs Q _ hr h => ?_)
  · obtain ⟨b, m, rfl, _⟩ := h
    rfl
  · obtain ⟨b, m, rfl, hs, hm, q⟩ := h
    refine ⟨_, (pss_one (ps_ret (pe_slice sl_list (pv 0) (po_some (pe_op op_add pe_int (pgc E.PERSONS (by rfl)))) po_none))), ?_⟩
    have q' : RetL (cutV (vN m) (some ((17 : Nat) : Int)) none) H Q := by
      rw [cutV_from 17 (by rw [vN_length]; omega), vN_drop]
      exact q
    exact s_retL (el_sl (ev_var rfl) (eo_some (ev_op ev_c ev_c rv_I0)) eo_none hs) q'
theorem ok_coming_in (F : Fun K "coming_in" "coming_in" s_coming_in f fd) : FnOk P w K mg base CX0 1 f fd ["minute", "station"] sp_coming_in := by
  refine F.ok sc_coming_in (fun vs H Q E h => ?_) (fun cdv A outer s H vs Q E hr h => ?_)
  · obtain ⟨m, s, rfl, _⟩ := h
    rfl
  · obtain ⟨m, st, rfl, hm, q⟩ := h
    refine ⟨_, (pss_one (ps_ret (pe_op op_add (pe_op op_add (pe_op op_mul pe_int (pv 0)) (pv 1)) pe_int))), ?_⟩
    refine s_ret (ev_is (ev_op (ev_op (ev_op ev_c (ev_var rfl) (rv_I (.inl ⟨by decide, by decide⟩))) (ev_var rfl) rv_I0) ev_c rv_I0) ?_) q
    simp
theorem ok_minute_of (F : Fun K "minute_of" "minute_of" s_minute_of f fd) : FnOk P w K mg base CX0 1 f fd ["number"] sp_minute_of := by
  refine F.ok sc_minute_of (fun vs H Q E h => ?_) (fun cdv A outer s H vs Q E hr h => ?_)
  · obtain ⟨m, rfl, _⟩ := h
    rfl
  · obtain ⟨m, rfl, q⟩ := h
    refine ⟨_, (pss_one (ps_ret (pe_op op_fdiv (pv 0) pe_int))), ?_⟩
    refine s_ret (ev_is (ev_op (ev_var rfl) ev_c (rv_I ⟨by decide, by decide⟩)) ?_) q
    simp
theorem ok_station_of (F : Fun K "station_of" "station_of" s_station_of f fd) : FnOk P w K mg base CX0 1 f fd ["number"] sp_station_of := by
  refine F.ok sc_station_of (fun vs H Q E h => ?_) (fun cdv A outer s H vs Q E hr h => ?_)
  · obtain ⟨m, rfl, _⟩ := h
    rfl
  · obtain ⟨m, rfl, q⟩ := h
    refine ⟨_, (pss_one (ps_ret (pe_op op_sub (pe_op op_mod (pv 0) pe_int) pe_int))), ?_⟩
    refine s_ret (ev_is (ev_op (ev_op (ev_var rfl) ev_c (rv_I (by show (0 : Int) < 8; decide))) ev_c rv_I0) ?_) q
    simp
theorem ok_is_minute (E : Env K mg C) (F : Fun K "is_minute" "is_minute" s_is_minute f fd) : FnOk P w K mg base CX0 1 f fd ["number"] sp_is_minute := by
  refine F.ok sc_is_minute (fun vs H Q E h => ?_) (fun cdv A outer s H vs Q _ hr h => ?_)
  · obtain ⟨m, rfl, _⟩ := h
    rfl
  · obtain ⟨m, rfl, q⟩ := h
    refine ⟨_, (pss_one (ps_ret (pe_chain op_le op_le pe_int (pv 0) (pgc E.LAST_MINUTE (by rfl))))), ?_⟩
    refine s_ret (ev_is (ev_chain ev_c (ev_var rfl) ev_c) ?_) q
    exact congrArg V.bl (by rw [decide_eq_true (Int.natCast_nonneg m), Bool.true_and]; exact decide_eq_decide.mpr (by omega))
theorem ok_is_person (E : Env K mg C) (F : Fun K "is_person" "is_person" s_is_person f fd) : FnOk P w K mg base CX0 1 f fd ["p"] sp_is_person := by
  refine F.ok sc_is_person (fun vs H Q E h => ?_) (fun cdv A outer s H vs Q _ hr h => ?_)
  · obtain ⟨m, rfl, _⟩ := h
    rfl
  · obtain ⟨m, rfl, q⟩ := h
    refine ⟨_, (pss_one (ps_ret (pe_chain op_le op_lt pe_int (pv 0) (pgc E.PERSONS (by rfl))))), ?_⟩
    refine s_ret (ev_is (ev_chain ev_c (ev_var rfl) ev_c) ?_) q
    exact congrArg V.bl (by rw [decide_eq_true (Int.natCast_nonneg m), Bool.true_and]; exact decide_eq_decide.mpr (by omega))
theorem ok_is_station (E : Env K mg C) (F : Fun K "is_station" "is_station" s_is_station f fd) : FnOk P w K mg base CX0 1 f fd ["k"] sp_is_station := by
  refine F.ok sc_is_station (fun vs H Q E h => ?_) (fun cdv A outer s H vs Q _ hr h => ?_)
  · obtain ⟨m, rfl, _⟩ := h
    rfl
  · obtain ⟨m, rfl, q⟩ := h
    refine ⟨_, (pss_one (ps_ret (pe_chain op_le op_lt pe_int (pv 0) (pgc E.STATIONS (by rfl))))), ?_⟩
    refine s_ret (ev_is (ev_chain ev_c (ev_var rfl) ev_c) ?_) q
    exact congrArg V.bl (by rw [decide_eq_true (Int.natCast_nonneg m), Bool.true_and]; exact decide_eq_decide.mpr (by omega))
theorem ok_is_some_stations (E : Env K mg C) (F : Fun K "is_some_stations" "is_some_stations" s_is_some_stations f fd) : FnOk P w K mg base CX0 1 f fd ["n"] sp_is_some_stations := by
  refine F.ok sc_is_some_stations (fun vs H Q E h => ?_) (fun cdv A outer s H vs Q _ hr h => ?_)
  · obtain ⟨m, rfl, _⟩ := h
    rfl
  · obtain ⟨m, rfl, q⟩ := h
    refine ⟨_, (pss_one (ps_ret (pe_chain op_le op_le pe_int (pv 0) (pgc E.STATIONS (by rfl))))), ?_⟩
    refine s_ret (ev_is (ev_chain ev_c (ev_var rfl) ev_c) ?_) q
    exact congrArg V.bl (by rw [Bool.eq_iff_iff, Bool.and_eq_true, decide_eq_true_eq, decide_eq_true_eq, decide_eq_true_eq]; omega)
theorem ok_message_in (F : Fun K "message_in" "message_in" s_message_in f fd) : FnOk P w K mg base CX0 1 f fd ["numbers"] (sp_message_in K) := by
  refine F.ok sc_message_in (fun vs H Q E h => ?_) (fun cdv A outer s H vs Q _ hr h => ?_)
  · obtain ⟨b, m, rfl, _⟩ := h
    rfl
  · obtain ⟨b, m, rfl, hs, hm, q⟩ := h
    refine ⟨_, (pss_one (ps_ret (pe_slice sl_list (pv 0) (po_some pe_int) po_none))), ?_⟩
    have q' : RetL (cutV (vN m) (some ((1 : Nat) : Int)) none) H Q := by
      rw [cutV_from 1 (by rw [vN_length]; omega), vN_drop]
      exact q
    exact s_retL (el_sl (ev_var rfl) (eo_some ev_c) eo_none hs) q'
theorem ok_is_person_good (E : Env K mg C) (c_station_of : Cal P w K mg base 1 "station_of" sp_station_of) (c_minute_of : Cal P w K mg base 1 "minute_of" sp_minute_of) (c_is_minute : Cal P w K mg base 1 "is_minute" sp_is_minute)
    (F : Fun K "is_person_good" "is_person_good" s_is_person_good f fd) : FnOk P w K mg base CX0 2 f fd ["number"] sp_is_person_good := by
  refine F.ok sc_is_person_good (fun vs H Q E h => ?_) (fun cdv A outer s H vs Q _ hr h => ?_)
  · obtain ⟨m, rfl, _⟩ := h
    rfl
  · obtain ⟨m, rfl, q⟩ := h
    refine ⟨_, (pss_cons (ps_if (pt_cmpR op_eq (pv 0) pe_int (nomark _)) (pss_one (ps_ret pe_bl)) pss_nil)
      (pss_one (ps_ret (pe_and (pe_chain op_le op_lt pe_int (pcl c_station_of hr (by decide) (by rfl) (pa_cons (pv 0) pa_nil)) (pgc E.STATIONS (by rfl))) (pe_one (pcl c_is_minute hr (by decide) (by rfl) (pa_cons (pcl c_minute_of hr (by decide) (by rfl) (pa_cons (pv 0) pa_nil)) pa_nil))))))), ?_⟩
    refine q_when (et_test (ev_op (ev_var rfl) ev_c (rv_eq rfl))) (fun hb H1 e1 => ?_) (fun hb H1 e1 => ?_)
    · have h0 : (V.int (m : Nat)) = V.int 0 := of_decide_eq_true hb
      have h1 : m = 0 := by
        have := V.int.inj h0
        omega
      subst h1
      exact s_ret ev_c fun H2 e2 => q.go (e1.trans e2)
    · have h0 : ¬ (V.int (m : Nat)) = V.int 0 := of_decide_eq_false hb
      have h1 : m ≠ 0 := fun h => h0 (by rw [h]; rfl)
      refine s_ret (ev_is (ev_andV (ev_chain ev_c (ev_cl (ea_cons (ev_var rfl) ea_nil) fun H2 e2 Q2 q2 _ => ⟨m, rfl, q2⟩) ev_c) fun _ =>
        ev_cl (ea_cons (ev_cl (ea_cons (ev_var rfl) ea_nil) fun H2 e2 Q2 q2 _ => ⟨m, rfl, q2⟩) ea_nil) fun H2 e2 Q2 q2 _ => ⟨m / 8, rfl, q2⟩) ?_) fun H2 e2 => q.go (e1.trans e2)
      refine congrArg V.bl ?_
      unfold pgood
      rw [beq_false_of_ne h1, Bool.false_or, ← Bool.and_assoc]
      congr 1
      congr 1
      · exact decide_eq_decide.mpr (by omega)
      · exact decide_eq_decide.mpr (by omega)
theorem ok_is_good (E : Env K mg C) (c_told_drill : Cal P w K mg base 1 "told_drill" (sp_told_drill K)) (c_told_persons : Cal P w K mg base 1 "told_persons" (sp_told_persons K)) (c_told_news : Cal P w K mg base 1 "told_news" (sp_told_news K))
    (c_is_person_good : Cal P w K mg base 2 "is_person_good" sp_is_person_good) (c_is_minute : Cal P w K mg base 1 "is_minute" sp_is_minute)
    (F : Fun K "is_good" "is_good" s_is_good f fd) : FnOk P w K mg base CX0 3 f fd ["message"] (sp_is_good K) := by
  refine F.ok sc_is_good (fun vs H Q E h => ?_) (fun cdv A outer s H vs Q _ hr h => ?_)
  · obtain ⟨b, m, rfl, _⟩ := h
    rfl
  · obtain ⟨b, m, rfl, hs, hm, q⟩ := h
    refine ⟨_, (pss_cons (ps_if (pt_not (pt_chain op_le op_le pe_int (pcl c_told_drill hr (by decide) (by rfl) (pa_cons (pv 0) pa_nil)) (pgc E.LAST_DRILL (by rfl)))) (pss_one (ps_ret pe_bl)) pss_nil)
      (pss_cons (ps_if (pt_not (pt_val (pe_callB (cr_all rfl) (by rfl) E.b_all (by decide +kernel) (pa_cons (pe_lc (own := [("number", 1)]) (g := gName 1) (tt := tYes) rfl sc_is_good.nd (pi_list (pcl c_told_persons hr (by decide) (by rfl) (pa_cons (pv 0) pa_nil))) (blkOk_by (N := ["message", "number"]) (sc := defScope s_is_good) (by decide +kernel)) (fun _ _ _ _ _ => pg_name (i := 1) sc_is_good.nd rfl (by first | exact Or.inl rfl | exact Or.inr rfl)) (fun _ _ _ _ _ => pts_nil) (fun _ _ _ _ _ => (pcl c_is_person_good hr (by decide) (by rfl) (pa_cons (pv 1) pa_nil)))) pa_nil)))) (pss_one (ps_ret pe_bl)) pss_nil)
      (pss_one (ps_ret (pe_callB (cr_all rfl) (by rfl) E.b_all (by decide +kernel) (pa_cons (pe_lc (own := [("number", 1)]) (g := gName 1) (tt := tYes) rfl sc_is_good.nd (pi_list (pcl c_told_news hr (by decide) (by rfl) (pa_cons (pv 0) pa_nil))) (blkOk_by (N := ["message", "number"]) (sc := defScope s_is_good) (by decide +kernel)) (fun _ _ _ _ _ => pg_name (i := 1) sc_is_good.nd rfl (by first | exact Or.inl rfl | exact Or.inr rfl)) (fun _ _ _ _ _ => pts_nil) (fun _ _ _ _ _ => (pcl c_is_minute hr (by decide) (by rfl) (pa_cons (pv 1) pa_nil)))) pa_nil)))))), ?_⟩
    rw [good_eq hm] at q
    have lp : ((m.drop 1).take 16).length ≤ 40000 := by
      rw [List.length_take, List.length_drop]
      omega
    have ln : (m.drop 17).length ≤ 40000 := by
      rw [List.length_drop]
      omega
    refine q_when (et_not (et_test (ev_chain ev_c (ev_cl (ea_cons (ev_var rfl) ea_nil) fun H2 e2 Q2 q2 _ => ⟨b, m, rfl, ex_l e2 hs, hm, q2⟩) ev_c))) (fun hb H1 e1 => ?_) (fun hb H1 e1 => ?_)
    · have hn : ¬ (1 ≤ m.getD 0 0 ∧ m.getD 0 0 ≤ 1000) := fun ⟨h1, h2⟩ => by
        rw [Bool.not_eq_true', Bool.and_eq_false_iff, decide_eq_false_iff_not, decide_eq_false_iff_not] at hb
        omega
      rw [and_no hn] at q
      exact s_ret ev_c fun H2 e2 => q.go (e1.trans e2)
    · have hy : 1 ≤ m.getD 0 0 ∧ m.getD 0 0 ≤ 1000 := by
        rw [Bool.not_eq_false', Bool.and_eq_true, decide_eq_true_eq, decide_eq_true_eq] at hb
        omega
      rw [and_yes hy] at q
      refine q_when (et_not (et_B (ev_allL (bs := ((m.drop 1).take 16).map pgood) ?_))) (fun hb2 H2 e2 => ?_) (fun hb2 H2 e2 => ?_)
      · rw [List.map_map]
        exact el_mapN (el_cl (ea_cons (ev_var rfl) ea_nil) fun H2 e2 Q2 q2 _ => ⟨b, m, rfl, ex_l (e1.trans e2) hs, hm, q2⟩) lp fun x H3 e3 => ev_cl (ea_cons (ev_var rfl) ea_nil) fun H2 e2 Q2 q2 _ => ⟨x, rfl, q2⟩
      · rw [Bool.not_eq_true', all_map_id] at hb2
        rw [hb2, Bool.false_and] at q
        exact s_ret ev_c fun H3 e3 => q.go ((e1.trans e2).trans e3)
      · rw [Bool.not_eq_false', all_map_id] at hb2
        rw [hb2, Bool.true_and] at q
        refine s_ret (ev_is (ev_allL (bs := (m.drop 17).map fun x => decide (x ≤ 100000)) ?_) ?_) fun H3 e3 => q.go ((e1.trans e2).trans e3)
        · rw [List.map_map]
          exact el_mapN (el_cl (ea_cons (ev_var rfl) ea_nil) fun H3 e3 Q2 q2 _ => ⟨b, m, rfl, ex_l ((e1.trans e2).trans e3) hs, hm, q2⟩) ln fun x H3 e3 => ev_cl (ea_cons (ev_var rfl) ea_nil) fun H2 e2 Q2 q2 _ => ⟨x, rfl, q2⟩
        · rw [all_map_id]
end
end Sm

namespace Sm
open PySem PySem.Spec PyProof.Rows L2 Evl
open Km441 (Station)
/-! ### how a station lies in the heap -/
def FS (s : Station) (k n : Addr) : List (Str × V) := [("me", .int (s.me : Nat)), ("minute", .int (s.minute : Nat)), ("heard", .int (s.heard : Nat)), ("drill", .int (s.drill : Nat)), ("known", .ref k), ("others_news", .ref n)]
section
variable {s : Station} {k n : Addr}
theorem F_me : (FS s k n).lookup ("me" : Str) = some (.int (s.me : Nat)) := by kernel_rfl
theorem F_minute : (FS s k n).lookup ("minute" : Str) = some (.int (s.minute : Nat)) := by kernel_rfl
theorem F_heard : (FS s k n).lookup ("heard" : Str) = some (.int (s.heard : Nat)) := by kernel_rfl
theorem F_drill : (FS s k n).lookup ("drill" : Str) = some (.int (s.drill : Nat)) := by kernel_rfl
theorem F_known : (FS s k n).lookup ("known" : Str) = some (.ref k) := by kernel_rfl
theorem F_others : (FS s k n).lookup ("others_news" : Str) = some (.ref n) := by kernel_rfl
theorem F_begin : (FS s k n).lookup ("begin" : Str) = none := by kernel_rfl
theorem F_enter : (FS s k n).lookup ("enter_drill" : Str) = none := by kernel_rfl
theorem F_here : (FS s k n).lookup ("here_and_now" : Str) = none := by kernel_rfl
theorem F_news : (FS s k n).lookup ("news" : Str) = none := by kernel_rfl
theorem F_message : (FS s k n).lookup ("message_now" : Str) = none := by kernel_rfl
theorem F_hear : (FS s k n).lookup ("hear" : Str) = none := by kernel_rfl
theorem F_would : (FS s k n).lookup ("would_learn" : Str) = none := by kernel_rfl
theorem F_lnews : (FS s k n).lookup ("learn_news" : Str) = none := by kernel_rfl
theorem F_lpersons : (FS s k n).lookup ("learn_persons" : Str) = none := by kernel_rfl
end
/-- what is kept of the others' news: all but its own place as the specification has it -/
structure NewsOk (s : Station) (ns : List Nat) : Prop where
  len : ns.length = 5
  eq : ∀ j, j < 5 → j ≠ s.me → ns.getD j 0 = s.news.getD j 0
/-- station s lies at a, what it knows at k, its news at n -/
structure At (C : Addr) (H : Hp) (a k n : Addr) (s : Station) : Prop where
  wf : WF s
  ins : ∃ dx, H a = some (.ins C dx (FS s k n))
  kn : H k = some (.lst (vN s.seen))
  nw : ∃ ns, NewsOk s ns ∧ H n = some (.lst (vN ns))
  ne : k ≠ n
theorem At.ex {C a k n : Addr} {H H' : Hp} {s : Station} (A : At C H a k n s) (e : Ex H H') : At C H' a k n s := by
  obtain ⟨dx, hi⟩ := A.ins
  obtain ⟨ns, ho, hn⟩ := A.nw
  exact ⟨A.wf, ⟨dx, e _ _ hi⟩, e _ _ A.kn, ⟨ns, ho, e _ _ hn⟩, A.ne⟩
/-- all but these three places stands as it stood -/
def Fr (H H' : Hp) (a k n : Addr) : Prop := ∀ b o, H b = some o → b ≠ a → b ≠ k → b ≠ n → H' b = some o
theorem now_eq {s : Station} {ns : List Nat} (h : NewsOk s ns) (hw : WF s) : ns.set s.me s.minute = s.now.news := by
  show ns.set s.me s.minute = s.news.set s.me s.minute
  refine ext_getD (by rw [List.length_set, List.length_set, h.len, hw.newsLen]) fun j hj => ?_
  rw [List.length_set, h.len] at hj
  rw [set_getD (by rw [h.len]; exact hj), set_getD (by rw [hw.newsLen]; exact hj)]
  by_cases e : s.me = j
  · rw [if_pos e, if_pos e]
  · rw [if_neg e, if_neg e]
    exact h.eq j hj (Ne.symm e)
/-! ### promises -/
def sp_count_and_bits (K : PySem.W.Frag) : Sp := fun vs H Q _ => ∃ (b : Addr) (bs : List Bool), vs = [.ref b] ∧ SqL K H b (bs.map V.bl) ∧ RetL [.int ((places bs).length : Nat), .int (Km441.bits (places bs) : Nat)] H Q
def sp_who_is_in (C : Addr) : Sp := fun vs H Q _ => ∃ (a k n : Addr) (s : Station), vs = [.ref a] ∧ At C H a k n s ∧ RetL [.int (s.in_.length : Nat), .int (Km441.bits s.in_ : Nat)] H Q
def sp_who_is_not_in (C : Addr) : Sp := fun vs H Q _ => ∃ (a k n : Addr) (s : Station), vs = [.ref a] ∧ At C H a k n s ∧ RetL [.int (s.missing.length : Nat), .int (Km441.bits s.missing : Nat)] H Q
def sp_here_and_now (C : Addr) : Sp := fun vs H Q _ => ∃ (a k n : Addr) (s : Station), vs = [.ref a] ∧ At C H a k n s ∧ RetV (.int ((8 * s.minute + s.me + 1 : Nat) : Int)) H Q
def sp_news (C : Addr) : Sp := fun vs H Q _ => ∃ (a k n : Addr) (s : Station), vs = [.ref a] ∧ At C H a k n s ∧ RetL (vN s.now.news) H Q
def sp_message_now (C : Addr) : Sp := fun vs H Q _ => ∃ (a k n : Addr) (s : Station), vs = [.ref a] ∧ At C H a k n s ∧ RetL (vN s.message) H Q
section
variable {P : Program} {w : World} {K : PySem.W.Frag} {mg : Str → Option Value} {base : Heap} {C f : Addr} {fd : FuncData}
theorem ok_count_and_bits (F : Fun K "count_and_bits" "count_and_bits" s_count_and_bits f fd) : FnOk P w K mg base CX0 1 f fd ["flags"] (sp_count_and_bits K) := by
  refine F.ok sc_count_and_bits (fun vs H Q E h => ?_) (fun cdv A outer s H vs Q _ hr h => ?_)
  · obtain ⟨b, m, rfl, _⟩ := h
    rfl
  · obtain ⟨b, bs, rfl, hs, q⟩ := h
    refine ⟨_, (pss_cons (ps_set (i := 1) sc_count_and_bits.nd rfl (by first | exact Or.inl rfl | exact Or.inr rfl) pe_int)
      (pss_cons (ps_set (i := 2) sc_count_and_bits.nd rfl (by first | exact Or.inl rfl | exact Or.inr rfl) pe_int)
      (pss_cons (ps_set (i := 3) sc_count_and_bits.nd rfl (by first | exact Or.inl rfl | exact Or.inr rfl) pe_int)
      (pss_cons (ps_for PassesOwn.never rfl (pi_list (pv 0)) (pg_name (i := 4) sc_count_and_bits.nd rfl (by first | exact Or.inl rfl | exact Or.inr rfl))
      (pss_cons (ps_if (pt_val (pv 4)) (pss_cons (ps_aug (i := 1) sc_count_and_bits.nd rfl (by first | exact Or.inl rfl | exact Or.inr rfl) pe_int ip_add)
      (pss_one (ps_aug (i := 2) sc_count_and_bits.nd rfl (by first | exact Or.inl rfl | exact Or.inr rfl) (pv 3) ip_add))) pss_nil)
      (pss_one (ps_set (i := 3) sc_count_and_bits.nd rfl (by first | exact Or.inl rfl | exact Or.inr rfl) (pe_op op_mul pe_int (pv 3))))))
      (pss_one (ps_ret (pe_lst (pa_cons (pv 1) (pa_cons (pv 2) pa_nil))))))))), ?_⟩
    let fl : Nat → Bool := fun k => bs.getD k false
    refine q_asg ev_c fun H1 e1 => q_asg ev_c fun H2 e2 => q_asg ev_c fun H3 e3 => ?_
    have e03 := (e1.trans e2).trans e3
    refine q_forLn (ev_var rfl) (ex_l e03 hs) (fun i σ' H' => ∃ v, σ' = [some (.ref b), some (.int (((List.range i).filter fl).length : Nat)), some (.int (Km441.bits ((List.range i).filter fl) : Nat)), some (.int ((2 ^ i : Nat) : Int)), v] ∧ Ex H H')
      (fun H4 e4 => ⟨none, rfl, e03.trans e4⟩) (fun i σ' H' _ ⟨_, _, e⟩ => ex_l e hs) (fun i x σ' H' hx ⟨v, hσ, e⟩ => ?_) (fun σ' H' ⟨v, hσ, e⟩ => ?_)
    · subst hσ
      rw [List.getElem?_map] at hx
      obtain ⟨y, hy, rfl⟩ : ∃ y, bs[i]? = some y ∧ x = V.bl y := by
        cases hb : bs[i]? with
        | none => rw [hb] at hx; cases hx
        | some y => rw [hb] at hx; exact ⟨y, rfl, (Option.some.inj hx).symm⟩
      have hfl : fl i = y := by
        show bs.getD i false = y
        rw [List.getD, hy]
        rfl
      have hpow : (2 : Int) * ((2 ^ i : Nat) : Int) = ((2 ^ (i + 1) : Nat) : Int) := by
        rw [Nat.pow_succ]
        push_cast
        exact Int.mul_comm _ _
      refine q_when (et_B (ev_var rfl)) (fun hb H1 e1 => ?_) (fun hb H1 e1 => ?_)
      · rw [hb] at hfl
        refine q_aug rfl ev_c fun H2 e2 => s_aug rfl (ev_var rfl) fun H3 e3 => s_asg (ev_op ev_c (ev_var rfl) (rv_I (.inl ⟨by decide, by decide⟩))) fun H4 e4 => ⟨some (.bl y), ?_, (((e.trans e1).trans e2).trans e3).trans e4⟩
        rw [len_yes hfl, bits_yes hfl, ← hpow]
        rfl
      · rw [hb] at hfl
        refine s_asg (ev_op ev_c (ev_var rfl) (rv_I (.inl ⟨by decide, by decide⟩))) fun H4 e4 => ⟨some (.bl y), ?_, (e.trans e1).trans e4⟩
        rw [len_no hfl, bits_no hfl, ← hpow]
        rfl
    · subst hσ
      rw [List.length_map]
      exact s_retL (el_lst (ea_cons (ev_var rfl) (ea_cons (ev_var rfl) ea_nil)) (by show 2 ≤ 100000; decide)) fun p H5 hp e5 h5 => q.go e hp e5 h5
theorem ok_who_is_in (E : Env K mg C) (c_count_and_bits : Cal P w K mg base 1 "count_and_bits" (sp_count_and_bits K)) (F : Fun K "who_is_in" "who_is_in" s_who_is_in f fd) : FnOk P w K mg base CX0 2 f fd ["station"] (sp_who_is_in C) := by
  refine F.ok sc_who_is_in (fun vs H Q E h => ?_) (fun cdv A outer s H vs Q _ hr h => ?_)
  · obtain ⟨a, k, n, s, rfl, _⟩ := h
    rfl
  · obtain ⟨a, k, n, s, rfl, A, q⟩ := h
    refine ⟨_, (pss_one (ps_ret (pcl c_count_and_bits hr (by decide) (by rfl) (pa_cons (pe_lc (own := [("number", 1)]) (g := gName 1) (tt := tYes) rfl sc_who_is_in.nd (pi_list (pe_fld (pv 0) rfl)) (blkOk_by (N := ["station", "number"]) (sc := defScope s_who_is_in) (by decide +kernel)) (fun _ _ _ _ _ => pg_name (i := 1) sc_who_is_in.nd rfl (by first | exact Or.inl rfl | exact Or.inr rfl)) (fun _ _ _ _ _ => pts_nil) (fun _ _ _ _ _ => (pe_cmpR op_ne (pv 1) pe_int (nomark _)))) pa_nil)))), ?_⟩
    obtain ⟨dx, hi⟩ := A.ins
    have hl := A.wf.seenLen
    refine s_retL (el_clL (el_mapL (g := fun x => V.bl (x != 0)) (ev_fld (ev_var rfl) hi E.cls E.n_known F_known) (sq_of A.kn) (by omega) fun x H1 e1 => ev_is (ev_op (ev_var rfl) ev_c (rv_ne rfl)) ?_) fun p H1 e1 hp H2 e2 Q2 q2 _ => ⟨p, s.seen.map fun x => x != 0, rfl, ?_, ?_⟩) q
    · refine congrArg V.bl ?_
      by_cases h0 : x = 0
      · subst h0
        rfl
      · rw [decide_eq_false (fun h => h0 (by have := V.int.inj h; omega))]
        simp [h0]
    · rw [List.map_map]
      exact sq_of (e2 _ _ hp)
    · rw [in_eq hl]
      exact q2
theorem ok_who_is_not_in (E : Env K mg C) (c_count_and_bits : Cal P w K mg base 1 "count_and_bits" (sp_count_and_bits K)) (F : Fun K "who_is_not_in" "who_is_not_in" s_who_is_not_in f fd) : FnOk P w K mg base CX0 2 f fd ["station"] (sp_who_is_not_in C) := by
  refine F.ok sc_who_is_not_in (fun vs H Q E h => ?_) (fun cdv A outer s H vs Q _ hr h => ?_)
  · obtain ⟨a, k, n, s, rfl, _⟩ := h
    rfl
  · obtain ⟨a, k, n, s, rfl, A, q⟩ := h
    refine ⟨_, (pss_one (ps_ret (pcl c_count_and_bits hr (by decide) (by rfl) (pa_cons (pe_lc (own := [("number", 1)]) (g := gName 1) (tt := tYes) rfl sc_who_is_not_in.nd (pi_list (pe_fld (pv 0) rfl)) (blkOk_by (N := ["station", "number"]) (sc := defScope s_who_is_not_in) (by decide +kernel)) (fun _ _ _ _ _ => pg_name (i := 1) sc_who_is_not_in.nd rfl (by first | exact Or.inl rfl | exact Or.inr rfl)) (fun _ _ _ _ _ => pts_nil) (fun _ _ _ _ _ => (pe_cmpR op_eq (pv 1) pe_int (nomark _)))) pa_nil)))), ?_⟩
    obtain ⟨dx, hi⟩ := A.ins
    have hl := A.wf.seenLen
    refine s_retL (el_clL (el_mapL (g := fun x => V.bl (x == 0)) (ev_fld (ev_var rfl) hi E.cls E.n_known F_known) (sq_of A.kn) (by omega) fun x H1 e1 => ev_is (ev_op (ev_var rfl) ev_c (rv_eq rfl)) ?_) fun p H1 e1 hp H2 e2 Q2 q2 _ => ⟨p, s.seen.map fun x => x == 0, rfl, ?_, ?_⟩) q
    · refine congrArg V.bl ?_
      by_cases h0 : x = 0
      · subst h0
        rfl
      · rw [decide_eq_false (fun h => h0 (by have := V.int.inj h; omega))]
        simp [h0]
    · rw [List.map_map]
      exact sq_of (e2 _ _ hp)
    · rw [missing_eq hl]
      exact q2
theorem ok_here_and_now (E : Env K mg C) (c_coming_in : Cal P w K mg base 1 "coming_in" sp_coming_in) (F : Fun K "here_and_now" "Station.here_and_now" s_Station_here_and_now f fd) : FnOk P w K mg base CX0 2 f fd ["self"] (sp_here_and_now C) := by
  refine F.ok sc_Station_here_and_now (fun vs H Q E h => ?_) (fun cdv A outer s H vs Q _ hr h => ?_)
  · obtain ⟨a, k, n, s, rfl, _⟩ := h
    rfl
  · obtain ⟨a, k, n, s, rfl, A, q⟩ := h
    refine ⟨_, (pss_one (ps_ret (pcl c_coming_in hr (by decide) (by rfl) (pa_cons (pe_fld (pv 0) rfl) (pa_cons (pe_fld (pv 0) rfl) pa_nil))))), ?_⟩
    obtain ⟨dx, hi⟩ := A.ins
    exact s_ret (ev_cl (ea_cons (ev_fld (ev_var rfl) hi E.cls E.n_minute F_minute) (ea_cons (ev_fld (ev_var rfl) hi E.cls E.n_me F_me) ea_nil)) fun H1 e1 Q2 q2 _ => ⟨s.minute, s.me, rfl, A.wf.minute, q2⟩) q
theorem ok_news (E : Env K mg C) (F : Fun K "news" "Station.news" s_Station_news f fd) : FnOk P w K mg base CX0 1 f fd ["self"] (sp_news C) := by
  refine F.ok sc_Station_news (fun vs H Q E h => ?_) (fun cdv A outer s H vs Q _ hr h => ?_)
  · obtain ⟨a, k, n, s, rfl, _⟩ := h
    rfl
  · obtain ⟨a, k, n, s, rfl, A, q⟩ := h
    refine ⟨_, (pss_cons (ps_set (i := 1) sc_Station_news.nd rfl (by first | exact Or.inl rfl | exact Or.inr rfl) (pe_callTy call_list_of (by rfl) E.b_list (by decide +kernel) (pa_cons (pe_fld (pv 0) rfl) pa_nil)))
      (pss_cons (ps_asg (pe_fld (pv 0) rfl) (pg_sub (pv 1) (pe_fld (pv 0) rfl) set_list))
      (pss_one (ps_ret (pv 1))))), ?_⟩
    obtain ⟨dx, hi⟩ := A.ins
    obtain ⟨ns, ho, hn⟩ := A.nw
    refine q_asgL (el_list (ev_fld (ev_var rfl) hi E.cls E.n_others F_others) (sq_of hn)) fun p H1 hp e1 h1 => ?_
    refine q_setL (j := s.me) h1 (ev_fld (ev_var rfl) (e1 _ _ hi) E.cls E.n_minute F_minute) (ev_var rfl) (ev_fld (ev_var rfl) (e1 _ _ hi) E.cls E.n_me F_me) (by rw [vN_length, ho.len]; exact A.wf.me) fun H2 e2 => ?_
    refine s_ret (ev_var rfl) fun H3 e3 => ?_
    rw [vN_set, now_eq ho A.wf] at e3
    exact q p H3 hp (((e1.trans e2).mut hp).trans e3) (e3 _ _ upd_same)
theorem ok_message_now (E : Env K mg C) (c_Station_news : Met P w K mg base 1 C "news" (sp_news C)) (F : Fun K "message_now" "Station.message_now" s_Station_message_now f fd) : FnOk P w K mg base CX0 2 f fd ["self"] (sp_message_now C) := by
  refine F.ok sc_Station_message_now (fun vs H Q E h => ?_) (fun cdv A outer s H vs Q _ hr h => ?_)
  · obtain ⟨a, k, n, s, rfl, _⟩ := h
    rfl
  · obtain ⟨a, k, n, s, rfl, A, q⟩ := h
    refine ⟨_, (pss_one (ps_ret (pe_op op_cat (pe_op op_cat (pe_lst (pa_cons (pe_fld (pv 0) rfl) pa_nil)) (pe_fld (pv 0) rfl)) (pmt0 c_Station_news hr (by decide) (pv 0))))), ?_⟩
    obtain ⟨dx, hi⟩ := A.ins
    have hl := A.wf.seenLen
    have hn : s.now.news.length = 5 := by
      show (s.news.set s.me s.minute).length = 5
      rw [List.length_set, A.wf.newsLen]
    refine s_retL (el_is (el_catLL (xs := [V.int (s.drill : Nat)] ++ vN s.seen) (ys := vN s.now.news) (el_catLV (el_lst (ea_cons (ev_fld (ev_var rfl) hi E.cls E.n_drill F_drill) ea_nil) (by show 1 ≤ 100000; decide)) (ev_fld (ev_var rfl) hi E.cls E.n_known F_known) A.kn ?_)
      (el_mt (ev_var rfl) hi F_news ea_nil fun H1 e1 Q2 q2 _ => ⟨a, k, n, s, rfl, A.ex e1, q2⟩) ?_) ?_) q
    · rw [vN_length, hl]
      show 1 + 16 ≤ 100000
      decide
    · rw [List.length_append, vN_length, vN_length, hl, hn]
      show 1 + 16 + 5 ≤ 100000
      decide
    · show [V.int (s.drill : Nat)] ++ vN s.seen ++ vN s.now.news = vN (s.drill :: (s.seen ++ s.now.news))
      unfold vN
      rw [List.map_cons, List.map_append, List.append_assoc]
      rfl
end
end Sm

namespace Sm
open PySem PySem.Spec PyProof.Rows L2 Evl
open Km441 (Station)
/-- the fields behind enter_drill -/
def entered (d : Nat) (k n : Addr) (fs : List (Str × V)) : List (Str × V) := putF "others_news" (.ref n) (putF "known" (.ref k) (putF "drill" (.int (d : Nat)) fs))
theorem put_len {f : Str} {v : V} : ∀ fs : List (Str × V), (putF f v fs).length ≤ fs.length + 1
  | [] => Nat.le_refl _
  | (g, x) :: r => by
    unfold putF
    split
    · exact Nat.le_succ _
    · exact Nat.succ_le_succ (put_len r)
theorem entered_FS {s : Station} {k n k' n' : Addr} {d : Nat} : entered d k' n' (FS s k n) = FS { s with drill := d } k' n' := by kernel_rfl
theorem FS_me {s : Station} {k n : Addr} {x : Nat} : putF "me" (.int (x : Nat)) (FS s k n) = FS { s with me := x } k n := by kernel_rfl
theorem FS_minute {s : Station} {k n : Addr} {x : Nat} : putF "minute" (.int (x : Nat)) (FS s k n) = FS { s with minute := x } k n := by kernel_rfl
theorem FS_heard {s : Station} {k n : Addr} {x : Nat} : putF "heard" (.int (x : Nat)) (FS s k n) = FS { s with heard := x } k n := by kernel_rfl
/-- the fields behind begin -/
def begun (me : Nat) (k n : Addr) (fs : List (Str × V)) : List (Str × V) := entered 0 k n (putF "heard" (.int (0 : Nat)) (putF "minute" (.int (0 : Nat)) (putF "me" (.int (me : Nat)) fs)))
theorem begun_FS {s : Station} {k n k' n' : Addr} {me : Nat} : begun me k' n' (FS s k n) = FS (Km441.station0 me) k' n' := by
  unfold begun
  rw [FS_me, FS_minute, FS_heard, entered_FS]
  rfl
theorem begun_nil {k' n' : Addr} {me : Nat} : begun me k' n' [] = FS (Km441.station0 me) k' n' := by kernel_rfl
/-- nothing known of anybody, of any station -/
abbrev none16 : List V := vN (List.replicate 16 0)
abbrev none5 : List V := vN (List.replicate 5 0)
/-! ### promises -/
def sp_enter_drill (C : Addr) : Sp := fun vs H Q _ => ∃ (a dx : Addr) (fs : List (Str × V)) (d : Nat), vs = [.ref a, .int (d : Nat)] ∧ H a = some (.ins C dx fs) ∧ fs.length < 900 ∧
  ∀ (H' : Hp) (k n : Addr), H k = none → H n = none → k ≠ n → H' a = some (.ins C dx (entered d k n fs)) → H' k = some (.lst none16) → H' n = some (.lst none5) → (∀ b o, H b = some o → b ≠ a → H' b = some o) → Q .non H'
def sp_begin (C : Addr) : Sp := fun vs H Q _ => ∃ (a dx : Addr) (fs : List (Str × V)) (me : Nat), vs = [.ref a, .int (me : Nat)] ∧ H a = some (.ins C dx fs) ∧ fs.length < 800 ∧ fs.lookup ("enter_drill" : Str) = none ∧
  ∀ (H' : Hp) (k n : Addr), H k = none → H n = none → k ≠ n → H' a = some (.ins C dx (begun me k n fs)) → H' k = some (.lst none16) → H' n = some (.lst none5) → (∀ b o, H b = some o → b ≠ a → H' b = some o) → Q .non H'
def sp_init (C : Addr) : Sp := fun vs H Q _ => ∃ (a dx : Addr), vs = [.ref a] ∧ H a = some (.ins C dx []) ∧
  ∀ (H' : Hp) (k n : Addr), H k = none → H n = none → At C H' a k n (Km441.station0 0) → (∀ b o, H b = some o → b ≠ a → H' b = some o) → Q .non H'
def sp_learn_news (C : Addr) : Sp := fun vs H Q _ => ∃ (a k n : Addr) (s : Station) (b : Addr) (m : List Nat), vs = [.ref a, .ref b] ∧ At C H a k n s ∧ H b = some (.lst (vN m)) ∧ b ≠ n ∧ m.length = 5 ∧ (∀ x ∈ m, x ≤ 100000) ∧
  ∀ H' : Hp, At C H' a k n { s with news := Km441.merge s.news m } → (∀ c o, H c = some o → c ≠ n → H' c = some o) → Q .non H'
def sp_learn_persons (C : Addr) : Sp := fun vs H Q _ => ∃ (a k n : Addr) (s : Station) (b : Addr) (m : List Nat), vs = [.ref a, .ref b] ∧ At C H a k n s ∧ H b = some (.lst (vN m)) ∧ b ≠ k ∧ m.length = 16 ∧ (∀ x ∈ m, x = 0 ∨ (1 ≤ x % 8 ∧ x % 8 ≤ 5 ∧ x / 8 ≤ 100000)) ∧
  ∀ H' : Hp, At C H' a k n { s with seen := Km441.merge s.seen m } → (∀ c o, H c = some o → c ≠ k → H' c = some o) → Q .non H'
section
variable {P : Program} {w : World} {K : PySem.W.Frag} {mg : Str → Option Value} {base : Heap} {C f : Addr} {fd : FuncData}
theorem ok_enter_drill (E : Env K mg C) (F : Fun K "enter_drill" "Station.enter_drill" s_Station_enter_drill f fd) : FnOk P w K mg base CX0 1 f fd ["self", "drill"] (sp_enter_drill C) := by
  refine F.ok sc_Station_enter_drill (fun vs H Q E h => ?_) (fun cdv A outer s H vs Q _ hr h => ?_)
  · obtain ⟨a, dx, fs, d, rfl, _⟩ := h
    rfl
  · obtain ⟨a, dx, fs, d, rfl, hi, hl, q⟩ := h
    refine ⟨_, (pss_cons (ps_fld (pv 0) (pv 1) rfl)
      (pss_cons (ps_fld (pv 0) (pe_op op_rep (pe_lst (pa_cons pe_int pa_nil)) (pgc E.PERSONS (by rfl))) rfl)
      (pss_one (ps_fld (pv 0) (pe_op op_rep (pe_lst (pa_cons pe_int pa_nil)) (pgc E.STATIONS (by rfl))) rfl)))), ?_⟩
    refine q_fld (ev_var rfl) (ev_var rfl) hi E.cls E.n_drill (by omega) fun H1 e1 => ?_
    have l1 := put_len (f := ("drill" : Str)) (v := .int (d : Nat)) fs
    refine q_fldL (el_rep (k := 16) (el_lst (ea_cons ev_c ea_nil) (by show 1 ≤ 100000; decide)) ev_c (by decide) (by show 1 * 16 ≤ 100000; decide)) (ev_var rfl) upd_same E.cls E.n_known (by omega) fun k H2 hk e2 h2 => ?_
    have l2 := put_len (f := ("known" : Str)) (v := .ref k) (putF "drill" (.int (d : Nat)) fs)
    refine s_fldL (el_rep (k := 5) (el_lst (ea_cons ev_c ea_nil) (by show 1 ≤ 100000; decide)) ev_c (by decide) (by show 1 * 5 ≤ 100000; decide)) (ev_var rfl) upd_same E.cls E.n_others (by omega) fun n H3 hn e3 h3 => ?_
    have ka := ne_upd hk
    have na := ne_upd hn
    have b1 : But H (upd H1 a (.ins C dx (putF "drill" (.int (d : Nat)) fs))) a := (But.of e1).upd
    have b2 : But H (upd H2 a (.ins C dx (putF "known" (.ref k) (putF "drill" (.int (d : Nat)) fs)))) a := (b1.ex e2).upd
    have k2 : (upd H2 a (.ins C dx (putF "known" (.ref k) (putF "drill" (.int (d : Nat)) fs)))) k = some (.lst none16) := by
      rw [upd_ne ka]
      exact h2
    have nk : k ≠ n := ne_of_none k2 hn
    refine q _ k n (b1.free hk ka) (b2.free hn na) nk upd_same ?_ ?_ ((b2.ex e3).upd)
    · rw [upd_ne ka]
      exact e3 _ _ k2
    · rw [upd_ne na]
      exact h3
theorem ok_begin (E : Env K mg C) (c_Station_enter_drill : Met P w K mg base 1 C "enter_drill" (sp_enter_drill C)) (F : Fun K "begin" "Station.begin" s_Station_begin f fd) : FnOk P w K mg base CX0 2 f fd ["self", "me"] (sp_begin C) := by
  refine F.ok sc_Station_begin (fun vs H Q E h => ?_) (fun cdv A outer s H vs Q _ hr h => ?_)
  · obtain ⟨a, dx, fs, d, rfl, _⟩ := h
    rfl
  · obtain ⟨a, dx, fs, me, rfl, hi, hl, hno, q⟩ := h
    refine ⟨_, (pss_cons (ps_fld (pv 0) (pv 1) rfl)
      (pss_cons (ps_fld (pv 0) pe_int rfl)
      (pss_cons (ps_fld (pv 0) pe_int rfl)
      (pss_one (ps_expr (pmt c_Station_enter_drill hr (by decide) (pv 0) (pa_cons pe_int pa_nil))))))), ?_⟩
    refine q_fld (ev_var rfl) (ev_var rfl) hi E.cls E.n_me (by omega) fun H1 e1 => ?_
    have l1 := put_len (f := ("me" : Str)) (v := .int (me : Nat)) fs
    refine q_fld (ev_c (v := .int (0 : Nat))) (ev_var rfl) upd_same E.cls E.n_minute (by omega) fun H2 e2 => ?_
    have l2 := put_len (f := ("minute" : Str)) (v := .int (0 : Nat)) (putF "me" (.int (me : Nat)) fs)
    refine q_fld (ev_c (v := .int (0 : Nat))) (ev_var rfl) upd_same E.cls E.n_heard (by omega) fun H3 e3 => ?_
    have l3 := put_len (f := ("heard" : Str)) (v := .int (0 : Nat)) (putF "minute" (.int (0 : Nat)) (putF "me" (.int (me : Nat)) fs))
    have b3 : But H (upd H3 a (.ins C dx (putF "heard" (.int (0 : Nat)) (putF "minute" (.int (0 : Nat)) (putF "me" (.int (me : Nat)) fs))))) a := (((But.of e1).upd.ex e2).upd.ex e3).upd
    refine s_mt (ev_var rfl) upd_same ?_ (ea_cons (ev_c (v := .int (0 : Nat))) ea_nil) fun H4 e4 => ⟨a, dx, _, 0, rfl, e4 _ _ upd_same, by omega, fun H' k n hk hn kn h1 h2 h3 b4 => ?_⟩
    · rw [lookup_putF, if_neg (by decide +kernel), lookup_putF, if_neg (by decide +kernel), lookup_putF, if_neg (by decide +kernel)]
      exact hno
    · have b5 := b3.ex e4
      have ka := ne_of_none (e4 _ _ upd_same) hk
      have na := ne_of_none (e4 _ _ upd_same) hn
      exact q H' k n (b5.free hk (Ne.symm ka)) (b5.free hn (Ne.symm na)) kn h1 h2 h3 (b5.trans b4)
theorem ok_init (E : Env K mg C) (c_Station_begin : Met P w K mg base 2 C "begin" (sp_begin C)) (F : Fun K "__init__" "Station.__init__" s_Station_init f fd) : FnOk P w K mg base CX0 3 f fd ["self"] (sp_init C) := by
  refine F.ok sc_Station_init (fun vs H Q E h => ?_) (fun cdv A outer s H vs Q _ hr h => ?_)
  · obtain ⟨a, dx, rfl, _⟩ := h
    rfl
  · obtain ⟨a, dx, rfl, hi, q⟩ := h
    refine ⟨_, (pss_one (ps_expr (pmt c_Station_begin hr (by decide) (pv 0) (pa_cons pe_int pa_nil)))), ?_⟩
    refine s_mt (ev_var rfl) hi rfl (ea_cons (ev_c (v := .int (0 : Nat))) ea_nil) fun H1 e1 => ⟨a, dx, [], 0, rfl, e1 _ _ hi, by decide, rfl, fun H' k n hk hn kn h1 h2 h3 b => ?_⟩
    rw [begun_nil] at h1
    exact q H' k n (fresh_back e1 hk) (fresh_back e1 hn) ⟨wf_start (by decide), ⟨dx, h1⟩, h2, ⟨_, ⟨rfl, fun _ _ _ => rfl⟩, h3⟩, kn⟩ ((But.of e1).trans b)
end
end Sm

namespace Sm
open PySem PySem.Spec PyProof.Rows L2 Evl
open Km441 (Station)
section
variable {P : Program} {w : World} {K : PySem.W.Frag} {mg : Str → Option Value} {base' : Heap} {C f : Addr} {fd : FuncData}
theorem ok_learn_news (E : Env K mg C) (F : Fun K "learn_news" "Station.learn_news" s_Station_learn_news f fd) : FnOk P w K mg base' CX0 1 f fd ["self", "told"] (sp_learn_news C) := by
  refine F.ok sc_Station_learn_news (fun vs H Q E h => ?_) (fun cdv A outer s H vs Q _ hr h => ?_)
  · obtain ⟨a, k, n, s, b, m, rfl, _⟩ := h
    rfl
  · obtain ⟨a, k, n, s, b, m, rfl, A, hb, bn, hm, h5, q⟩ := h
    refine ⟨_, (pss_one (ps_for PassesOwn.never rfl (pi_range1 rfl E.b_range (pa_cons (pgc E.STATIONS (by rfl)) pa_nil)) (pg_name (i := 2) sc_Station_learn_news.nd rfl (by first | exact Or.inl rfl | exact Or.inr rfl))
      (pss_one (ps_if (pt_cmpR op_ne (pv 2) (pe_fld (pv 0) rfl) (nomark _)) (pss_one (ps_asg (pe_callB (call_max2 rfl) (by rfl) E.b_max (by decide +kernel) (pa_cons (pe_ix ix_list (pe_fld (pv 0) rfl) (pv 2) (fun _ _ => rfl)) (pa_cons (pe_ix ix_list (pv 1) (pv 2) (fun _ _ => rfl)) pa_nil))) (pg_sub (pe_fld (pv 0) rfl) (pv 2) set_list))) pss_nil)))), ?_⟩
    obtain ⟨dx, hi⟩ := A.ins
    obtain ⟨ns, ho, hn⟩ := A.nw
    have an : a ≠ n := ne_of hi hn (by intro z; cases z)
    refine s_forR1 (ea_cons (ev_c (v := .int 5)) ea_nil) (by decide) (fun i σ' H' => ∃ v cur, σ' = [some (.ref a), some (.ref b), v] ∧ cur.length = 5 ∧ (∀ j, j < 5 → cur.getD j 0 = if j < i ∧ j ≠ s.me then max (ns.getD j 0) (m.getD j 0) else ns.getD j 0) ∧ H' n = some (.lst (vN cur)) ∧ But H H' n)
      (fun H1 e1 => ⟨none, ns, rfl, ho.len, fun j _ => by rw [if_neg (by omega)], e1 _ _ hn, But.of e1⟩) ?_ ?_
    · rintro i σ' H' hi5 ⟨v, cur, rfl, hcl, hcur, hcn, bt⟩
      have i5 : i < 5 := by omega
      have hi' := bt _ _ hi an
      have hb' := bt _ _ hb bn
      refine s_when (et_test (ev_op (ev_var rfl) (ev_fld (ev_var rfl) hi' E.cls E.n_me F_me) (rv_ne rfl))) (fun hbb H1 e1 => ?_) (fun hbb H1 e1 => ?_)
      · have hne : i ≠ s.me := fun e => by
          rw [e] at hbb
          simp at hbb
        refine s_setL (j := i) (e1 _ _ hcn) (ev_is (ev_max2 (ev_op (ev_fld (ev_var rfl) (e1 _ _ hi') E.cls E.n_others F_others) (ev_var rfl) (rv_ixL (sq_of (e1 _ _ hcn)) (vN_at (by omega)))) (ev_op (ev_var rfl) (ev_var rfl) (rv_ixL (sq_of (e1 _ _ hb')) (vN_at (by omega))))) max_int)
          (ev_fld (ev_var rfl) (e1 _ _ hi') E.cls E.n_others F_others) (ev_var rfl) (by rw [vN_length]; omega) fun H2 e2 => ⟨some (.int (i : Nat)), cur.set i (max (cur.getD i 0) (m.getD i 0)), rfl, by rw [List.length_set, hcl], fun j hj => ?_, ?_, ?_⟩
        · rw [set_getD (by omega)]
          by_cases e : i = j
          · subst e
            rw [if_pos rfl, if_pos ⟨Nat.lt_succ_self _, hne⟩, hcur i hj, if_neg (by omega)]
          · rw [if_neg e, hcur j hj]
            by_cases c : j < i ∧ j ≠ s.me
            · rw [if_pos c, if_pos ⟨by omega, c.2⟩]
            · rw [if_neg c, if_neg (fun z => c ⟨by omega, z.2⟩)]
        · rw [vN_set, upd_same]
        · exact (bt.ex (e1.trans e2)).upd
      · have heq : i = s.me := by
          rw [Bool.not_eq_false'] at hbb
          have := V.int.inj (of_decide_eq_true hbb)
          omega
        refine ⟨some (.int (i : Nat)), cur, rfl, hcl, fun j hj => ?_, e1 _ _ hcn, bt.ex e1⟩
        rw [hcur j hj]
        by_cases c : j < i ∧ j ≠ s.me
        · rw [if_pos c, if_pos ⟨by omega, c.2⟩]
        · rw [if_neg c, if_neg (fun z => c ⟨by omega, z.2⟩)]
    · rintro σ' H' ⟨v, cur, rfl, hcl, hcur, hcn, bt⟩
      refine q H' ⟨wf_news A.wf hm h5, ⟨dx, bt _ _ hi an⟩, bt _ _ A.kn A.ne, ⟨cur, ⟨hcl, fun j hj hne => ?_⟩, hcn⟩, A.ne⟩ bt
      rw [hcur j hj, if_pos ⟨hj, hne⟩, ho.eq j hj hne]
      exact (merge_getD (by rw [A.wf.newsLen]; exact hj)).symm
theorem ok_learn_persons (E : Env K mg C) (F : Fun K "learn_persons" "Station.learn_persons" s_Station_learn_persons f fd) : FnOk P w K mg base' CX0 1 f fd ["self", "told"] (sp_learn_persons C) := by
  refine F.ok sc_Station_learn_persons (fun vs H Q E h => ?_) (fun cdv A outer s H vs Q _ hr h => ?_)
  · obtain ⟨a, k, n, s, b, m, rfl, _⟩ := h
    rfl
  · obtain ⟨a, k, n, s, b, m, rfl, A, hb, bk, hm, h5, q⟩ := h
    refine ⟨_, (pss_one (ps_for PassesOwn.never rfl (pi_range1 rfl E.b_range (pa_cons (pgc E.PERSONS (by rfl)) pa_nil)) (pg_name (i := 2) sc_Station_learn_persons.nd rfl (by first | exact Or.inl rfl | exact Or.inr rfl))
      (pss_one (ps_asg (pe_callB (call_max2 rfl) (by rfl) E.b_max (by decide +kernel) (pa_cons (pe_ix ix_list (pe_fld (pv 0) rfl) (pv 2) (fun _ _ => rfl)) (pa_cons (pe_ix ix_list (pv 1) (pv 2) (fun _ _ => rfl)) pa_nil))) (pg_sub (pe_fld (pv 0) rfl) (pv 2) set_list))))), ?_⟩
    obtain ⟨dx, hi⟩ := A.ins
    obtain ⟨ns, ho, hn⟩ := A.nw
    have hsl := A.wf.seenLen
    have ak : a ≠ k := ne_of hi A.kn (by intro z; cases z)
    refine s_forR1 (ea_cons (ev_c (v := .int 16)) ea_nil) (by decide) (fun i σ' H' => ∃ v, σ' = [some (.ref a), some (.ref b), v] ∧ H' k = some (.lst (vN (mixed i s.seen m))) ∧ But H H' k)
      (fun H1 e1 => ⟨none, rfl, by rw [mixed_zero]; exact e1 _ _ A.kn, But.of e1⟩) ?_ ?_
    · rintro i σ' H' hi5 ⟨v, rfl, hk, bt⟩
      have i5 : i < 16 := by omega
      have hi' := bt _ _ hi ak
      have hb' := bt _ _ hb bk
      have hml : i < (mixed i s.seen m).length := by rw [mixed_length]; omega
      have hcur : (mixed i s.seen m).getD i 0 = s.seen.getD i 0 := by rw [mixed_getD (by omega), if_neg (Nat.lt_irrefl _)]
      refine s_setL (j := i) hk (ev_is (ev_max2 (ev_op (ev_fld (ev_var rfl) hi' E.cls E.n_known F_known) (ev_var rfl) (rv_ixL (sq_of hk) (vN_at hml))) (ev_op (ev_var rfl) (ev_var rfl) (rv_ixL (sq_of hb') (vN_at (by omega))))) max_int)
        (ev_fld (ev_var rfl) hi' E.cls E.n_known F_known) (ev_var rfl) (by rw [vN_length]; exact hml) fun H2 e2 => ⟨some (.int (i : Nat)), rfl, ?_, (bt.ex e2).upd⟩
      rw [vN_set, upd_same, hcur, mixed_turn (by omega)]
    · rintro σ' H' ⟨v, rfl, hk, bt⟩
      refine q H' ⟨wf_seen A.wf hm h5, ⟨dx, bt _ _ hi ak⟩, ?_, ⟨ns, ⟨ho.len, ho.eq⟩, bt _ _ hn (Ne.symm A.ne)⟩, A.ne⟩ bt
      rw [show ((16 : Int).toNat) = 16 from rfl, mixed_all (by omega)] at hk
      exact hk
end
/-! ### hearing -/
def sp_hear (C : Addr) : Sp := fun vs H Q _ => ∃ (a k n : Addr) (s : Station) (b : Addr) (m : List Nat), vs = [.ref a, .ref b] ∧ At C H a k n s ∧ H b = some (.lst (vN m)) ∧ b ≠ k ∧ b ≠ n ∧ m.length = 22 ∧ Km441.good m = true ∧
  ∀ (H' : Hp) (k' n' : Addr), At C H' a k' n' (Km441.act s (.hear m)).1 → (k' = k ∨ H k' = none) → (n' = n ∨ H n' = none) → Fr H H' a k n → Q (.int ((if m.getD 0 0 < s.drill then 0 else s.changes m : Nat) : Int)) H'
theorem base_heard {s : Station} {m : List Nat} {h : Nat} : base { s with heard := h } m = { base s m with heard := h } := by
  unfold base
  show (if s.drill < _ then _ else _) = _
  split <;> rfl
theorem act_hear {s : Station} {m : List Nat} (g : Km441.good m = true) : (Km441.act s (.hear m)).1 = { s.join m with heard := min 100000 (s.heard + 1) } := by
  show (if Km441.good m = false then _ else _ : Station × Km441.Ans).1 = _
  rw [if_neg (by rw [g]; exact Bool.noConfusion)]
  rfl
/-! ### what would be learnt -/
def sp_would_learn (C : Addr) : Sp := fun vs H Q _ => ∃ (a k n : Addr) (s : Station) (b : Addr) (m : List Nat), vs = [.ref a, .ref b] ∧ At C H a k n s ∧ H b = some (.lst (vN m)) ∧ m.length = 22 ∧ Km441.good m = true ∧
  RetV (.int ((if m.getD 0 0 < s.drill then 0 else s.changes m : Nat) : Int)) H Q
theorem rep_getD (j : Nat) : (List.replicate 16 0).getD j 0 = 0 := by
  rw [List.getD, List.getElem?_replicate]
  split <;> rfl
theorem base_seen_new {s : Station} {m : List Nat} (h : s.drill < m.getD 0 0) : (base s m).seen = List.replicate 16 0 := by
  unfold base
  rw [if_pos h]
  rfl
theorem base_seen_old {s : Station} {m : List Nat} (h : ¬ s.drill < m.getD 0 0) : (base s m).seen = s.seen := by
  unfold base
  rw [if_neg h]
section
variable {P : Program} {w : World} {K : PySem.W.Frag} {mg : Str → Option Value} {base' : Heap} {C f : Addr} {fd : FuncData}
theorem ok_would_learn (E : Env K mg C) (c_told_drill : Cal P w K mg base' 1 "told_drill" (sp_told_drill K)) (c_told_persons : Cal P w K mg base' 1 "told_persons" (sp_told_persons K))
    (F : Fun K "would_learn" "Station.would_learn" s_Station_would_learn f fd) : FnOk P w K mg base' CX0 2 f fd ["self", "message"] (sp_would_learn C) := by
  refine F.ok sc_Station_would_learn (fun vs H Q E h => ?_) (fun cdv A outer s H vs Q _ hr h => ?_)
  · obtain ⟨a, k, n, s, b, m, rfl, _⟩ := h
    rfl
  · obtain ⟨a, k, n, s, b, m, rfl, A, hb, hm, hg, q⟩ := h
    refine ⟨_, (pss_cons (ps_set (i := 2) sc_Station_would_learn.nd rfl (by first | exact Or.inl rfl | exact Or.inr rfl) (pcl c_told_drill hr (by decide) (by rfl) (pa_cons (pv 1) pa_nil)))
      (pss_cons (ps_if (pt_cmpR op_lt (pv 2) (pe_fld (pv 0) rfl) (nomark _)) (pss_one (ps_ret pe_int)) pss_nil)
      (pss_cons (ps_set (i := 3) sc_Station_would_learn.nd rfl (by first | exact Or.inl rfl | exact Or.inr rfl) (pcl c_told_persons hr (by decide) (by rfl) (pa_cons (pv 1) pa_nil)))
      (pss_cons (ps_if (pt_cmpR op_gt (pv 2) (pe_fld (pv 0) rfl) (nomark _)) (pss_one (ps_ret (pe_callB (cr_sum rfl) (by rfl) E.b_sum (by decide +kernel) (pa_cons (pe_lc (own := [("number", 4)]) (g := gName 4) rfl sc_Station_would_learn.nd (pi_list (pv 3)) (blkOk_by (N := ["self", "message", "drill", "told", "number", "p"]) (sc := defScope s_Station_would_learn) (by decide +kernel)) (fun _ _ _ _ _ => pg_name (i := 4) sc_Station_would_learn.nd rfl (by first | exact Or.inl rfl | exact Or.inr rfl)) (fun _ _ _ _ _ => pts_one (pt_cmpR op_gt (pv 4) pe_int (nomark _))) (fun _ _ _ _ _ => pe_int)) pa_nil)))) pss_nil)
      (pss_one (ps_ret (pe_callB (cr_sum rfl) (by rfl) E.b_sum (by decide +kernel) (pa_cons (pe_lc (own := [("p", 5)]) (g := gName 5) rfl sc_Station_would_learn.nd (pi_range1 rfl E.b_range (pa_cons (pgc E.PERSONS (by rfl)) pa_nil)) (blkOk_by (N := ["self", "message", "drill", "told", "number", "p"]) (sc := defScope s_Station_would_learn) (by decide +kernel)) (fun _ _ _ _ _ => pg_name (i := 5) sc_Station_would_learn.nd rfl (by first | exact Or.inl rfl | exact Or.inr rfl)) (fun _ _ _ _ _ => pts_one (pt_cmpR op_gt (pe_ix (ix_listK (K := K) rfl) (pv 3) (pv 5) (fun _ _ => rfl)) (pe_ix (ix_listK (K := K) rfl) (pe_fldK (K := K) rfl (pv 0) rfl) (pv 5) (fun _ _ => rfl)) (nomark _))) (fun _ _ _ _ _ => pe_int)) pa_nil)))))))), ?_⟩
    obtain ⟨dx, hi⟩ := A.ins
    have G := goodP hm hg
    have hsl := A.wf.seenLen
    refine q_asg (ev_cl (ea_cons (ev_var rfl) ea_nil) fun H2 e2 Q2 q2 _ => ⟨b, m, rfl, sq_of (e2 _ _ hb), hm, q2⟩) fun H1 e1 => ?_
    refine q_when (et_test (ev_op (ev_var rfl) (ev_fld (ev_var rfl) (e1 _ _ hi) E.cls E.n_drill F_drill) rv_I0)) (fun hbb H2 e2 => ?_) (fun hbb H2 e2 => ?_)
    · have hlt : m.getD 0 0 < s.drill := by
        have : ((m.getD 0 0 : Nat) : Int) < (s.drill : Nat) := of_decide_eq_true hbb
        omega
      rw [if_pos hlt] at q
      exact s_ret ev_c fun H3 e3 => q.go ((e1.trans e2).trans e3)
    · have hge : ¬ m.getD 0 0 < s.drill := by
        have : ¬ ((m.getD 0 0 : Nat) : Int) < (s.drill : Nat) := of_decide_eq_false hbb
        omega
      rw [if_neg hge, changes_eq A.wf G.hi hge] at q
      have e02 := e1.trans e2
      refine q_asgL (el_cl (ea_cons (ev_var rfl) ea_nil) fun H3 e3 Q2 q2 _ => ⟨b, m, rfl, sq_of (e3 _ _ (e02 _ _ hb)), hm, q2⟩) fun p H3 hp e3 h3 => ?_
      have e03 := e02.trans e3
      have hpl := G.pl
      generalize (m.drop 1).take 16 = tl at h3 hpl q
      refine q_when (et_test (ev_op (ev_var rfl) (ev_fld (ev_var rfl) (e03 _ _ hi) E.cls E.n_drill F_drill) rv_I0)) (fun hb2 H4 e4 => ?_) (fun hb2 H4 e4 => ?_)
      · have hlt : s.drill < m.getD 0 0 := by
          have : (s.drill : Nat) < ((m.getD 0 0 : Nat) : Int) := of_decide_eq_true hb2
          omega
        refine s_ret (ev_is (ev_sumL (el_is (el_lcL (fun i => decide (0 < tl.getD i 0)) (fun _ => V.int 1) (ev_var rfl) (sq_of (e4 _ _ h3)) (by rw [vN_length]; omega) (wipe_turn _ _) (fun i x H5 e5 hx => ?_) (fun i x H5 e5 _ _ => ev_c)) (given_ones _ _))) ?_) fun H5 e5 => q.go ((e03.trans e4).trans e5)
        · obtain ⟨hi5, rfl⟩ := item_of hx
          exact et_is (et_test (ev_op (ev_var rfl) ev_c rv_I0)) (decide_eq_decide.mpr (by omega))
        · rw [sum_ones, base_seen_new hlt, vN_length, hpl]
          unfold greater
          simp only [rep_getD]
      · have hno : ¬ s.drill < m.getD 0 0 := by
          have : ¬ (s.drill : Nat) < ((m.getD 0 0 : Nat) : Int) := of_decide_eq_false hb2
          omega
        refine s_ret (ev_is (ev_sumL (el_is (el_lcR1 (n := 16) (fun i => decide (s.seen.getD i 0 < tl.getD i 0)) (fun _ => V.int 1) (ea_cons (ev_c (v := .int 16)) ea_nil) (by decide) (wipe_turn _ _) (fun i H5 e5 hi5 => ?_) (fun i H5 e5 _ _ => ev_c)) (given_ones _ _))) ?_) fun H5 e5 => q.go ((e03.trans e4).trans e5)
        · have e05 := (e03.trans e4).trans e5
          refine et_is (et_test (ev_op (ev_op (ev_var rfl) (ev_var rfl) (rv_ixL (sq_of (e5 _ _ (e4 _ _ h3))) (vN_at (by omega)))) (ev_op (ev_fld (ev_var rfl) (e05 _ _ hi) E.cls E.n_known F_known) (ev_var rfl) (rv_ixL (sq_of (e05 _ _ A.kn)) (vN_at (by omega)))) rv_I0)) (decide_eq_decide.mpr (by omega))
        · rw [sum_ones, base_seen_old hno]
          rfl
end
section
variable {P : Program} {w : World} {K : PySem.W.Frag} {mg : Str → Option Value} {base' : Heap} {C f : Addr} {fd : FuncData}
theorem ok_hear (E : Env K mg C) (c_told_drill : Cal P w K mg base' 1 "told_drill" (sp_told_drill K)) (c_told_persons : Cal P w K mg base' 1 "told_persons" (sp_told_persons K)) (c_told_news : Cal P w K mg base' 1 "told_news" (sp_told_news K))
    (c_Station_would_learn : Met P w K mg base' 2 C "would_learn" (sp_would_learn C)) (c_Station_enter_drill : Met P w K mg base' 1 C "enter_drill" (sp_enter_drill C)) (c_Station_learn_news : Met P w K mg base' 1 C "learn_news" (sp_learn_news C)) (c_Station_learn_persons : Met P w K mg base' 1 C "learn_persons" (sp_learn_persons C))
    (F : Fun K "hear" "Station.hear" s_Station_hear f fd) : FnOk P w K mg base' CX0 3 f fd ["self", "message"] (sp_hear C) := by
  refine F.ok sc_Station_hear (fun vs H Q E h => ?_) (fun cdv A outer s H vs Q _ hr h => ?_)
  · obtain ⟨a, k, n, s, b, m, rfl, _⟩ := h
    rfl
  · obtain ⟨a, k, n, s, b, m, rfl, A, hb, bk, bn, hm, hg, q⟩ := h
    refine ⟨_, (pss_cons (ps_set (i := 2) sc_Station_hear.nd rfl (by first | exact Or.inl rfl | exact Or.inr rfl) (pmt c_Station_would_learn hr (by decide) (pv 0) (pa_cons (pv 1) pa_nil)))
      (pss_cons (ps_fld (pv 0) (pe_callB (call_min2 rfl) (by rfl) E.b_min (by decide +kernel) (pa_cons (pe_op op_add (pe_fld (pv 0) rfl) pe_int) (pa_cons (pgc E.MOST_HEARD (by rfl)) pa_nil))) rfl)
      (pss_cons (ps_set (i := 3) sc_Station_hear.nd rfl (by first | exact Or.inl rfl | exact Or.inr rfl) (pcl c_told_drill hr (by decide) (by rfl) (pa_cons (pv 1) pa_nil)))
      (pss_cons (ps_if (pt_cmpR op_gt (pv 3) (pe_fld (pv 0) rfl) (nomark _)) (pss_one (ps_expr (pmt c_Station_enter_drill hr (by decide) (pv 0) (pa_cons (pv 3) pa_nil)))) pss_nil)
      (pss_cons (ps_if (pt_cmpR op_eq (pv 3) (pe_fld (pv 0) rfl) (nomark _)) (pss_cons (ps_expr (pmt c_Station_learn_persons hr (by decide) (pv 0) (pa_cons (pcl c_told_persons hr (by decide) (by rfl) (pa_cons (pv 1) pa_nil)) pa_nil)))
      (pss_one (ps_expr (pmt c_Station_learn_news hr (by decide) (pv 0) (pa_cons (pcl c_told_news hr (by decide) (by rfl) (pa_cons (pv 1) pa_nil)) pa_nil))))) pss_nil)
      (pss_one (ps_ret (pv 2)))))))), ?_⟩
    refine q_asg (ev_mt (ev_var rfl) A.ins.choose_spec F_would (ea_cons (ev_var rfl) ea_nil) fun H2 e2 Q2 q2 _ => ⟨a, k, n, s, b, m, rfl, A.ex e2, e2 _ _ hb, hm, hg, q2⟩) fun H0 e0 => ?_
    generalize hch : (if m.getD 0 0 < s.drill then 0 else s.changes m) = ch at q ⊢
    replace q : ∀ (H' : Hp) (k' n' : Addr), At C H' a k' n' (Km441.act s (.hear m)).1 → (k' = k ∨ H0 k' = none) → (n' = n ∨ H0 n' = none) → Fr H0 H' a k n → Q (.int (ch : Int)) H' := fun H' k' n' z1 z2 z3 z4 => q H' k' n' z1 (z2.imp id (fresh_back e0)) (z3.imp id (fresh_back e0)) fun c o h => z4 c o (e0 _ _ h)
    replace A := A.ex e0
    replace hb := e0 _ _ hb
    clear hch e0
    obtain ⟨dx, hi⟩ := A.ins
    obtain ⟨ns, ho, hn⟩ := A.nw
    have G := goodP hm hg
    have ak : k ≠ a := ne_of A.kn hi (by intro z; cases z)
    have an : n ≠ a := ne_of hn hi (by intro z; cases z)
    have ab : b ≠ a := ne_of hb hi (by intro z; cases z)
    refine q_fld (y := .int ((min 100000 (s.heard + 1) : Nat) : Int)) (ev_is (ev_min2 (ev_op (ev_fld (ev_var rfl) hi E.cls E.n_heard F_heard) ev_c rv_I0) ev_c) (by congr 1; split <;> omega)) (ev_var rfl) hi E.cls E.n_heard (by show 6 < 1000; decide) fun H1 e1 => ?_
    rw [FS_heard]
    have w1 : WF { s with heard := min 100000 (s.heard + 1) } := wf_heard A.wf (by omega)
    have A1 : At C (upd H1 a (.ins C dx (FS { s with heard := min 100000 (s.heard + 1) } k n))) a k n { s with heard := min 100000 (s.heard + 1) } := ⟨w1, ⟨dx, upd_same⟩, by rw [upd_ne ak]; exact e1 _ _ A.kn, ⟨ns, ⟨ho.len, ho.eq⟩, by rw [upd_ne an]; exact e1 _ _ hn⟩, A.ne⟩
    have b1 : But H0 (upd H1 a (.ins C dx (FS { s with heard := min 100000 (s.heard + 1) } k n))) a := (But.of e1).upd
    generalize upd H1 a (.ins C dx (FS { s with heard := min 100000 (s.heard + 1) } k n)) = G1 at A1 b1 ⊢
    refine q_asg (ev_cl (ea_cons (ev_var rfl) ea_nil) fun H2 e2 Q2 q2 _ => ⟨b, m, rfl, sq_of (e2 _ _ (b1 _ _ hb ab)), hm, q2⟩) fun H2 e2 => ?_
    have A3 := A1.ex e2
    have b3 := b1.ex e2
    obtain ⟨dx3, hi3⟩ := A3.ins
    have hwb : WF (base s m) := wf_base A.wf G.hi
    have w2 : WF { base s m with heard := min 100000 (s.heard + 1) } := wf_heard hwb (by omega)
    refine q_join (fun H' => ∃ k' n', At C H' a k' n' { base s m with heard := min 100000 (s.heard + 1) } ∧ (k' = k ∨ H0 k' = none) ∧ (n' = n ∨ H0 n' = none) ∧ But H0 H' a ∧ H' b = some (.lst (vN m)) ∧ b ≠ k' ∧ b ≠ n') (et_test (ev_op (ev_var rfl) (ev_fld (ev_var rfl) hi3 E.cls E.n_drill F_drill) rv_I0)) (fun hb2 go H4 e4 => ?_) (fun hb2 H4 e4 => ?_) ?_
    · have hlt : s.drill < m.getD 0 0 := by
        have : (s.drill : Nat) < ((m.getD 0 0 : Nat) : Int) := of_decide_eq_true hb2
        omega
      have b4 := b3.ex e4
      refine s_mt (ev_var rfl) (e4 _ _ hi3) F_enter (ea_cons (ev_var rfl) ea_nil) fun H5 e5 => ⟨a, dx3, _, m.getD 0 0, rfl, e5 _ _ (e4 _ _ hi3), by show 6 < 900; decide, fun H' k' n' hk hn' kn h1 h2 h3 b5 => ?_⟩
      have b6 := b4.ex e5
      have hi5 := e5 _ _ (e4 _ _ hi3)
      refine go H' ⟨k', n', ⟨w2, ⟨dx3, ?_⟩, ?_, ⟨List.replicate 5 0, ⟨rfl, fun j hj _ => ?_⟩, h3⟩, kn⟩, .inr (b6.free hk (Ne.symm (ne_of_none hi5 hk))), .inr (b6.free hn' (Ne.symm (ne_of_none hi5 hn'))), b6.trans b5, (b6.trans b5) _ _ hb ab, ?_, ?_⟩
      · rw [entered_FS] at h1
        unfold base
        rw [if_pos hlt]
        exact h1
      · unfold base
        rw [if_pos hlt]
        exact h2
      · show _ = (base s m).news.getD j 0
        unfold base
        rw [if_pos hlt]
        rfl
      · exact ne_of_none (b6 _ _ hb ab) hk
      · exact ne_of_none (b6 _ _ hb ab) hn'
    · have heq : ¬ s.drill < m.getD 0 0 := by
        have : ¬ (s.drill : Nat) < ((m.getD 0 0 : Nat) : Int) := of_decide_eq_false hb2
        omega
      refine ⟨k, n, ?_, .inl rfl, .inl rfl, b3.ex e4, (b3.ex e4) _ _ hb ab, bk, bn⟩
      unfold base
      rw [if_neg heq]
      exact A3.ex e4
    · rintro H4 ⟨k', n', A4, hk', hn', b4, hb4, bk', bn'⟩
      obtain ⟨dx4, hi4⟩ := A4.ins
      have frame : ∀ c o, H0 c = some o → c ≠ a → c ≠ k → c ≠ n → H4 c = some o ∧ c ≠ k' ∧ c ≠ n' := fun c o h h1 h2 h3 => by
        refine ⟨b4 c o h h1, ?_, ?_⟩
        · rcases hk' with z | z
          · rw [z]; exact h2
          · exact ne_of_none h z
        · rcases hn' with z | z
          · rw [z]; exact h3
          · exact ne_of_none h z
      refine q_when (et_test (ev_op (ev_var rfl) (ev_fld (ev_var rfl) hi4 E.cls E.n_drill F_drill) (rv_eq rfl))) (fun hb2 H5 e5 => ?_) (fun hb2 H5 e5 => ?_)
      · have hge : ¬ m.getD 0 0 < s.drill := fun z => by
          have h1 : ((m.getD 0 0 : Nat) : Int) = ((base s m).drill : Nat) := V.int.inj (of_decide_eq_true hb2)
          unfold base at h1
          rw [if_neg (by omega)] at h1
          omega
        rw [act_hear hg, join_eq hge] at q
        have A5 := A4.ex e5
        obtain ⟨ns4, _, hn4⟩ := A4.nw
        refine q_mtL (ev_var rfl) (e5 _ _ hi4) F_lpersons (el_cl (ea_cons (ev_var rfl) ea_nil) fun H6 e6 Q2 q2 _ => ⟨b, m, rfl, sq_of (e6 _ _ (e5 _ _ hb4)), hm, q2⟩) fun p H6 hp e6 h6 => ?_
        refine ⟨a, k', n', _, p, _, rfl, A5.ex e6, h6, (fun z => by rw [z, A5.kn] at hp; cases hp), G.pl, G.ps, fun H7 A7 b7 => ?_⟩
        obtain ⟨dx7, hi7⟩ := A7.ins
        obtain ⟨ns7, _, hn7⟩ := A7.nw
        refine s_mtL (ev_var rfl) hi7 F_lnews (el_cl (ea_cons (ev_var rfl) ea_nil) fun H8 e8 Q2 q2 _ => ⟨b, m, rfl, sq_of (e8 _ _ (b7 _ _ (e6 _ _ (e5 _ _ hb4)) bk')), hm, q2⟩) fun r H8 hr' e8 h8 => ?_
        refine ⟨a, k', n', _, r, _, rfl, A7.ex e8, h8, (fun z => by rw [z, hn7] at hr'; cases hr'), G.nl, G.ns, fun H9 A9 b9 => ?_⟩
        refine s_ret (ev_var rfl) fun H10 e10 => q H10 k' n' (A9.ex e10) hk' hn' fun c o h h1 h2 h3 => ?_
        obtain ⟨c4, ck, cn⟩ := frame c o h h1 h2 h3
        exact e10 _ _ (b9 _ _ (e8 _ _ (b7 _ _ (e6 _ _ (e5 _ _ c4)) ck)) cn)
      · have hlt : m.getD 0 0 < s.drill := by
          have h0 : ((m.getD 0 0 : Nat) : Int) ≠ ((base s m).drill : Nat) := fun z => of_decide_eq_false hb2 (congrArg V.int z)
          unfold base at h0
          by_cases c : s.drill < m.getD 0 0
          · rw [if_pos c] at h0
            exact absurd rfl h0
          · rw [if_neg c] at h0
            omega
        have hbs : base s m = s := by
          unfold base
          rw [if_neg (by omega)]
        rw [hbs] at A4
        rw [act_hear hg, join_old hlt] at q
        refine s_ret (ev_var rfl) fun H6 e6 => q H6 k' n' ((A4.ex e5).ex e6) hk' hn' fun c o h h1 h2 h3 => e6 _ _ (e5 _ _ (frame c o h h1 h2 h3).1)
end
end Sm

namespace Sm
open PySem PySem.Spec PyProof.Rows L2 Evl
open Km441 (Station act only)
/-- what a call's def may do: the station's new state lies at its place, all else stands, a new list holds what is answered -/
def MuQ (C : Addr) (H : Hp) (a k n : Addr) (s : Station) (c : Km441.Call) (Q : VK) : Prop :=
  ∀ (H' : Hp) (k' n' r : Addr), At C H' a k' n' (act s c).1 → (k' = k ∨ H k' = none) → (n' = n ∨ H n' = none) → Fr H H' a k n → (H r = none ∨ r = k ∨ r = n) → H' r = some (.lst (vI (Km441Neutral.told (act s c).2))) → Q (.ref r) H'
def sp_mu (C : Addr) (p : Nat) : Sp := fun vs H Q _ => ∃ (a k n : Addr) (s : Station) (b : Addr) (xs : List Nat), vs = [.ref a, .ref b] ∧ At C H a k n s ∧ H b = some (.lst (vN xs)) ∧ b ≠ k ∧ b ≠ n ∧ xs.length = xn p ∧ MuQ C H a k n s (mkCall p xs) Q
/-- where the station is as it was -/
theorem MuQ.ret {C : Addr} {H : Hp} {a k n : Addr} {s : Station} {c : Km441.Call} {Q : VK} {ans : Km441.Ans} (q : MuQ C H a k n s c Q) (A : At C H a k n s) (h : act s c = (s, ans)) {l : List V} (hl : vI (Km441Neutral.told ans) = l) : RetL l H Q := fun r H2 hr e hh => by
  refine q H2 k n r ?_ (.inl rfl) (.inl rfl) (fun c o z _ _ _ => e c o z) (.inl hr) ?_
  · rw [h]
    exact A.ex e
  · rw [h]
    show H2 r = some (.lst (vI (Km441Neutral.told ans)))
    rw [hl]
    exact hh
/-- a number below 0, alone -/
theorem s_no {σ : L2.St} {H : Hp} {D : Ends} {z : Int} (q : RetL [.int (-z)] H D.rt) : tRet (tLst (tCons (tUn (rU fun i => .int (-i)) (tC (.int z))) tNil)) D σ H :=
  s_retL (el_lst (ea_cons (ev_neg ev_c) ea_nil) (by show 1 ≤ 100000; decide)) q
theorem retL_ex {l : List V} {H H' : Hp} {Q : VK} (q : RetL l H Q) (e : Ex H H') : RetL l H' Q := fun p H2 hp e2 h => q.go e hp e2 h
section
variable {P : Program} {w : World} {K : PySem.W.Frag} {mg : Str → Option Value} {base' : Heap} {C f : Addr} {fd : FuncData}
theorem ok_mu_start (E : Env K mg C) (c_is_station : Cal P w K mg base' 1 "is_station" sp_is_station) (c_Station_begin : Met P w K mg base' 2 C "begin" (sp_begin C)) (F : Fun K "mu_start" "mu_start" s_mu_start f fd) : FnOk P w K mg base' CX0 3 f fd ["station", "numbers"] (sp_mu C 0) := by
  refine F.ok sc_mu_start (fun vs H Q E h => ?_) (fun cdv A outer s H vs Q _ hr h => ?_)
  · obtain ⟨a, k, n, s, b, xs, rfl, _⟩ := h
    rfl
  · obtain ⟨a, k, n, s, b, xs, rfl, A, hb, bk, bn, hl, q⟩ := h
    refine ⟨_, (pss_cons (ps_set (i := 2) sc_mu_start.nd rfl (by first | exact Or.inl rfl | exact Or.inr rfl) (pe_ix ix_list (pv 1) pe_int (fun _ _ => rfl)))
      (pss_cons (ps_if (pt_not (pt_val (pcl c_is_station hr (by decide) (by rfl) (pa_cons (pv 2) pa_nil)))) (pss_one (ps_ret (pe_lst (pa_cons (pe_un un_neg pe_int) pa_nil)))) pss_nil)
      (pss_cons (ps_expr (pmt c_Station_begin hr (by decide) (pv 0) (pa_cons (pv 2) pa_nil)))
      (pss_one (ps_ret (pe_lst (pa_cons pe_int pa_nil))))))), ?_⟩
    replace hl : xs.length = 1 := hl
    obtain ⟨dx, hi⟩ := A.ins
    refine q_asg (ev_op (ev_var rfl) ev_c (rv_ixL (sq_of hb) (vN_at (i := 0) (by omega)))) fun H1 e1 => ?_
    refine q_when (et_not (et_B (ev_cl (ea_cons (ev_var rfl) ea_nil) fun H2 e2 Q2 q2 _ => ⟨xs.getD 0 0, rfl, q2⟩))) (fun hbb H2 e2 => ?_) (fun hbb H2 e2 => ?_)
    · have h5 : 5 ≤ xs.getD 0 0 := by
        rw [Bool.not_eq_true', decide_eq_false_iff_not] at hbb
        omega
      exact s_no (retL_ex (q.ret A (if_pos h5) rfl) (e1.trans e2))
    · have h5 : ¬ 5 ≤ xs.getD 0 0 := by
        rw [Bool.not_eq_false', decide_eq_true_eq] at hbb
        omega
      have ha : act s (mkCall 0 xs) = (Km441.station0 (xs.getD 0 0), only 0) := if_neg h5
      have hi2 := e2 _ _ (e1 _ _ hi)
      refine q_mt (ev_var rfl) hi2 F_begin (ea_cons (ev_var rfl) ea_nil) fun H3 e3 => ⟨a, dx, _, xs.getD 0 0, rfl, e3 _ _ hi2, by show 6 < 800; decide, F_enter, fun H' k' n' hk hn kn h1 h2 h3 bt => ?_⟩
      have e03 := (e1.trans e2).trans e3
      rw [begun_FS] at h1
      refine s_retL (el_lst (ea_cons (ev_c (v := .int 0)) ea_nil) (by show 1 ≤ 100000; decide)) fun r H4 hr e4 h4 => ?_
      refine q H4 k' n' r ?_ (.inr (fresh_back e03 hk)) (.inr (fresh_back e03 hn)) (fun c o h z _ _ => e4 _ _ (bt _ _ (e03 _ _ h) z)) ?_ ?_
      · rw [ha]
        exact ⟨wf_start (by omega), ⟨dx, e4 _ _ h1⟩, e4 _ _ h2, ⟨_, ⟨rfl, fun _ _ _ => rfl⟩, e4 _ _ h3⟩, kn⟩
      · exact .inl <| ((But.of e03).trans bt).free hr (Ne.symm (ne_of_none h1 hr))
      · rw [ha]
        exact h4
theorem ok_mu_minutes (E : Env K mg C) (F : Fun K "mu_minutes" "mu_minutes" s_mu_minutes f fd) : FnOk P w K mg base' CX0 1 f fd ["station", "numbers"] (sp_mu C 1) := by
  refine F.ok sc_mu_minutes (fun vs H Q E h => ?_) (fun cdv A outer s H vs Q _ hr h => ?_)
  · obtain ⟨a, k, n, s, b, xs, rfl, _⟩ := h
    rfl
  · obtain ⟨a, k, n, s, b, xs, rfl, A, hb, bk, bn, hl, q⟩ := h
    refine ⟨_, (pss_cons (ps_set (i := 2) sc_mu_minutes.nd rfl (by first | exact Or.inl rfl | exact Or.inr rfl) (pe_ix ix_list (pv 1) pe_int (fun _ _ => rfl)))
      (pss_cons (ps_if (pt_not (pt_chain op_le op_le pe_int (pv 2) (pgc E.MOST_AT_ONCE (by rfl)))) (pss_one (ps_ret (pe_lst (pa_cons (pe_un un_neg pe_int) pa_nil)))) pss_nil)
      (pss_cons (ps_if (pt_cmpR op_gt (pe_op op_add (pe_fld (pv 0) rfl) (pv 2)) (pgc E.LAST_MINUTE (by rfl)) (nomark _)) (pss_one (ps_ret (pe_lst (pa_cons (pe_un un_neg pe_int) pa_nil)))) pss_nil)
      (pss_cons (ps_fldaug (pv 0) (pv 2) in_add)
      (pss_one (ps_ret (pe_lst (pa_cons (pe_fld (pv 0) rfl) pa_nil)))))))), ?_⟩
    replace hl : xs.length = 1 := hl
    obtain ⟨dx, hi⟩ := A.ins
    obtain ⟨ns, ho, hn⟩ := A.nw
    refine q_asg (ev_op (ev_var rfl) ev_c (rv_ixL (sq_of hb) (vN_at (i := 0) (by omega)))) fun H1 e1 => ?_
    refine q_when (et_not (et_test (ev_chain ev_c (ev_var rfl) ev_c))) (fun hbb H2 e2 => ?_) (fun hbb H2 e2 => ?_)
    · have h5 : xs.getD 0 0 = 0 ∨ 1440 < xs.getD 0 0 := by
        rw [Bool.not_eq_true', Bool.and_eq_false_iff, decide_eq_false_iff_not, decide_eq_false_iff_not] at hbb
        omega
      exact s_no (retL_ex (q.ret A (if_pos h5) rfl) (e1.trans e2))
    · have h5 : ¬ (xs.getD 0 0 = 0 ∨ 1440 < xs.getD 0 0) := by
        rw [Bool.not_eq_false', Bool.and_eq_true, decide_eq_true_eq, decide_eq_true_eq] at hbb
        omega
      have ha : act s (mkCall 1 xs) = if 100000 < s.minute + xs.getD 0 0 then (s, only (-75)) else ({ s with minute := s.minute + xs.getD 0 0 }, only ((s.minute + xs.getD 0 0 : Nat) : Int)) := if_neg h5
      have hi2 := e2 _ _ (e1 _ _ hi)
      refine q_when (et_test (ev_op (ev_op (ev_fld (ev_var rfl) hi2 E.cls E.n_minute F_minute) (ev_var rfl) rv_I0) ev_c rv_I0)) (fun hbb H3 e3 => ?_) (fun hbb H3 e3 => ?_)
      · have h6 : 100000 < s.minute + xs.getD 0 0 := by
          have := of_decide_eq_true hbb
          omega
        rw [if_pos h6] at ha
        exact s_no (retL_ex (q.ret A ha rfl) ((e1.trans e2).trans e3))
      · have h6 : ¬ 100000 < s.minute + xs.getD 0 0 := by
          have := of_decide_eq_false hbb
          omega
        rw [if_neg h6] at ha
        have e03 := (e1.trans e2).trans e3
        refine q_fldaug (ev_var rfl) (e3 _ _ hi2) E.cls E.n_minute F_minute (by show 6 < 1000; decide) (ev_var rfl) fun H4 e4 => ?_
        have hz : V.int ((s.minute : Nat) + (xs.getD 0 0 : Nat) : Int) = V.int ((s.minute + xs.getD 0 0 : Nat) : Int) := by
          congr 1
        rw [hz, FS_minute]
        have ka : k ≠ a := ne_of A.kn hi (by intro z; cases z)
        have na : n ≠ a := ne_of hn hi (by intro z; cases z)
        refine s_retL (el_lst (ea_cons (ev_fld (ev_var rfl) upd_same E.cls E.n_minute F_minute) ea_nil) (by show 1 ≤ 100000; decide)) fun r H5 hr e5 h5 => ?_
        have e04 := e03.trans e4
        refine q H5 k n r ?_ (.inl rfl) (.inl rfl) (fun c o h z _ _ => e5 _ _ (by rw [upd_ne z]; exact e04 _ _ h)) ?_ ?_
        · rw [ha]
          exact ⟨wf_minute A.wf (by omega), ⟨dx, e5 _ _ upd_same⟩, e5 _ _ (by rw [upd_ne ka]; exact e04 _ _ A.kn), ⟨ns, ⟨ho.len, ho.eq⟩, e5 _ _ (by rw [upd_ne na]; exact e04 _ _ hn)⟩, A.ne⟩
        · exact .inl <| (But.of e04).upd.free hr (ne_upd hr)
        · rw [ha]
          exact h5
theorem ok_mu_drill (E : Env K mg C) (c_Station_enter_drill : Met P w K mg base' 1 C "enter_drill" (sp_enter_drill C)) (F : Fun K "mu_drill" "mu_drill" s_mu_drill f fd) : FnOk P w K mg base' CX0 2 f fd ["station", "numbers"] (sp_mu C 2) := by
  refine F.ok sc_mu_drill (fun vs H Q E h => ?_) (fun cdv A outer s H vs Q _ hr h => ?_)
  · obtain ⟨a, k, n, s, b, xs, rfl, _⟩ := h
    rfl
  · obtain ⟨a, k, n, s, b, xs, rfl, A, hb, bk, bn, hl, q⟩ := h
    refine ⟨_, (pss_cons (ps_if (pt_cmpR op_eq (pe_fld (pv 0) rfl) (pgc E.LAST_DRILL (by rfl)) (nomark _)) (pss_one (ps_ret (pe_lst (pa_cons (pe_un un_neg pe_int) pa_nil)))) pss_nil)
      (pss_cons (ps_expr (pmt c_Station_enter_drill hr (by decide) (pv 0) (pa_cons (pe_op op_add (pe_fld (pv 0) rfl) pe_int) pa_nil)))
      (pss_one (ps_ret (pe_lst (pa_cons (pe_fld (pv 0) rfl) pa_nil)))))), ?_⟩
    obtain ⟨dx, hi⟩ := A.ins
    have hd := A.wf.drill
    refine q_when (et_test (ev_op (ev_fld (ev_var rfl) hi E.cls E.n_drill F_drill) ev_c (rv_eq rfl))) (fun hbb H1 e1 => ?_) (fun hbb H1 e1 => ?_)
    · have h5 : 1000 ≤ s.drill := by
        have := V.int.inj (of_decide_eq_true hbb)
        omega
      exact s_no (retL_ex (q.ret A (if_pos h5) rfl) e1)
    · have h5 : ¬ 1000 ≤ s.drill := fun z => of_decide_eq_false hbb (by rw [show s.drill = 1000 by omega]; rfl)
      have ha : act s (mkCall 2 xs) = (s.fresh (s.drill + 1), only ((s.drill + 1 : Nat) : Int)) := if_neg h5
      refine q_mt (ev_var rfl) (e1 _ _ hi) F_enter (ea_cons (ev_op (ev_fld (ev_var rfl) (e1 _ _ hi) E.cls E.n_drill F_drill) ev_c rv_I0) ea_nil) fun H2 e2 => ⟨a, dx, _, s.drill + 1, rfl, e2 _ _ (e1 _ _ hi), by show 6 < 900; decide, fun H' k' n' hk hn kn h1 h2 h3 bt => ?_⟩
      have e02 := e1.trans e2
      rw [entered_FS] at h1
      refine s_retL (el_lst (ea_cons (ev_fld (ev_var rfl) h1 E.cls E.n_drill F_drill) ea_nil) (by show 1 ≤ 100000; decide)) fun r H4 hr e4 h4 => ?_
      refine q H4 k' n' r ?_ (.inr (fresh_back e02 hk)) (.inr (fresh_back e02 hn)) (fun c o h z _ _ => e4 _ _ (bt _ _ (e02 _ _ h) z)) ?_ ?_
      · rw [ha]
        exact ⟨wf_fresh A.wf (by omega), ⟨dx, e4 _ _ h1⟩, e4 _ _ h2, ⟨_, ⟨rfl, fun _ _ _ => rfl⟩, e4 _ _ h3⟩, kn⟩
      · exact .inl <| ((But.of e02).trans bt).free hr (Ne.symm (ne_of_none h1 hr))
      · rw [ha]
        exact h4
end
end Sm

namespace Sm
open PySem PySem.Spec PyProof.Rows L2 Evl
open Km441 (Station act only)
theorem know_good {s : Station} (h : WF s) {p : Nat} (hp : p < 16) (h0 : s.know p ≠ 0) : 1 ≤ s.know p % 8 ∧ s.know p % 8 ≤ 5 ∧ s.know p / 8 ≤ 100000 :=
  (h.seen _ (getD_mem (l := s.seen) (i := p) (by rw [h.seenLen]; exact hp))).elim (fun z => absurd z h0) id
section
variable {P : Program} {w : World} {K : PySem.W.Frag} {mg : Str → Option Value} {base' : Heap} {C f : Addr} {fd : FuncData}
theorem ok_mu_in (E : Env K mg C) (c_is_person : Cal P w K mg base' 1 "is_person" sp_is_person) (c_Station_here_and_now : Met P w K mg base' 2 C "here_and_now" (sp_here_and_now C)) (F : Fun K "mu_in" "mu_in" s_mu_in f fd) : FnOk P w K mg base' CX0 3 f fd ["station", "numbers"] (sp_mu C 3) := by
  refine F.ok sc_mu_in (fun vs H Q E h => ?_) (fun cdv A outer s H vs Q _ hr h => ?_)
  · obtain ⟨a, k, n, s, b, xs, rfl, _⟩ := h
    rfl
  · obtain ⟨a, k, n, s, b, xs, rfl, A, hb, bk, bn, hl, q⟩ := h
    refine ⟨_, (pss_cons (ps_set (i := 2) sc_mu_in.nd rfl (by first | exact Or.inl rfl | exact Or.inr rfl) (pe_ix ix_list (pv 1) pe_int (fun _ _ => rfl)))
      (pss_cons (ps_if (pt_not (pt_val (pcl c_is_person hr (by decide) (by rfl) (pa_cons (pv 2) pa_nil)))) (pss_one (ps_ret (pe_lst (pa_cons (pe_un un_neg pe_int) pa_nil)))) pss_nil)
      (pss_cons (ps_if (pt_cmpR op_eq (pe_fld (pv 0) rfl) pe_int (nomark _)) (pss_one (ps_ret (pe_lst (pa_cons (pe_un un_neg pe_int) pa_nil)))) pss_nil)
      (pss_cons (ps_set (i := 3) sc_mu_in.nd rfl (by first | exact Or.inl rfl | exact Or.inr rfl) (pe_ix ix_list (pe_fld (pv 0) rfl) (pv 2) (fun _ _ => rfl)))
      (pss_cons (ps_if (pt_cmpR op_ge (pv 3) (pmt0 c_Station_here_and_now hr (by decide) (pv 0)) (nomark _)) (pss_one (ps_ret (pe_lst (pa_cons (pe_un un_neg pe_int) pa_nil)))) pss_nil)
      (pss_cons (ps_asg (pmt0 c_Station_here_and_now hr (by decide) (pv 0)) (pg_sub (pe_fld (pv 0) rfl) (pv 2) set_list))
      (pss_one (ps_ret (pe_lst (pa_cons (pv 3) pa_nil)))))))))), ?_⟩
    replace hl : xs.length = 1 := hl
    obtain ⟨dx, hi⟩ := A.ins
    obtain ⟨ns, ho, hn⟩ := A.nw
    have hsl := A.wf.seenLen
    refine q_asg (ev_op (ev_var rfl) ev_c (rv_ixL (sq_of hb) (vN_at (i := 0) (by omega)))) fun H1 e1 => ?_
    refine q_when (et_not (et_B (ev_cl (ea_cons (ev_var rfl) ea_nil) fun H2 e2 Q2 q2 _ => ⟨xs.getD 0 0, rfl, q2⟩))) (fun hbb H2 e2 => ?_) (fun hbb H2 e2 => ?_)
    · have h5 : 16 ≤ xs.getD 0 0 := by
        rw [Bool.not_eq_true', decide_eq_false_iff_not] at hbb
        omega
      exact s_no (retL_ex (q.ret A (if_pos h5) rfl) (e1.trans e2))
    · have h5 : ¬ 16 ≤ xs.getD 0 0 := by
        rw [Bool.not_eq_false', decide_eq_true_eq] at hbb
        omega
      have ha : act s (mkCall 3 xs) = if s.drill = 0 then (s, only (-6)) else if 8 * s.minute + s.me + 1 ≤ s.know (xs.getD 0 0) then (s, only (-17)) else ({ s with seen := s.seen.set (xs.getD 0 0) (8 * s.minute + s.me + 1) }, only ((s.know (xs.getD 0 0) : Nat) : Int)) := if_neg h5
      have e02 := e1.trans e2
      refine q_when (et_test (ev_op (ev_fld (ev_var rfl) (e02 _ _ hi) E.cls E.n_drill F_drill) ev_c (rv_eq rfl))) (fun hbb H3 e3 => ?_) (fun hbb H3 e3 => ?_)
      · have h6 : s.drill = 0 := by
          have := V.int.inj (of_decide_eq_true hbb)
          omega
        rw [if_pos h6] at ha
        exact s_no (retL_ex (q.ret A ha rfl) (e02.trans e3))
      · have h6 : ¬ s.drill = 0 := fun z => of_decide_eq_false hbb (by rw [z]; rfl)
        rw [if_neg h6] at ha
        have e03 := e02.trans e3
        refine q_asg (ev_op (ev_fld (ev_var rfl) (e03 _ _ hi) E.cls E.n_known F_known) (ev_var rfl) (rv_ixL (sq_of (e03 _ _ A.kn)) (vN_at (by omega)))) fun H4 e4 => ?_
        have e04 := e03.trans e4
        refine q_when (et_test (ev_op (ev_var rfl) (ev_mt (ev_var rfl) (e04 _ _ hi) F_here ea_nil fun H5 e5 Q2 q2 _ => ⟨a, k, n, s, rfl, A.ex (e04.trans e5), q2⟩) rv_I0)) (fun hbb H5 e5 => ?_) (fun hbb H5 e5 => ?_)
        · have h7 : 8 * s.minute + s.me + 1 ≤ s.know (xs.getD 0 0) := by
            have : ((8 * s.minute + s.me + 1 : Nat) : Int) ≤ ((s.know (xs.getD 0 0) : Nat) : Int) := of_decide_eq_true hbb
            omega
          rw [if_pos h7] at ha
          exact s_no (retL_ex (q.ret A ha rfl) (e04.trans e5))
        · have h7 : ¬ 8 * s.minute + s.me + 1 ≤ s.know (xs.getD 0 0) := by
            have : ¬ ((8 * s.minute + s.me + 1 : Nat) : Int) ≤ ((s.know (xs.getD 0 0) : Nat) : Int) := of_decide_eq_false hbb
            omega
          rw [if_neg h7] at ha
          have e05 := e04.trans e5
          refine q_setL (j := xs.getD 0 0) (e05 _ _ A.kn) (ev_mt (ev_var rfl) (e05 _ _ hi) F_here ea_nil fun H6 e6 Q2 q2 _ => ⟨a, k, n, s, rfl, A.ex (e05.trans e6), q2⟩) (ev_fld (ev_var rfl) (e05 _ _ hi) E.cls E.n_known F_known) (ev_var rfl) (by rw [vN_length]; omega) fun H6 e6 => ?_
          rw [vN_set]
          have e06 := e05.trans e6
          have ka : a ≠ k := ne_of hi A.kn (by intro z; cases z)
          refine s_retL (el_lst (ea_cons (ev_var rfl) ea_nil) (by show 1 ≤ 100000; decide)) fun r H7 hr e7 h7 => ?_
          refine q H7 k n r ?_ (.inl rfl) (.inl rfl) (fun c o h _ z _ => e7 _ _ (by rw [upd_ne z]; exact e06 _ _ h)) ?_ ?_
          · rw [ha]
            exact ⟨wf_in A.wf, ⟨dx, e7 _ _ (by rw [upd_ne ka]; exact e06 _ _ hi)⟩, e7 _ _ upd_same, ⟨ns, ⟨ho.len, ho.eq⟩, e7 _ _ (by rw [upd_ne (Ne.symm A.ne)]; exact e06 _ _ hn)⟩, A.ne⟩
          · exact .inl <| (But.of e06).upd.free hr (ne_upd hr)
          · rw [ha]
            exact h7
theorem ok_mu_tell (E : Env K mg C) (c_who_is_in : Cal P w K mg base' 2 "who_is_in" (sp_who_is_in C)) (c_Station_message_now : Met P w K mg base' 2 C "message_now" (sp_message_now C)) (F : Fun K "mu_tell" "mu_tell" s_mu_tell f fd) : FnOk P w K mg base' CX0 3 f fd ["station", "numbers"] (sp_mu C 4) := by
  refine F.ok sc_mu_tell (fun vs H Q E h => ?_) (fun cdv A outer s H vs Q _ hr h => ?_)
  · obtain ⟨a, k, n, s, b, xs, rfl, _⟩ := h
    rfl
  · obtain ⟨a, k, n, s, b, xs, rfl, A, hb, bk, bn, hl, q⟩ := h
    refine ⟨_, (pss_cons (ps_if (pt_cmpR op_eq (pe_fld (pv 0) rfl) pe_int (nomark _)) (pss_one (ps_ret (pe_lst (pa_cons (pe_un un_neg pe_int) pa_nil)))) pss_nil)
      (pss_one (ps_ret (pe_op op_cat (pe_lst (pa_cons (pe_ix ix_list (pcl c_who_is_in hr (by decide) (by rfl) (pa_cons (pv 0) pa_nil)) pe_int (fun _ _ => rfl)) pa_nil)) (pmt0 c_Station_message_now hr (by decide) (pv 0)))))), ?_⟩
    obtain ⟨dx, hi⟩ := A.ins
    obtain ⟨ns, ho, hn⟩ := A.nw
    refine q_when (et_test (ev_op (ev_fld (ev_var rfl) hi E.cls E.n_drill F_drill) ev_c (rv_eq rfl))) (fun hbb H1 e1 => ?_) (fun hbb H1 e1 => ?_)
    · have h6 : s.drill = 0 := by
        have := V.int.inj (of_decide_eq_true hbb)
        omega
      exact s_no (retL_ex (q.ret A (if_pos h6) rfl) e1)
    · have h6 : ¬ s.drill = 0 := fun z => of_decide_eq_false hbb (by rw [z]; rfl)
      have ha : act s (mkCall 4 xs) = (s.now, ⟨((s.in_.length : Nat) : Int), s.message⟩) := if_neg h6
      have hml : s.message.length = 22 := by
        show (s.drill :: (s.seen ++ s.news.set s.me s.minute)).length = 22
        rw [List.length_cons, List.length_append, List.length_set, A.wf.seenLen, A.wf.newsLen]
      refine s_retL (el_catLL (xs := [V.int (s.in_.length : Nat)]) (ys := vN s.message) (el_lst (ea_cons (ev_opL1 (el_cl (ea_cons (ev_var rfl) ea_nil) fun H2 e2 Q2 q2 _ => ⟨a, k, n, s, rfl, A.ex (e1.trans e2), q2⟩) (fun _ _ => ev_c) fun p H2 hp e2 => rv_ixL (sq_of hp) (atI_nat (j := 0) rfl)) ea_nil) (by show 1 ≤ 100000; decide))
        (el_mt (ev_var rfl) (e1 _ _ hi) F_message ea_nil fun H2 e2 Q2 q2 _ => ⟨a, k, n, s, rfl, A.ex (e1.trans e2), q2⟩) (by rw [vN_length, hml]; show 1 + 22 ≤ 100000; decide)) fun r H2 hr e2 h2 => ?_
      have e02 := e1.trans e2
      refine q H2 k n r ?_ (.inl rfl) (.inl rfl) (fun c o h _ _ _ => e02 _ _ h) (.inl (fresh_back e1 hr)) ?_
      · rw [ha]
        refine ⟨wf_now A.wf, ⟨dx, e02 _ _ hi⟩, e02 _ _ A.kn, ⟨ns, ⟨ho.len, fun j hj hne => ?_⟩, e02 _ _ hn⟩, A.ne⟩
        replace hne : j ≠ s.me := hne
        rw [ho.eq j hj hne]
        show _ = (s.news.set s.me s.minute).getD j 0
        rw [set_getD (by rw [A.wf.newsLen]; exact hj), if_neg (Ne.symm hne)]
      · rw [ha]
        show H2 r = some (.lst (V.int (s.in_.length : Nat) :: vI (castL s.message)))
        rw [vI_ints]
        exact h2
theorem ok_mu_hear (E : Env K mg C) (c_message_in : Cal P w K mg base' 1 "message_in" (sp_message_in K)) (c_is_good : Cal P w K mg base' 3 "is_good" (sp_is_good K)) (c_Station_hear : Met P w K mg base' 3 C "hear" (sp_hear C)) (F : Fun K "mu_hear" "mu_hear" s_mu_hear f fd) : FnOk P w K mg base' CX0 4 f fd ["station", "numbers"] (sp_mu C 5) := by
  refine F.ok sc_mu_hear (fun vs H Q E h => ?_) (fun cdv A outer s H vs Q _ hr h => ?_)
  · obtain ⟨a, k, n, s, b, xs, rfl, _⟩ := h
    rfl
  · obtain ⟨a, k, n, s, b, xs, rfl, A, hb, bk, bn, hl, q⟩ := h
    refine ⟨_, (pss_cons (ps_set (i := 2) sc_mu_hear.nd rfl (by first | exact Or.inl rfl | exact Or.inr rfl) (pcl c_message_in hr (by decide) (by rfl) (pa_cons (pv 1) pa_nil)))
      (pss_cons (ps_if (pt_not (pt_val (pcl c_is_good hr (by decide) (by rfl) (pa_cons (pv 2) pa_nil)))) (pss_one (ps_ret (pe_lst (pa_cons (pe_un un_neg pe_int) pa_nil)))) pss_nil)
      (pss_cons (ps_set (i := 3) sc_mu_hear.nd rfl (by first | exact Or.inl rfl | exact Or.inr rfl) (pmt c_Station_hear hr (by decide) (pv 0) (pa_cons (pv 2) pa_nil)))
      (pss_one (ps_ret (pe_lst (pa_cons (pv 3) (pa_cons (pe_fld (pv 0) rfl) pa_nil)))))))), ?_⟩
    replace hl : xs.length = 23 := hl
    have hm : (xs.drop 1).length = 22 := by rw [List.length_drop]; omega
    obtain ⟨dx, hi⟩ := A.ins
    obtain ⟨ns, ho, hn⟩ := A.nw
    refine q_asgL (el_cl (ea_cons (ev_var rfl) ea_nil) fun H2 e2 Q2 q2 _ => ⟨b, xs, rfl, sq_of (e2 _ _ hb), by omega, q2⟩) fun p H1 hp e1 h1 => ?_
    refine q_when (et_not (et_B (ev_cl (ea_cons (ev_var rfl) ea_nil) fun H2 e2 Q2 q2 _ => ⟨p, xs.drop 1, rfl, sq_of (e2 _ _ h1), hm, q2⟩))) (fun hbb H2 e2 => ?_) (fun hbb H2 e2 => ?_)
    · rw [Bool.not_eq_true'] at hbb
      exact s_no (retL_ex (q.ret A (if_pos hbb) rfl) (e1.trans e2))
    · rw [Bool.not_eq_false'] at hbb
      have ha1 := act_hear (s := s) hbb
      have ha2 : (act s (mkCall 5 xs)).2 = ⟨((if (xs.drop 1).getD 0 0 < s.drill then 0 else s.changes (xs.drop 1) : Nat) : Int), [(s.join (xs.drop 1)).drill]⟩ := by
        show (if Km441.good (xs.drop 1) = false then _ else _ : Station × Km441.Ans).2 = _
        rw [if_neg (by rw [hbb]; exact Bool.noConfusion)]
      have e02 := e1.trans e2
      refine q_asgmt (ev_var rfl) (e02 _ _ hi) F_hear (ea_cons (ev_var rfl) ea_nil) fun H3 e3 => ⟨a, k, n, s, p, xs.drop 1, rfl, A.ex (e02.trans e3), e3 _ _ (e2 _ _ h1), (fun z => by rw [z, A.kn] at hp; cases hp), (fun z => by rw [z, hn] at hp; cases hp), hm, hbb, fun H' k' n' A' hk hn' fr => ?_⟩
      have e03 := e02.trans e3
      obtain ⟨dx', hi'⟩ := A'.ins
      refine s_retL (el_lst (ea_cons (ev_var rfl) (ea_cons (ev_fld (ev_var rfl) hi' E.cls E.n_drill F_drill) ea_nil)) (by show 2 ≤ 100000; decide)) fun r H4 hr e4 h4 => ?_
      refine q H4 k' n' r (A'.ex e4) (hk.imp id (fresh_back e03)) (hn'.imp id (fresh_back e03)) (fun c o h z1 z2 z3 => e4 _ _ (fr _ _ (e03 _ _ h) z1 z2 z3)) ?_ ?_
      · by_cases rk : r = k
        · exact .inr (.inl rk)
        · by_cases rn : r = n
          · exact .inr (.inr rn)
          · refine .inl ?_
            cases hq : H r with
            | none => rfl
            | some o =>
              have := fr _ _ (e03 _ _ hq) (Ne.symm (ne_of_none hi' hr)) rk rn
              rw [hr] at this
              cases this
      · rw [ha2]
        rw [ha1] at h4
        exact h4
theorem ok_mu_where (E : Env K mg C) (c_is_person : Cal P w K mg base' 1 "is_person" sp_is_person) (c_station_of : Cal P w K mg base' 1 "station_of" sp_station_of) (c_minute_of : Cal P w K mg base' 1 "minute_of" sp_minute_of) (F : Fun K "mu_where" "mu_where" s_mu_where f fd) : FnOk P w K mg base' CX0 2 f fd ["station", "numbers"] (sp_mu C 6) := by
  refine F.ok sc_mu_where (fun vs H Q E h => ?_) (fun cdv A outer s H vs Q _ hr h => ?_)
  · obtain ⟨a, k, n, s, b, xs, rfl, _⟩ := h
    rfl
  · obtain ⟨a, k, n, s, b, xs, rfl, A, hb, bk, bn, hl, q⟩ := h
    refine ⟨_, (pss_cons (ps_set (i := 2) sc_mu_where.nd rfl (by first | exact Or.inl rfl | exact Or.inr rfl) (pe_ix ix_list (pv 1) pe_int (fun _ _ => rfl)))
      (pss_cons (ps_if (pt_not (pt_val (pcl c_is_person hr (by decide) (by rfl) (pa_cons (pv 2) pa_nil)))) (pss_one (ps_ret (pe_lst (pa_cons (pe_un un_neg pe_int) pa_nil)))) pss_nil)
      (pss_cons (ps_set (i := 3) sc_mu_where.nd rfl (by first | exact Or.inl rfl | exact Or.inr rfl) (pe_ix ix_list (pe_fld (pv 0) rfl) (pv 2) (fun _ _ => rfl)))
      (pss_cons (ps_if (pt_cmpR op_eq (pv 3) pe_int (nomark _)) (pss_one (ps_ret (pe_lst (pa_cons (pe_un un_neg pe_int) pa_nil)))) pss_nil)
      (pss_one (ps_ret (pe_lst (pa_cons (pcl c_station_of hr (by decide) (by rfl) (pa_cons (pv 3) pa_nil)) (pa_cons (pcl c_minute_of hr (by decide) (by rfl) (pa_cons (pv 3) pa_nil)) pa_nil))))))))), ?_⟩
    replace hl : xs.length = 1 := hl
    obtain ⟨dx, hi⟩ := A.ins
    have hsl := A.wf.seenLen
    refine q_asg (ev_op (ev_var rfl) ev_c (rv_ixL (sq_of hb) (vN_at (i := 0) (by omega)))) fun H1 e1 => ?_
    refine q_when (et_not (et_B (ev_cl (ea_cons (ev_var rfl) ea_nil) fun H2 e2 Q2 q2 _ => ⟨xs.getD 0 0, rfl, q2⟩))) (fun hbb H2 e2 => ?_) (fun hbb H2 e2 => ?_)
    · have h5 : 16 ≤ xs.getD 0 0 := by
        rw [Bool.not_eq_true', decide_eq_false_iff_not] at hbb
        omega
      exact s_no (retL_ex (q.ret A (congrArg (Prod.mk s) (if_pos h5)) rfl) (e1.trans e2))
    · have h5 : ¬ 16 ≤ xs.getD 0 0 := by
        rw [Bool.not_eq_false', decide_eq_true_eq] at hbb
        omega
      have ha : act s (mkCall 6 xs) = (s, if s.know (xs.getD 0 0) = 0 then only (-6) else ⟨((s.know (xs.getD 0 0) % 8 - 1 : Nat) : Int), [s.know (xs.getD 0 0) / 8]⟩) := congrArg (Prod.mk s) (if_neg h5)
      have e02 := e1.trans e2
      refine q_asg (ev_op (ev_fld (ev_var rfl) (e02 _ _ hi) E.cls E.n_known F_known) (ev_var rfl) (rv_ixL (sq_of (e02 _ _ A.kn)) (vN_at (by omega)))) fun H3 e3 => ?_
      have e03 := e02.trans e3
      refine q_when (et_test (ev_op (ev_var rfl) ev_c (rv_eq rfl))) (fun hbb H4 e4 => ?_) (fun hbb H4 e4 => ?_)
      · have h6 : s.know (xs.getD 0 0) = 0 := by
          have : ((s.know (xs.getD 0 0) : Nat) : Int) = 0 := V.int.inj (of_decide_eq_true hbb)
          omega
        rw [if_pos h6] at ha
        exact s_no (retL_ex (q.ret A ha rfl) (e03.trans e4))
      · have h6 : ¬ s.know (xs.getD 0 0) = 0 := fun z => of_decide_eq_false hbb (by
          show V.int ((s.know (xs.getD 0 0) : Nat) : Int) = V.int 0
          rw [z]
          rfl)
        rw [if_neg h6] at ha
        have hg := know_good A.wf (by omega) h6
        refine s_retL (el_lst (ea_cons (ev_cl (ea_cons (ev_var rfl) ea_nil) fun H5 e5 Q2 q2 _ => ⟨s.know (xs.getD 0 0), rfl, q2⟩) (ea_cons (ev_cl (ea_cons (ev_var rfl) ea_nil) fun H5 e5 Q2 q2 _ => ⟨s.know (xs.getD 0 0), rfl, q2⟩) ea_nil)) (by show 2 ≤ 100000; decide)) (retL_ex (q.ret A ha ?_) (e03.trans e4))
        show [V.int ((s.know (xs.getD 0 0) % 8 - 1 : Nat) : Int), V.int ((s.know (xs.getD 0 0) / 8 : Nat) : Int)] = _
        rw [show ((s.know (xs.getD 0 0) % 8 - 1 : Nat) : Int) = ((s.know (xs.getD 0 0) % 8 : Nat) : Int) - 1 by omega]
theorem ok_mu_count (c_who_is_in : Cal P w K mg base' 2 "who_is_in" (sp_who_is_in C)) (F : Fun K "mu_count" "mu_count" s_mu_count f fd) : FnOk P w K mg base' CX0 3 f fd ["station", "numbers"] (sp_mu C 7) := by
  refine F.ok sc_mu_count (fun vs H Q E h => ?_) (fun cdv A outer s H vs Q _ hr h => ?_)
  · obtain ⟨a, k, n, s, b, xs, rfl, _⟩ := h
    rfl
  · obtain ⟨a, k, n, s, b, xs, rfl, A, hb, bk, bn, hl, q⟩ := h
    refine ⟨_, (pss_one (ps_ret (pcl c_who_is_in hr (by decide) (by rfl) (pa_cons (pv 0) pa_nil)))), ?_⟩
    exact s_retL (el_cl (ea_cons (ev_var rfl) ea_nil) fun H2 e2 Q2 q2 _ => ⟨a, k, n, s, rfl, A.ex e2, q2⟩) (q.ret A rfl rfl)
theorem ok_mu_missing (E : Env K mg C) (c_who_is_not_in : Cal P w K mg base' 2 "who_is_not_in" (sp_who_is_not_in C)) (F : Fun K "mu_missing" "mu_missing" s_mu_missing f fd) : FnOk P w K mg base' CX0 3 f fd ["station", "numbers"] (sp_mu C 8) := by
  refine F.ok sc_mu_missing (fun vs H Q E h => ?_) (fun cdv A outer s H vs Q _ hr h => ?_)
  · obtain ⟨a, k, n, s, b, xs, rfl, _⟩ := h
    rfl
  · obtain ⟨a, k, n, s, b, xs, rfl, A, hb, bk, bn, hl, q⟩ := h
    refine ⟨_, (pss_cons (ps_if (pt_cmpR op_eq (pe_fld (pv 0) rfl) pe_int (nomark _)) (pss_one (ps_ret (pe_lst (pa_cons (pe_un un_neg pe_int) pa_nil)))) pss_nil)
      (pss_one (ps_ret (pcl c_who_is_not_in hr (by decide) (by rfl) (pa_cons (pv 0) pa_nil))))), ?_⟩
    obtain ⟨dx, hi⟩ := A.ins
    refine q_when (et_test (ev_op (ev_fld (ev_var rfl) hi E.cls E.n_drill F_drill) ev_c (rv_eq rfl))) (fun hbb H1 e1 => ?_) (fun hbb H1 e1 => ?_)
    · have h6 : s.drill = 0 := by
        have := V.int.inj (of_decide_eq_true hbb)
        omega
      exact s_no (retL_ex (q.ret A (congrArg (Prod.mk s) (if_pos h6)) rfl) e1)
    · have h6 : ¬ s.drill = 0 := fun z => of_decide_eq_false hbb (by rw [z]; rfl)
      exact s_retL (el_cl (ea_cons (ev_var rfl) ea_nil) fun H2 e2 Q2 q2 _ => ⟨a, k, n, s, rfl, (A.ex e1).ex e2, q2⟩) (retL_ex (q.ret A (congrArg (Prod.mk s) (if_neg h6)) rfl) e1)
end
end Sm

namespace Sm
open PySem PySem.Spec PyProof.Rows L2 Evl
open Km441 (Station act only)
theorem eq_int {x y : Nat} : decide (V.int (x : Nat) = V.int (y : Nat)) = (x == y) := by
  by_cases e : x = y
  · subst e
    simp
  · rw [decide_eq_false (fun h => e (by have := V.int.inj h; omega)), beq_false_of_ne e]
section
variable {P : Program} {w : World} {K : PySem.W.Frag} {mg : Str → Option Value} {base' : Heap} {C f : Addr} {fd : FuncData}
theorem ok_mu_at (E : Env K mg C) (c_is_station : Cal P w K mg base' 1 "is_station" sp_is_station) (c_station_of : Cal P w K mg base' 1 "station_of" sp_station_of) (c_count_and_bits : Cal P w K mg base' 1 "count_and_bits" (sp_count_and_bits K)) (F : Fun K "mu_at" "mu_at" s_mu_at f fd) : FnOk P w K mg base' CX0 2 f fd ["station", "numbers"] (sp_mu C 9) := by
  refine F.ok sc_mu_at (fun vs H Q E h => ?_) (fun cdv A outer s H vs Q _ hr h => ?_)
  · obtain ⟨a, k, n, s, b, xs, rfl, _⟩ := h
    rfl
  · obtain ⟨a, k, n, s, b, xs, rfl, A, hb, bk, bn, hl, q⟩ := h
    refine ⟨_, (pss_cons (ps_set (i := 2) sc_mu_at.nd rfl (by first | exact Or.inl rfl | exact Or.inr rfl) (pe_ix ix_list (pv 1) pe_int (fun _ _ => rfl)))
      (pss_cons (ps_if (pt_not (pt_val (pcl c_is_station hr (by decide) (by rfl) (pa_cons (pv 2) pa_nil)))) (pss_one (ps_ret (pe_lst (pa_cons (pe_un un_neg pe_int) pa_nil)))) pss_nil)
      (pss_one (ps_ret (pcl c_count_and_bits hr (by decide) (by rfl) (pa_cons (pe_lc (own := [("number", 3)]) (g := gName 3) (tt := tYes) rfl sc_mu_at.nd (pi_list (pe_fld (pv 0) rfl)) (blkOk_by (N := ["station", "numbers", "k", "number"]) (sc := defScope s_mu_at) (by decide +kernel)) (fun _ _ _ _ _ => pg_name (i := 3) sc_mu_at.nd rfl (by first | exact Or.inl rfl | exact Or.inr rfl)) (fun _ _ _ _ _ => pts_nil) (fun _ _ _ _ _ => (pe_and (pe_cmpR op_ne (pv 3) pe_int (nomark _)) (pe_one (pe_cmpR op_eq (pcl c_station_of hr (by decide) (by rfl) (pa_cons (pv 3) pa_nil)) (pv 2) (nomark _)))))) pa_nil)))))), ?_⟩
    replace hl : xs.length = 1 := hl
    obtain ⟨dx, hi⟩ := A.ins
    have hsl := A.wf.seenLen
    refine q_asg (ev_op (ev_var rfl) ev_c (rv_ixL (sq_of hb) (vN_at (i := 0) (by omega)))) fun H1 e1 => ?_
    refine q_when (et_not (et_B (ev_cl (ea_cons (ev_var rfl) ea_nil) fun H2 e2 Q2 q2 _ => ⟨xs.getD 0 0, rfl, q2⟩))) (fun hbb H2 e2 => ?_) (fun hbb H2 e2 => ?_)
    · have h5 : 5 ≤ xs.getD 0 0 := by
        rw [Bool.not_eq_true', decide_eq_false_iff_not] at hbb
        omega
      exact s_no (retL_ex (q.ret A (congrArg (Prod.mk s) (if_pos h5)) rfl) (e1.trans e2))
    · have h5 : ¬ 5 ≤ xs.getD 0 0 := by
        rw [Bool.not_eq_false', decide_eq_true_eq] at hbb
        omega
      have e02 := e1.trans e2
      have ha : act s (mkCall 9 xs) = (s, ⟨(((s.at_ (xs.getD 0 0)).length : Nat) : Int), [Km441.bits (s.at_ (xs.getD 0 0))]⟩) := congrArg (Prod.mk s) (if_neg h5)
      refine s_retL (el_clL (el_mapL (g := fun x => V.bl (x % 8 == xs.getD 0 0 + 1)) (ev_fld (ev_var rfl) (e02 _ _ hi) E.cls E.n_known F_known) (sq_of (e02 _ _ A.kn)) (by omega) fun x H3 e3 => ev_is (ev_andV (ev_op (ev_var rfl) ev_c (rv_ne rfl)) fun _ => ev_op (ev_cl (ea_cons (ev_var rfl) ea_nil) fun H4 e4 Q2 q2 _ => ⟨x, rfl, q2⟩) (ev_var rfl) (rv_eq rfl)) ?_) fun p H3 e3 hp H4 e4 Q2 q2 _ => ⟨p, s.seen.map fun x => x % 8 == xs.getD 0 0 + 1, rfl, ?_, ?_⟩) (retL_ex (q.ret A ha rfl) e02)
      · refine congrArg V.bl ?_
        by_cases h0 : x % 8 = xs.getD 0 0 + 1
        · have hx : x ≠ 0 := fun z => by
            rw [z] at h0
            omega
          rw [decide_eq_false (fun h => hx (by have := V.int.inj h; omega)), decide_eq_true (by congr 1; omega), h0]
          simp
        · rw [beq_false_of_ne h0, decide_eq_false (p := V.int (((x % 8 : Nat) : Int) - 1) = _) (fun h => h0 (by have := V.int.inj h; omega)), Bool.and_false]
      · rw [List.map_map]
        exact sq_of (e4 _ _ hp)
      · rw [at_eq hsl]
        exact q2
theorem ok_mu_sure (E : Env K mg C) (c_is_some_stations : Cal P w K mg base' 1 "is_some_stations" sp_is_some_stations) (c_is_minute : Cal P w K mg base' 1 "is_minute" sp_is_minute) (c_Station_news : Met P w K mg base' 1 C "news" (sp_news C)) (c_who_is_not_in : Cal P w K mg base' 2 "who_is_not_in" (sp_who_is_not_in C)) (F : Fun K "mu_sure" "mu_sure" s_mu_sure f fd) : FnOk P w K mg base' CX0 3 f fd ["station", "numbers"] (sp_mu C 10) := by
  refine F.ok sc_mu_sure (fun vs H Q E h => ?_) (fun cdv A outer s H vs Q _ hr h => ?_)
  · obtain ⟨a, k, n, s, b, xs, rfl, _⟩ := h
    rfl
  · obtain ⟨a, k, n, s, b, xs, rfl, A, hb, bk, bn, hl, q⟩ := h
    refine ⟨_, (pss_cons (ps_set (i := 2) sc_mu_sure.nd rfl (by first | exact Or.inl rfl | exact Or.inr rfl) (pe_ix ix_list (pv 1) pe_int (fun _ _ => rfl)))
      (pss_cons (ps_set (i := 3) sc_mu_sure.nd rfl (by first | exact Or.inl rfl | exact Or.inr rfl) (pe_ix ix_list (pv 1) pe_int (fun _ _ => rfl)))
      (pss_cons (ps_if ((pw_or (pt_not (pt_val (pcl c_is_some_stations hr (by decide) (by rfl) (pa_cons (pv 2) pa_nil)))) (pw_or1 (pt_not (pt_val (pcl c_is_minute hr (by decide) (by rfl) (pa_cons (pv 3) pa_nil))))))).pt (pss_one (ps_ret (pe_lst (pa_cons (pe_un un_neg pe_int) pa_nil)))) pss_nil)
      (pss_cons (ps_if (pt_cmpR op_eq (pe_fld (pv 0) rfl) pe_int (nomark _)) (pss_one (ps_ret (pe_lst (pa_cons (pe_un un_neg pe_int) pa_nil)))) pss_nil)
      (pss_cons (ps_if (pt_cmpR op_le (pe_callB (cr_min rfl) (by rfl) E.b_min (by decide +kernel) (pa_cons (pe_slice sl_list (pmt0 c_Station_news hr (by decide) (pv 0)) po_none (po_some (pv 2))) pa_nil)) (pv 3) (nomark _)) (pss_one (ps_ret (pe_lst (pa_cons (pe_un un_neg pe_int) pa_nil)))) pss_nil)
      (pss_one (ps_ret (pcl c_who_is_not_in hr (by decide) (by rfl) (pa_cons (pv 0) pa_nil))))))))), ?_⟩
    replace hl : xs.length = 2 := hl
    obtain ⟨dx, hi⟩ := A.ins
    refine q_asg (ev_op (ev_var rfl) ev_c (rv_ixL (sq_of hb) (vN_at (i := 0) (by omega)))) fun H1 e1 => ?_
    refine q_asg (ev_op (ev_var rfl) ev_c (rv_ixL (sq_of (e1 _ _ hb)) (vN_at (i := 1) (by omega)))) fun H2 e2 => ?_
    refine q_when (et_or (et_not (et_B (ev_cl (ea_cons (ev_var rfl) ea_nil) fun H3 e3 Q2 q2 _ => ⟨xs.getD 0 0, rfl, q2⟩))) fun _ => et_not (et_B (ev_cl (ea_cons (ev_var rfl) ea_nil) fun H3 e3 Q2 q2 _ => ⟨xs.getD 1 0, rfl, q2⟩))) (fun hbb H3 e3 => ?_) (fun hbb H3 e3 => ?_)
    · have h5 : xs.getD 0 0 = 0 ∨ 5 < xs.getD 0 0 ∨ 100000 < xs.getD 1 0 := by
        rw [Bool.or_eq_true, Bool.not_eq_true', Bool.not_eq_true', decide_eq_false_iff_not, decide_eq_false_iff_not] at hbb
        omega
      exact s_no (retL_ex (q.ret A (congrArg (Prod.mk s) (if_pos h5)) rfl) ((e1.trans e2).trans e3))
    · have h5 : ¬ (xs.getD 0 0 = 0 ∨ 5 < xs.getD 0 0 ∨ 100000 < xs.getD 1 0) := by
        rw [Bool.or_eq_false_iff, Bool.not_eq_false', Bool.not_eq_false', decide_eq_true_eq, decide_eq_true_eq] at hbb
        omega
      have e03 := (e1.trans e2).trans e3
      have ha : act s (mkCall 10 xs) = (s, if s.drill = 0 then only (-6) else if s.late (xs.getD 0 0) (xs.getD 1 0) ≠ [] then only (-13) else ⟨((s.missing.length : Nat) : Int), [Km441.bits s.missing]⟩) := congrArg (Prod.mk s) (if_neg h5)
      refine q_when (et_test (ev_op (ev_fld (ev_var rfl) (e03 _ _ hi) E.cls E.n_drill F_drill) ev_c (rv_eq rfl))) (fun hbb H4 e4 => ?_) (fun hbb H4 e4 => ?_)
      · have h6 : s.drill = 0 := by
          have := V.int.inj (of_decide_eq_true hbb)
          omega
        rw [if_pos h6] at ha
        exact s_no (retL_ex (q.ret A ha rfl) (e03.trans e4))
      · have h6 : ¬ s.drill = 0 := fun z => of_decide_eq_false hbb (by rw [z]; rfl)
        rw [if_neg h6] at ha
        have e04 := e03.trans e4
        have hnl := now_len A.wf
        obtain ⟨lm, ll⟩ := least_min A.wf (n := xs.getD 0 0) (by omega) (by omega)
        have lt := late_least A.wf (n := xs.getD 0 0) (t := xs.getD 1 0) (by omega) (by omega)
        refine q_when (et_test (ev_op (x := .int ((s.least (xs.getD 0 0) : Nat) : Int)) (ev_minL (ns := castL (s.now.news.take (xs.getD 0 0))) (el_is (el_slL (xs := vN s.now.news) (el_mt (ev_var rfl) (e04 _ _ hi) F_news ea_nil fun H5 e5 Q2 q2 _ => ⟨a, k, n, s, rfl, A.ex (e04.trans e5), q2⟩) eo_none (eo_some (ev_var rfl))) ?_) (mem_castL lm) fun y hy => ?_) (ev_var rfl) rv_I0)) (fun hb2 H5 e5 => ?_) (fun hb2 H5 e5 => ?_)
        · rw [cutV_to (xs.getD 0 0) (by rw [vN_length, hnl]; omega), vN_take, vN_ints]
        · obtain ⟨x, hx, rfl⟩ := of_castL hy
          have := ll x hx
          omega
        · have h7 : s.least (xs.getD 0 0) ≤ xs.getD 1 0 := by
            have : ((s.least (xs.getD 0 0) : Nat) : Int) ≤ ((xs.getD 1 0 : Nat) : Int) := of_decide_eq_true hb2
            omega
          rw [if_pos (lt.mpr h7)] at ha
          exact s_no (retL_ex (q.ret A ha rfl) (e04.trans e5))
        · have h7 : ¬ s.least (xs.getD 0 0) ≤ xs.getD 1 0 := by
            have : ¬ ((s.least (xs.getD 0 0) : Nat) : Int) ≤ ((xs.getD 1 0 : Nat) : Int) := of_decide_eq_false hb2
            omega
          rw [if_neg (fun z => h7 (lt.mp z))] at ha
          exact s_retL (el_cl (ea_cons (ev_var rfl) ea_nil) fun H6 e6 Q2 q2 _ => ⟨a, k, n, s, rfl, A.ex ((e04.trans e5).trans e6), q2⟩) (retL_ex (q.ret A ha rfl) (e04.trans e5))
theorem ok_mu_news (E : Env K mg C) (c_is_station : Cal P w K mg base' 1 "is_station" sp_is_station) (c_Station_news : Met P w K mg base' 1 C "news" (sp_news C)) (F : Fun K "mu_news" "mu_news" s_mu_news f fd) : FnOk P w K mg base' CX0 2 f fd ["station", "numbers"] (sp_mu C 11) := by
  refine F.ok sc_mu_news (fun vs H Q E h => ?_) (fun cdv A outer s H vs Q _ hr h => ?_)
  · obtain ⟨a, k, n, s, b, xs, rfl, _⟩ := h
    rfl
  · obtain ⟨a, k, n, s, b, xs, rfl, A, hb, bk, bn, hl, q⟩ := h
    refine ⟨_, (pss_cons (ps_set (i := 2) sc_mu_news.nd rfl (by first | exact Or.inl rfl | exact Or.inr rfl) (pe_ix ix_list (pv 1) pe_int (fun _ _ => rfl)))
      (pss_cons (ps_if (pt_not (pt_val (pcl c_is_station hr (by decide) (by rfl) (pa_cons (pv 2) pa_nil)))) (pss_one (ps_ret (pe_lst (pa_cons (pe_un un_neg pe_int) pa_nil)))) pss_nil)
      (pss_one (ps_ret (pe_lst (pa_cons (pe_ix ix_list (pmt0 c_Station_news hr (by decide) (pv 0)) (pv 2) (fun _ _ => rfl)) pa_nil)))))), ?_⟩
    replace hl : xs.length = 1 := hl
    obtain ⟨dx, hi⟩ := A.ins
    refine q_asg (ev_op (ev_var rfl) ev_c (rv_ixL (sq_of hb) (vN_at (i := 0) (by omega)))) fun H1 e1 => ?_
    refine q_when (et_not (et_B (ev_cl (ea_cons (ev_var rfl) ea_nil) fun H2 e2 Q2 q2 _ => ⟨xs.getD 0 0, rfl, q2⟩))) (fun hbb H2 e2 => ?_) (fun hbb H2 e2 => ?_)
    · have h5 : 5 ≤ xs.getD 0 0 := by
        rw [Bool.not_eq_true', decide_eq_false_iff_not] at hbb
        omega
      exact s_no (retL_ex (q.ret A (congrArg (Prod.mk s) (if_pos h5)) rfl) (e1.trans e2))
    · have h5 : ¬ 5 ≤ xs.getD 0 0 := by
        rw [Bool.not_eq_false', decide_eq_true_eq] at hbb
        omega
      have e02 := e1.trans e2
      have hnl := now_len A.wf
      have ha : act s (mkCall 11 xs) = (s, only ((s.now.news.getD (xs.getD 0 0) 0 : Nat) : Int)) := congrArg (Prod.mk s) (if_neg h5)
      exact s_retL (el_lst (ea_cons (ev_opL1 (el_mt (ev_var rfl) (e02 _ _ hi) F_news ea_nil fun H3 e3 Q2 q2 _ => ⟨a, k, n, s, rfl, A.ex (e02.trans e3), q2⟩) (fun _ _ => ev_var rfl) fun p H3 hp e3 => rv_ixL (sq_of hp) (vN_at (by omega))) ea_nil) (by show 1 ≤ 100000; decide)) (retL_ex (q.ret A ha rfl) e02)
theorem ok_mu_soonest (E : Env K mg C) (c_is_some_stations : Cal P w K mg base' 1 "is_some_stations" sp_is_some_stations) (c_Station_news : Met P w K mg base' 1 C "news" (sp_news C)) (c_count_and_bits : Cal P w K mg base' 1 "count_and_bits" (sp_count_and_bits K)) (F : Fun K "mu_soonest" "mu_soonest" s_mu_soonest f fd) : FnOk P w K mg base' CX0 2 f fd ["station", "numbers"] (sp_mu C 12) := by
  refine F.ok sc_mu_soonest (fun vs H Q E h => ?_) (fun cdv A outer s H vs Q _ hr h => ?_)
  · obtain ⟨a, k, n, s, b, xs, rfl, _⟩ := h
    rfl
  · obtain ⟨a, k, n, s, b, xs, rfl, A, hb, bk, bn, hl, q⟩ := h
    refine ⟨_, (pss_cons (ps_set (i := 2) sc_mu_soonest.nd rfl (by first | exact Or.inl rfl | exact Or.inr rfl) (pe_ix ix_list (pv 1) pe_int (fun _ _ => rfl)))
      (pss_cons (ps_if (pt_not (pt_val (pcl c_is_some_stations hr (by decide) (by rfl) (pa_cons (pv 2) pa_nil)))) (pss_one (ps_ret (pe_lst (pa_cons (pe_un un_neg pe_int) pa_nil)))) pss_nil)
      (pss_cons (ps_set (i := 3) sc_mu_soonest.nd rfl (by first | exact Or.inl rfl | exact Or.inr rfl) (pe_slice sl_list (pmt0 c_Station_news hr (by decide) (pv 0)) po_none (po_some (pv 2))))
      (pss_cons (ps_set (i := 4) sc_mu_soonest.nd rfl (by first | exact Or.inl rfl | exact Or.inr rfl) (pe_callB (cr_min rfl) (by rfl) E.b_min (by decide +kernel) (pa_cons (pv 3) pa_nil)))
      (pss_one (ps_ret (pe_lst (pa_cons (pv 4) (pa_cons (pe_ix ix_list (pcl c_count_and_bits hr (by decide) (by rfl) (pa_cons (pe_lc (own := [("minute", 5)]) (g := gName 5) (tt := tYes) rfl sc_mu_soonest.nd (pi_list (pv 3)) (blkOk_by (N := ["station", "numbers", "n", "minutes", "earliest", "minute"]) (sc := defScope s_mu_soonest) (by decide +kernel)) (fun _ _ _ _ _ => pg_name (i := 5) sc_mu_soonest.nd rfl (by first | exact Or.inl rfl | exact Or.inr rfl)) (fun _ _ _ _ _ => pts_nil) (fun _ _ _ _ _ => (pe_cmpR op_eq (pv 5) (pv 4) (nomark _)))) pa_nil)) pe_int (fun _ _ => rfl)) pa_nil))))))))), ?_⟩
    replace hl : xs.length = 1 := hl
    obtain ⟨dx, hi⟩ := A.ins
    refine q_asg (ev_op (ev_var rfl) ev_c (rv_ixL (sq_of hb) (vN_at (i := 0) (by omega)))) fun H1 e1 => ?_
    refine q_when (et_not (et_B (ev_cl (ea_cons (ev_var rfl) ea_nil) fun H2 e2 Q2 q2 _ => ⟨xs.getD 0 0, rfl, q2⟩))) (fun hbb H2 e2 => ?_) (fun hbb H2 e2 => ?_)
    · have h5 : xs.getD 0 0 = 0 ∨ 5 < xs.getD 0 0 := by
        rw [Bool.not_eq_true', decide_eq_false_iff_not] at hbb
        omega
      exact s_no (retL_ex (q.ret A (congrArg (Prod.mk s) (if_pos h5)) rfl) (e1.trans e2))
    · have h5 : ¬ (xs.getD 0 0 = 0 ∨ 5 < xs.getD 0 0) := by
        rw [Bool.not_eq_false', decide_eq_true_eq] at hbb
        omega
      have e02 := e1.trans e2
      have hnl := now_len A.wf
      obtain ⟨lm, ll⟩ := least_min A.wf (n := xs.getD 0 0) (by omega) (by omega)
      have so := soon_eq A.wf (n := xs.getD 0 0) (by omega) (s.least (xs.getD 0 0))
      have ha : act s (mkCall 12 xs) = (s, ⟨((s.least (xs.getD 0 0) : Nat) : Int), [Km441.bits ((List.range (xs.getD 0 0)).filter fun k => s.now.news.getD k 0 == s.least (xs.getD 0 0))]⟩) := congrArg (Prod.mk s) (if_neg h5)
      have tk : (s.now.news.take (xs.getD 0 0)).length ≤ 40000 := by
        rw [List.length_take]
        omega
      refine q_asgL (xs := vN (s.now.news.take (xs.getD 0 0))) (el_is (el_slL (xs := vN s.now.news) (el_mt (ev_var rfl) (e02 _ _ hi) F_news ea_nil fun H3 e3 Q2 q2 _ => ⟨a, k, n, s, rfl, A.ex (e02.trans e3), q2⟩) eo_none (eo_some (ev_var rfl))) (by rw [cutV_to (xs.getD 0 0) (by rw [vN_length, hnl]; omega), vN_take])) fun p H3 hp e3 h3 => ?_
      refine q_asg (v := .int ((s.least (xs.getD 0 0) : Nat) : Int)) (ev_minV (ns := castL (s.now.news.take (xs.getD 0 0))) (ev_var rfl) (by rw [vN_ints]; exact sq_of h3) (mem_castL lm) fun y hy => ?_) fun H4 e4 => ?_
      · obtain ⟨x, hx, rfl⟩ := of_castL hy
        have := ll x hx
        omega
      · have e04 := (e02.trans e3).trans e4
        refine s_retL (el_lst (ea_cons (ev_var rfl) (ea_cons (ev_opL1 (el_clL (xs := [.int ((places ((s.now.news.take (xs.getD 0 0)).map fun x => x == s.least (xs.getD 0 0))).length : Nat), .int (Km441.bits (places ((s.now.news.take (xs.getD 0 0)).map fun x => x == s.least (xs.getD 0 0))) : Nat)]) (el_mapL (g := fun x => V.bl (x == s.least (xs.getD 0 0))) (ev_var rfl) (sq_of (e4 _ _ h3)) tk fun x H5 e5 => ev_is (ev_op (ev_var rfl) (ev_var rfl) (rv_eq rfl)) (congrArg V.bl eq_int)) fun r H5 e5 hr5 H6 e6 Q2 q2 _ => ⟨r, (s.now.news.take (xs.getD 0 0)).map fun x => x == s.least (xs.getD 0 0), rfl, by rw [List.map_map]; exact sq_of (e6 _ _ hr5), q2⟩) (fun _ _ => ev_c) fun r H5 hr5 e5 => rv_ixL (sq_of hr5) (atI_nat (j := 1) rfl)) ea_nil)) (by show 2 ≤ 100000; decide)) (retL_ex (q.ret A ha ?_) e04)
        rw [so]
        rfl
theorem ok_mu_new (E : Env K mg C) (c_message_in : Cal P w K mg base' 1 "message_in" (sp_message_in K)) (c_is_good : Cal P w K mg base' 3 "is_good" (sp_is_good K)) (c_Station_would_learn : Met P w K mg base' 2 C "would_learn" (sp_would_learn C)) (F : Fun K "mu_new" "mu_new" s_mu_new f fd) : FnOk P w K mg base' CX0 4 f fd ["station", "numbers"] (sp_mu C 13) := by
  refine F.ok sc_mu_new (fun vs H Q E h => ?_) (fun cdv A outer s H vs Q _ hr h => ?_)
  · obtain ⟨a, k, n, s, b, xs, rfl, _⟩ := h
    rfl
  · obtain ⟨a, k, n, s, b, xs, rfl, A, hb, bk, bn, hl, q⟩ := h
    refine ⟨_, (pss_cons (ps_set (i := 2) sc_mu_new.nd rfl (by first | exact Or.inl rfl | exact Or.inr rfl) (pcl c_message_in hr (by decide) (by rfl) (pa_cons (pv 1) pa_nil)))
      (pss_cons (ps_if (pt_not (pt_val (pcl c_is_good hr (by decide) (by rfl) (pa_cons (pv 2) pa_nil)))) (pss_one (ps_ret (pe_lst (pa_cons (pe_un un_neg pe_int) pa_nil)))) pss_nil)
      (pss_one (ps_ret (pe_lst (pa_cons (pmt c_Station_would_learn hr (by decide) (pv 0) (pa_cons (pv 2) pa_nil)) pa_nil)))))), ?_⟩
    replace hl : xs.length = 23 := hl
    have hm : (xs.drop 1).length = 22 := by rw [List.length_drop]; omega
    obtain ⟨dx, hi⟩ := A.ins
    refine q_asgL (el_cl (ea_cons (ev_var rfl) ea_nil) fun H2 e2 Q2 q2 _ => ⟨b, xs, rfl, sq_of (e2 _ _ hb), by omega, q2⟩) fun p H1 hp e1 h1 => ?_
    refine q_when (et_not (et_B (ev_cl (ea_cons (ev_var rfl) ea_nil) fun H2 e2 Q2 q2 _ => ⟨p, xs.drop 1, rfl, sq_of (e2 _ _ h1), hm, q2⟩))) (fun hbb H2 e2 => ?_) (fun hbb H2 e2 => ?_)
    · rw [Bool.not_eq_true'] at hbb
      exact s_no (retL_ex (q.ret A (congrArg (Prod.mk s) (if_pos hbb)) rfl) (e1.trans e2))
    · rw [Bool.not_eq_false'] at hbb
      have e02 := e1.trans e2
      have ha : act s (mkCall 13 xs) = (s, only ((if (xs.drop 1).getD 0 0 < s.drill then 0 else s.changes (xs.drop 1) : Nat) : Int)) := congrArg (Prod.mk s) (if_neg (by rw [hbb]; exact Bool.noConfusion))
      exact s_retL (el_lst (ea_cons (ev_mt (ev_var rfl) (e02 _ _ hi) F_would (ea_cons (ev_var rfl) ea_nil) fun H3 e3 Q2 q2 _ => ⟨a, k, n, s, p, xs.drop 1, rfl, A.ex (e02.trans e3), e3 _ _ (e2 _ _ h1), hm, hbb, q2⟩) ea_nil) (by show 1 ≤ 100000; decide)) (retL_ex (q.ret A ha rfl) e02)
theorem ok_mu_last (E : Env K mg C) (c_minute_of : Cal P w K mg base' 1 "minute_of" sp_minute_of) (c_station_of : Cal P w K mg base' 1 "station_of" sp_station_of) (F : Fun K "mu_last" "mu_last" s_mu_last f fd) : FnOk P w K mg base' CX0 2 f fd ["station", "numbers"] (sp_mu C 14) := by
  refine F.ok sc_mu_last (fun vs H Q E h => ?_) (fun cdv A outer s H vs Q _ hr h => ?_)
  · obtain ⟨a, k, n, s, b, xs, rfl, _⟩ := h
    rfl
  · obtain ⟨a, k, n, s, b, xs, rfl, A, hb, bk, bn, hl, q⟩ := h
    refine ⟨_, (pss_cons (ps_set (i := 2) sc_mu_last.nd rfl (by first | exact Or.inl rfl | exact Or.inr rfl) (pe_callB (cr_max rfl) (by rfl) E.b_max (by decide +kernel) (pa_cons (pe_fld (pv 0) rfl) pa_nil)))
      (pss_cons (ps_if (pt_cmpR op_eq (pv 2) pe_int (nomark _)) (pss_one (ps_ret (pe_lst (pa_cons (pe_un un_neg pe_int) pa_nil)))) pss_nil)
      (pss_cons (ps_set (i := 3) sc_mu_last.nd rfl (by first | exact Or.inl rfl | exact Or.inr rfl) (pe_callB (cr_max rfl) (by rfl) E.b_max (by decide +kernel) (pa_cons (pe_lc (own := [("p", 4)]) (g := gName 4) rfl sc_mu_last.nd (pi_range1 rfl E.b_range (pa_cons (pgc E.PERSONS (by rfl)) pa_nil)) (blkOk_by (N := ["station", "numbers", "latest", "who", "p"]) (sc := defScope s_mu_last) (by decide +kernel)) (fun _ _ _ _ _ => pg_name (i := 4) sc_mu_last.nd rfl (by first | exact Or.inl rfl | exact Or.inr rfl)) (fun _ _ _ _ _ => pts_one (pt_cmpR op_eq (pe_ix (ix_listK (K := K) rfl) (pe_fldK (K := K) rfl (pv 0) rfl) (pv 4) (fun _ _ => rfl)) (pv 2) (nomark _))) (fun _ _ _ _ _ => (pv 4))) pa_nil)))
      (pss_one (ps_ret (pe_lst (pa_cons (pv 3) (pa_cons (pcl c_minute_of hr (by decide) (by rfl) (pa_cons (pv 2) pa_nil)) (pa_cons (pcl c_station_of hr (by decide) (by rfl) (pa_cons (pv 2) pa_nil)) pa_nil))))))))), ?_⟩
    obtain ⟨dx, hi⟩ := A.ins
    have hsl := A.wf.seenLen
    have hk : SqL K H k ((castL s.seen).map V.int) := by
      rw [vN_ints]
      exact sq_of A.kn
    have hmem : ∀ p, p < 16 → ((s.know p : Nat) : Int) ∈ castL s.seen := fun p hp => mem_castL (getD_mem (by omega))
    have hof : ∀ z, z ∈ castL s.seen → ∃ p, p < 16 ∧ z = ((s.know p : Nat) : Int) := fun z hz => by
      obtain ⟨x, hx, rfl⟩ := of_castL hz
      obtain ⟨p, hp, e⟩ := List.getElem_of_mem hx
      refine ⟨p, by omega, ?_⟩
      show _ = ((s.seen.getD p 0 : Nat) : Int)
      rw [← e]
      simp [List.getD, hp]
    have L := lastOf_is s.know 16
    rw [← last_of] at L
    cases hc : s.last with
    | none =>
      rw [hc] at L
      replace L : ∀ p, p < 16 → s.know p = 0 := L
      have ha : act s (mkCall 14 xs) = (s, only (-6)) := by
        show (s, match s.last with | none => only (-6) | some p => (⟨((p : Nat) : Int), [s.know p / 8, s.know p % 8 - 1]⟩ : Km441.Ans)) = _
        rw [hc]
      refine q_asg (v := .int (0 : Int)) (ev_maxV (ev_fld (ev_var rfl) hi E.cls E.n_known F_known) hk ?_ fun y hy => ?_) fun H1 e1 => ?_
      · have := hmem 0 (by decide)
        rw [L 0 (by decide)] at this
        exact this
      · obtain ⟨p, hp, rfl⟩ := hof y hy
        rw [L p hp]
        exact Int.le_refl _
      · refine q_when (et_test (ev_op (ev_var rfl) ev_c (rv_eq rfl))) (fun hbb H2 e2 => ?_) (fun hbb H2 e2 => ?_)
        · exact s_no (retL_ex (q.ret A ha rfl) (e1.trans e2))
        · exact absurd rfl (of_decide_eq_false hbb)
    | some r =>
      rw [hc] at L
      obtain ⟨hr16, hr0, hall⟩ := (show r < 16 ∧ s.know r ≠ 0 ∧ ∀ p, p < 16 → s.know p ≤ s.know r ∧ (s.know p = s.know r → p ≤ r) from L)
      have hg := know_good A.wf hr16 hr0
      have ha : act s (mkCall 14 xs) = (s, ⟨((r : Nat) : Int), [s.know r / 8, s.know r % 8 - 1]⟩) := by
        show (s, match s.last with | none => only (-6) | some p => (⟨((p : Nat) : Int), [s.know p / 8, s.know p % 8 - 1]⟩ : Km441.Ans)) = _
        rw [hc]
      refine q_asg (v := .int ((s.know r : Nat) : Int)) (ev_maxV (ev_fld (ev_var rfl) hi E.cls E.n_known F_known) hk (hmem r hr16) fun y hy => ?_) fun H1 e1 => ?_
      · obtain ⟨p, hp, rfl⟩ := hof y hy
        have := (hall p hp).1
        omega
      · refine q_when (et_test (ev_op (ev_var rfl) ev_c (rv_eq rfl))) (fun hbb H2 e2 => ?_) (fun hbb H2 e2 => ?_)
        · have : ((s.know r : Nat) : Int) = 0 := V.int.inj (of_decide_eq_true hbb)
          omega
        · have e02 := e1.trans e2
          refine q_asg (v := .int ((r : Nat) : Int)) (ev_maxL (ns := castL ((List.range 16).filter fun p => s.know p == s.know r)) (el_is (el_lcR1 (n := 16) (fun p => s.know p == s.know r) (fun p => V.int (p : Nat)) (ea_cons (ev_c (v := .int 16)) ea_nil) (by decide) (wipe_turn _ _) (fun i H3 e3 hi3 => ?_) (fun i H3 e3 _ _ => ev_var rfl)) ?_) ?_ fun y hy => ?_) fun H3 e3 => ?_
          · have e03 := e02.trans e3
            exact et_is (et_test (ev_op (ev_op (ev_fld (ev_var rfl) (e03 _ _ hi) E.cls E.n_known F_known) (ev_var rfl) (rv_ixL (sq_of (e03 _ _ A.kn)) (vN_at (by omega)))) (ev_var rfl) (rv_eq rfl))) eq_int
          · rw [vN_ints]
            rfl
          · refine mem_castL (List.mem_filter.mpr ⟨List.mem_range.mpr hr16, ?_⟩)
            exact beq_self_eq_true _
          · obtain ⟨p, hp, rfl⟩ := of_castL hy
            obtain ⟨hp1, hp2⟩ := List.mem_filter.mp hp
            have := (hall p (List.mem_range.mp hp1)).2 (eq_of_beq hp2)
            omega
          · refine s_retL (el_lst (ea_cons (ev_var rfl) (ea_cons (ev_cl (ea_cons (ev_var rfl) ea_nil) fun H5 e5 Q2 q2 _ => ⟨s.know r, rfl, q2⟩) (ea_cons (ev_cl (ea_cons (ev_var rfl) ea_nil) fun H5 e5 Q2 q2 _ => ⟨s.know r, rfl, q2⟩) ea_nil))) (by show 3 ≤ 100000; decide)) (retL_ex (q.ret A ha ?_) (e02.trans e3))
            show [V.int ((r : Nat) : Int), V.int ((s.know r / 8 : Nat) : Int), V.int ((s.know r % 8 - 1 : Nat) : Int)] = _
            rw [show ((s.know r % 8 - 1 : Nat) : Int) = ((s.know r % 8 : Nat) : Int) - 1 by omega]
theorem ok_mu_which (E : Env K mg C) (F : Fun K "mu_which" "mu_which" s_mu_which f fd) : FnOk P w K mg base' CX0 1 f fd ["station", "numbers"] (sp_mu C 15) := by
  refine F.ok sc_mu_which (fun vs H Q E h => ?_) (fun cdv A outer s H vs Q _ hr h => ?_)
  · obtain ⟨a, k, n, s, b, xs, rfl, _⟩ := h
    rfl
  · obtain ⟨a, k, n, s, b, xs, rfl, A, hb, bk, bn, hl, q⟩ := h
    refine ⟨_, (pss_cons (ps_if (pt_cmpR op_eq (pe_fld (pv 0) rfl) pe_int (nomark _)) (pss_one (ps_ret (pe_lst (pa_cons (pe_un un_neg pe_int) pa_nil)))) pss_nil)
      (pss_one (ps_ret (pe_lst (pa_cons (pe_fld (pv 0) rfl) pa_nil))))), ?_⟩
    obtain ⟨dx, hi⟩ := A.ins
    refine q_when (et_test (ev_op (ev_fld (ev_var rfl) hi E.cls E.n_drill F_drill) ev_c (rv_eq rfl))) (fun hbb H1 e1 => ?_) (fun hbb H1 e1 => ?_)
    · have h6 : s.drill = 0 := by
        have := V.int.inj (of_decide_eq_true hbb)
        omega
      exact s_no (retL_ex (q.ret A (congrArg (Prod.mk s) (if_pos h6)) rfl) e1)
    · have h6 : ¬ s.drill = 0 := fun z => of_decide_eq_false hbb (by rw [z]; rfl)
      exact s_retL (el_lst (ea_cons (ev_fld (ev_var rfl) (e1 _ _ hi) E.cls E.n_drill F_drill) ea_nil) (by show 1 ≤ 100000; decide)) (retL_ex (q.ret A (congrArg (Prod.mk s) (if_neg h6)) rfl) e1)
theorem ok_mu_state (E : Env K mg C) (F : Fun K "mu_state" "mu_state" s_mu_state f fd) : FnOk P w K mg base' CX0 1 f fd ["station", "numbers"] (sp_mu C 16) := by
  refine F.ok sc_mu_state (fun vs H Q E h => ?_) (fun cdv A outer s H vs Q _ hr h => ?_)
  · obtain ⟨a, k, n, s, b, xs, rfl, _⟩ := h
    rfl
  · obtain ⟨a, k, n, s, b, xs, rfl, A, hb, bk, bn, hl, q⟩ := h
    refine ⟨_, (pss_one (ps_ret (pe_lst (pa_cons (pe_fld (pv 0) rfl) (pa_cons (pe_fld (pv 0) rfl) (pa_cons (pe_fld (pv 0) rfl) (pa_cons (pe_fld (pv 0) rfl) pa_nil))))))), ?_⟩
    obtain ⟨dx, hi⟩ := A.ins
    exact s_retL (el_lst (ea_cons (ev_fld (ev_var rfl) hi E.cls E.n_minute F_minute) (ea_cons (ev_fld (ev_var rfl) hi E.cls E.n_me F_me) (ea_cons (ev_fld (ev_var rfl) hi E.cls E.n_drill F_drill) (ea_cons (ev_fld (ev_var rfl) hi E.cls E.n_heard F_heard) ea_nil)))) (by show 4 ≤ 100000; decide)) (q.ret A rfl rfl)
end
end Sm

namespace Sm
open PySem PySem.Spec PyProof.Rows L2 Evl
open Km441 (Station act only)
/-! ### a call of what a local name holds: one of several defs -/
def tCallX (i : Nat) (Of : Addr → Sp → Prop) (t : TA) : TE := fun σ H Q => ∃ f sp, σ[i]? = some (some (.ref f)) ∧ Of f sp ∧ t σ H fun vs H1 => sp vs H1 Q E0
theorem pe_callX {X : Cx} {k i : Nat} {x : Str} {p pos : Pos} {e : Expr} {es : List Expr} {t : TA} {Of : Addr → Sp → Prop} (hA : ∀ f sp, Of f sp → Held X.prog X.w X.K X.mg X.base k f sp) (hr : Room k X.A)
    (hN : X.N[i]? = some x) (hv : Vis X.env.scope x) (ha : PA X (e :: es) t) (h1 : (x == ("__debug__" : Str)) = false := by decide) (h2 : (x == ("__classdict__" : Str)) = false := by decide) (hs : Args X pos e es := by exact ⟨rfl, rfl⟩) : PE X (.Call (.Name x p) (e :: es) [] pos) (tCallX i Of t) := by
  refine ⟨fun pins s σ H Q I ⟨f, sp, hl, hO, ht⟩ => ?_⟩
  obtain ⟨fd, ps, F, hk, hb⟩ := (hA f sp hO).ex
  refine (pe_callL (i := i) (f := f) (sp := sp) (dvs := []) (E := E0) F hr hN hv hk hb .nil pass0 ha h1 h2 hs.one hs.non).run pins s σ H Q I ⟨hl, ?_⟩
  simpa only [List.append_nil] using ht
section
variable {K : PySem.W.Frag} {σ : L2.St} {H : Hp} {D : Ends} {ta tb : TE} {tz : TS} {x : V} {ys : List V} {Q : VK}
theorem cx_go {i : Nat} {Of : Addr → Sp → Prop} {f : Addr} {sp : Sp} (hs : σ[i]? = some (some (.ref f))) (hO : Of f sp) (ha : Ev ta σ H x) (hb : EvL tb σ H ys) (k : ∀ p H1, H p = none → Ex H H1 → H1 p = some (.lst ys) → sp [x, .ref p] H1 Q E0) :
    tCallX i Of (tCons ta (tCons tb tNil)) σ H Q :=
  ⟨f, sp, hs, hO, ha H (Ex.refl H) _ fun H1 e1 => hb H1 e1 _ fun p H2 hp e2 h2 => k p H2 (fresh_back e1 hp) (e1.trans e2) h2⟩
theorem q_asgcx {i j : Nat} {Of : Addr → Sp → Prop} {f : Addr} {sp : Sp} (hs : σ[i]? = some (some (.ref f))) (hO : Of f sp) (ha : Ev ta σ H x) (hb : EvL tb σ H ys) (k : ∀ p H1, H p = none → Ex H H1 → H1 p = some (.lst ys) → sp [x, .ref p] H1 (fun v H2 => tz D (σ.set j (some v)) H2) E0) :
    tSeq (tAsg (tCallX i Of (tCons ta (tCons tb tNil))) (gName j)) tz D σ H := cx_go hs hO ha hb k
theorem q_ext {l b : Addr} {xs zs : List V} (hl : H l = some (.lst xs)) (hb : H b = some (.lst zs)) (ha : Ev ta σ H (.ref l)) (h : Ev tb σ H (.ref b)) (hz : xs.length + zs.length ≤ 100000) (k : ∀ H1, Ex H H1 → tz D σ (upd H1 l (.lst (xs ++ zs)))) :
    tSeq (tDrop (tBM K "list" rExtend ta (tCons tb tNil))) tz D σ H := ha H (Ex.refl H) _ fun H1 e1 =>
  ⟨.inl ⟨rfl, xs, sq_of (e1 _ _ hl)⟩, h H1 e1 _ fun H2 e2 => ⟨l, b, xs, zs, rfl, rfl, e2 _ _ (e1 _ _ hl), e2 _ _ (e1 _ _ hb), sz_of hz, k H2 (e1.trans e2)⟩⟩
/-- a new station -/
theorem mk_go {C : Addr} (k : ∀ (a kn nw : Addr) (H' : Hp), H a = none → H kn = none → H nw = none → At C H' a kn nw (Km441.station0 0) → Ex H H' → Q (.ref a) H') : tMk C (sp_init C) tNil σ H Q := fun a dx ha hd ne =>
  ⟨a, dx, rfl, upd_same, fun H' kn nw hk hn A bt => ⟨rfl, by
    have e : Ex H (upd (upd H dx (.own a)) a (.ins C dx [])) := fun c o h => by
      rw [upd_ne (ne_of_none h ha), upd_ne (ne_of_none h hd)]
      exact h
    exact k a kn nw H' ha (fresh_back e hk) (fresh_back e hn) A fun c o h => bt c o (e c o h) (ne_of_none h ha)⟩⟩
end
/-! ### where a call ends -/
def WL : List Nat := [1, 1, 0, 1, 0, 0, 1, 0, 0, 1, 2, 1, 1, 0, 0, 0, 0]
def RL : List Nat := [0, 0, 0, 0, 0, 1, 0, 0, 0, 0, 0, 0, 0, 1, 0, 0, 0]
def sp_end_of_call (K : PySem.W.Frag) : Sp := fun vs H Q _ => ∃ (b : Addr) (l : List Int) (place p : Nat), vs = [.ref b, .int (place : Nat)] ∧ SqL K H b (vI l) ∧ p ≤ 16 ∧ l[place]? = some (p : Int) ∧ (rn p = 1 → l[place + 2]? = some 22) ∧ RetV (.int ((place + 2 + xn p : Nat) : Int)) H Q
theorem vI_at {l : List Int} {i : Nat} {z : Int} (h : l[i]? = some z) : atI (vI l) (i : Int) = some (.int z) := atI_nat (by
  unfold vI
  rw [List.getElem?_map, h]
  rfl)
theorem row_wn : ∀ p, p ≤ 16 → (RL.getD p 0 = 1 ∧ wn p = 0 ∧ xn p = 23 ∧ rn p = 1) ∨ (RL.getD p 0 = 0 ∧ xn p = wn p ∧ rn p = 0) := by
  decide
section
variable {P : Program} {w : World} {K : PySem.W.Frag} {mg : Str → Option Value} {base' : Heap} {C f : Addr} {fd : FuncData}
theorem ok_end_of_call {aW aR : Addr} (g_WHOLE_NUMBERS : mg "WHOLE_NUMBERS" = some (.ref aW)) (g_ROWS : mg "ROWS" = some (.ref aR)) (hW : ∀ H, SqT K H aW (vN WL)) (hR : ∀ H, SqT K H aR (vN RL))
    (F : Fun K "end_of_call" "end_of_call" s_end_of_call f fd) : FnOk P w K mg base' CX0 1 f fd ["calls", "place"] (sp_end_of_call K) := by
  refine F.ok sc_end_of_call (fun vs H Q E h => ?_) (fun cdv A outer s H vs Q _ hr h => ?_)
  · obtain ⟨b, l, place, p, rfl, _⟩ := h
    rfl
  · obtain ⟨b, l, place, p, rfl, hb, hp, h0, h2, q⟩ := h
    refine ⟨_, (pss_cons (ps_set (i := 2) sc_end_of_call.nd rfl (by first | exact Or.inl rfl | exact Or.inr rfl) (pe_ix ix_list (pv 0) (pv 1) (fun _ _ => rfl)))
      (pss_cons (ps_set (i := 3) sc_end_of_call.nd rfl (by first | exact Or.inl rfl | exact Or.inr rfl) (pe_op op_add (pe_op op_add (pv 1) pe_int) (pe_ix ix_tup (pgr g_WHOLE_NUMBERS (by rfl)) (pv 2) (fun _ _ => rfl))))
      (pss_cons (ps_if (pt_cmpR op_eq (pe_ix ix_tup (pgr g_ROWS (by rfl)) (pv 2) (fun _ _ => rfl)) pe_int (nomark _)) (pss_one (ps_aug (i := 3) sc_end_of_call.nd rfl (by first | exact Or.inl rfl | exact Or.inr rfl) (pe_op op_add pe_int (pe_ix ix_list (pv 0) (pv 3) (fun _ _ => rfl))) ip_add)) pss_nil)
      (pss_one (ps_ret (pv 3)))))), ?_⟩
    have hWl : p < WL.length := by show p < 17; omega
    have hRl : p < RL.length := by show p < 17; omega
    refine q_asg (ev_op (ev_var rfl) (ev_var rfl) (rv_ixL hb (vI_at h0))) fun H1 e1 => ?_
    refine q_asg (v := .int ((place + 2 + wn p : Nat) : Int)) (ev_is (ev_op (ev_op (ev_var rfl) ev_c rv_I0) (ev_op ev_c (ev_var rfl) (rv_ixT (hW _) (vN_at hWl))) rv_I0) ?_) fun H2 e2 => ?_
    · show V.int _ = V.int _
      congr 1
    rcases row_wn p hp with ⟨r1, r2, r3, r4⟩ | ⟨r1, r2, r3⟩
    · refine q_when (et_test (ev_op (ev_op ev_c (ev_var rfl) (rv_ixT (hR _) (vN_at hRl))) ev_c (rv_eq rfl))) (fun hbb H3 e3 => ?_) (fun hbb H3 e3 => ?_)
      · have e03 := (e1.trans e2).trans e3
        rw [r2, Nat.add_zero]
        refine s_aug (b := 23) rfl (ev_is (ev_op ev_c (ev_op (ev_var rfl) (ev_var rfl) (rv_ixL (ex_l e03 hb) (vI_at (h2 r4)))) rv_I0) rfl) fun H4 e4 => ?_
        refine s_ret (ev_is (ev_var rfl) ?_) fun H5 e5 => q.go ((e03.trans e4).trans e5)
        rw [r3]
        congr 1
      · exact absurd (show V.int ((RL.getD p 0 : Nat) : Int) = V.int 1 by rw [r1]; rfl) (of_decide_eq_false hbb)
    · refine q_when (et_test (ev_op (ev_op ev_c (ev_var rfl) (rv_ixT (hR _) (vN_at hRl))) ev_c (rv_eq rfl))) (fun hbb H3 e3 => ?_) (fun hbb H3 e3 => ?_)
      · have := V.int.inj (of_decide_eq_true hbb)
        rw [r1] at this
        cases this
      · rw [r2] at q
        exact s_ret (ev_var rfl) fun H4 e4 => q.go (((e1.trans e2).trans e3).trans e4)
end
end Sm

namespace Sm
open PySem PySem.Spec PyProof.Rows L2 Evl
open Km441 (Station act only)
/-- the three stations in the heap; l: their list, g: what is given; H0: the heap ahead of all this -/
structure Three (C : Addr) (H0 H : Hp) (l g : Addr) (ad kn nw : Nat → Addr) (ms : Nat → Station) : Prop where
  st : H l = some (.lst [.ref (ad 0), .ref (ad 1), .ref (ad 2)])
  at_ : ∀ i, i < 3 → At C H (ad i) (kn i) (nw i) (ms i)
  da : ∀ i j, i < 3 → j < 3 → i ≠ j → ad i ≠ ad j
  dk : ∀ i j, i < 3 → j < 3 → i ≠ j → kn i ≠ kn j
  dn : ∀ i j, i < 3 → j < 3 → i ≠ j → nw i ≠ nw j
  dkn : ∀ i j, i < 3 → j < 3 → i ≠ j → kn i ≠ nw j
  lk : ∀ i, i < 3 → l ≠ kn i ∧ l ≠ nw i ∧ g ≠ kn i ∧ g ≠ nw i
  lg : l ≠ g
  ex : Ex H0 H
  fa : ∀ i, i < 3 → H0 (ad i) = none ∧ H0 (kn i) = none ∧ H0 (nw i) = none
  fg : H0 g = none
theorem Three.mono {C : Addr} {H0 H H' : Hp} {l g : Addr} {ad kn nw : Nat → Addr} {ms : Nat → Station} (T : Three C H0 H l g ad kn nw ms) (e : Ex H H') : Three C H0 H' l g ad kn nw ms :=
  ⟨e _ _ T.st, fun i hi => (T.at_ i hi).ex e, T.da, T.dk, T.dn, T.dkn, T.lk, T.lg, T.ex.trans e, T.fa, T.fg⟩
theorem Three.put {C : Addr} {H0 H : Hp} {l g : Addr} {ad kn nw : Nat → Addr} {ms : Nat → Station} (T : Three C H0 H l g ad kn nw ms) {xs ys : List V} (hg : H g = some (.lst xs)) : Three C H0 (upd H g (.lst ys)) l g ad kn nw ms := by
  have ga : ∀ i, i < 3 → ad i ≠ g := fun i hi => by
    obtain ⟨dx, h⟩ := (T.at_ i hi).ins
    exact ne_of h hg (by intro z; cases z)
  refine ⟨by rw [upd_ne T.lg]; exact T.st, fun i hi => ?_, T.da, T.dk, T.dn, T.dkn, T.lk, T.lg, T.ex.mut T.fg, T.fa, T.fg⟩
  obtain ⟨wf, ⟨dx, h1⟩, h2, ⟨ns, ho, h3⟩, ne⟩ := T.at_ i hi
  obtain ⟨_, _, z3, z4⟩ := T.lk i hi
  exact ⟨wf, ⟨dx, by rw [upd_ne (ga i hi)]; exact h1⟩, by rw [upd_ne (Ne.symm z3)]; exact h2, ⟨ns, ho, by rw [upd_ne (Ne.symm z4)]; exact h3⟩, ne⟩
/-- f with v at i -/
def fput {α : Type} (f : Nat → α) (i : Nat) (v : α) : Nat → α := fun j => if j = i then v else f j
theorem fput_same {α : Type} {f : Nat → α} {i : Nat} {v : α} : fput f i v i = v := if_pos rfl
theorem fput_ne {α : Type} {f : Nat → α} {i j : Nat} {v : α} (h : j ≠ i) : fput f i v j = f j := if_neg h
/-- one of them has been called -/
theorem Three.step {C : Addr} {H0 H H' : Hp} {l g : Addr} {ad kn nw : Nat → Addr} {ms : Nat → Station} {i : Nat} {k' n' : Addr} {s' : Station} {xs : List V} (T : Three C H0 H l g ad kn nw ms) (hg : H g = some (.lst xs)) (hi : i < 3) (A : At C H' (ad i) k' n' s')
    (hk : k' = kn i ∨ H k' = none) (hn : n' = nw i ∨ H n' = none) (fr : Fr H H' (ad i) (kn i) (nw i)) : Three C H0 H' l g ad (fput kn i k') (fput nw i n') (fput ms i s') := by
  have hat : ∀ j, j < 3 → j ≠ i → ∃ o, H (ad j) = some o := fun j hj _ => by
    obtain ⟨dx, h⟩ := (T.at_ j hj).ins
    exact ⟨_, h⟩
  have la : l ≠ ad i := by
    obtain ⟨dx, h⟩ := (T.at_ i hi).ins
    exact ne_of T.st h (by intro z; cases z)
  have kk : ∀ c o, H c = some o → c ≠ kn i → c ≠ k' := fun c o h z => by
    rcases hk with e | e
    · rw [e]; exact z
    · exact ne_of_none h e
  have nn : ∀ c o, H c = some o → c ≠ nw i → c ≠ n' := fun c o h z => by
    rcases hn with e | e
    · rw [e]; exact z
    · exact ne_of_none h e
  obtain ⟨z1, z2, z3, z4⟩ := T.lk i hi
  have hkj : ∀ j, j < 3 → H (kn j) = some (.lst (vN (ms j).seen)) := fun j hj => (T.at_ j hj).kn
  have hnj : ∀ j, j < 3 → ∃ o, H (nw j) = some o := fun j hj => by
    obtain ⟨ns, _, h⟩ := (T.at_ j hj).nw
    exact ⟨_, h⟩
  have key : ∀ j, j < 3 → j ≠ i → kn j ≠ k' ∧ kn j ≠ n' ∧ nw j ≠ n' ∧ nw j ≠ k' := fun j hj hji => by
    obtain ⟨o, h⟩ := hnj j hj
    exact ⟨kk _ _ (hkj j hj) (T.dk j i hj hi hji), nn _ _ (hkj j hj) (T.dkn j i hj hi hji), nn _ _ h (T.dn j i hj hi hji), kk _ _ h (Ne.symm (T.dkn i j hi hj (Ne.symm hji)))⟩
  refine ⟨fr _ _ T.st la z1 z2, fun j hj => ?_, T.da, fun a b ha hb hab => ?_, fun a b ha hb hab => ?_, fun a b ha hb hab => ?_, fun j hj => ?_, T.lg, fun c o h => ?_, fun j hj => ?_, T.fg⟩
  · by_cases e : j = i
    · subst e
      rw [fput_same, fput_same, fput_same]
      exact A
    · rw [fput_ne e, fput_ne e, fput_ne e]
      obtain ⟨wf, ⟨dx, h1⟩, h2, ⟨ns, ho, h3⟩, ne⟩ := T.at_ j hj
      have kad : kn j ≠ ad i := by
        obtain ⟨dx', h⟩ := (T.at_ i hi).ins
        exact ne_of h2 h (by intro z; cases z)
      have nad : nw j ≠ ad i := by
        obtain ⟨dx', h⟩ := (T.at_ i hi).ins
        exact ne_of h3 h (by intro z; cases z)
      have akn : ad j ≠ kn i := ne_of h1 (hkj i hi) (by intro z; cases z)
      have anw : ad j ≠ nw i := by
        obtain ⟨ns', _, h⟩ := (T.at_ i hi).nw
        exact ne_of h1 h (by intro z; cases z)
      exact ⟨wf, ⟨dx, fr _ _ h1 (T.da j i hj hi e) akn anw⟩, fr _ _ h2 kad (T.dk j i hj hi e) (T.dkn j i hj hi e), ⟨ns, ho, fr _ _ h3 nad (Ne.symm (T.dkn i j hi hj (Ne.symm e))) (T.dn j i hj hi e)⟩, ne⟩
  · by_cases e : a = i
    · subst e
      rw [fput_same, fput_ne (Ne.symm hab)]
      exact Ne.symm (key b hb (Ne.symm hab)).1
    · rw [fput_ne e]
      by_cases e2 : b = i
      · subst e2
        rw [fput_same]
        exact (key a ha e).1
      · rw [fput_ne e2]
        exact T.dk a b ha hb hab
  · by_cases e : a = i
    · subst e
      rw [fput_same, fput_ne (Ne.symm hab)]
      exact Ne.symm (key b hb (Ne.symm hab)).2.2.1
    · rw [fput_ne e]
      by_cases e2 : b = i
      · subst e2
        rw [fput_same]
        exact (key a ha e).2.2.1
      · rw [fput_ne e2]
        exact T.dn a b ha hb hab
  · by_cases e : a = i
    · subst e
      rw [fput_same, fput_ne (Ne.symm hab)]
      exact Ne.symm (key b hb (Ne.symm hab)).2.2.2
    · rw [fput_ne e]
      by_cases e2 : b = i
      · subst e2
        rw [fput_same]
        exact (key a ha e).2.1
      · rw [fput_ne e2]
        exact T.dkn a b ha hb hab
  · by_cases e : j = i
    · subst e
      rw [fput_same, fput_same]
      exact ⟨kk _ _ T.st z1, nn _ _ T.st z2, kk _ _ hg z3, nn _ _ hg z4⟩
    · rw [fput_ne e, fput_ne e]
      exact T.lk j hj
  · obtain ⟨f1, f2, f3⟩ := T.fa i hi
    exact fr _ _ (T.ex _ _ h) (ne_of_none h f1) (ne_of_none h f2) (ne_of_none h f3)
  · by_cases e : j = i
    · subst e
      rw [fput_same, fput_same]
      obtain ⟨f1, f2, f3⟩ := T.fa j hj
      refine ⟨f1, ?_, ?_⟩
      · rcases hk with e | e
        · rw [e]; exact f2
        · exact fresh_back T.ex e
      · rcases hn with e | e
        · rw [e]; exact f3
        · exact fresh_back T.ex e
    · rw [fput_ne e, fput_ne e]
      exact T.fa j hj
theorem q_three {C : Addr} {σ : L2.St} {H : Hp} {D : Ends} {tz : TS} {i : Nat}
    (k : ∀ (a0 k0 n0 a1 k1 n1 a2 k2 n2 l : Addr) (H1 H2 H3 : Hp), H a0 = none → H k0 = none → H n0 = none → At C H1 a0 k0 n0 (Km441.station0 0) → Ex H H1 → H1 a1 = none → H1 k1 = none → H1 n1 = none → At C H2 a1 k1 n1 (Km441.station0 0) → Ex H1 H2 →
      H2 a2 = none → H2 k2 = none → H2 n2 = none → At C H3 a2 k2 n2 (Km441.station0 0) → Ex H2 H3 → H3 l = none → tz D (σ.set i (some (.ref l))) (upd H3 l (.lst [.ref a0, .ref a1, .ref a2]))) :
    tSeq (tAsg (tLst (tCons (tMk C (sp_init C) tNil) (tCons (tMk C (sp_init C) tNil) (tCons (tMk C (sp_init C) tNil) tNil)))) (gName i)) tz D σ H := by
  show tMk C (sp_init C) tNil σ H fun x H1 => tMk C (sp_init C) tNil σ H1 fun y H2 => tMk C (sp_init C) tNil σ H2 fun z H3 => [x, y, z].length ≤ sizeLine ∧ ∀ p, H3 p = none → tz D (σ.set i (some (.ref p))) (upd H3 p (.lst [x, y, z]))
  exact mk_go fun a0 k0 n0 H1 f1 f2 f3 A0 e1 => mk_go fun a1 k1 n1 H2 f4 f5 f6 A1 e2 => mk_go fun a2 k2 n2 H3 f7 f8 f9 A2 e3 => ⟨by show 3 ≤ sizeLine; decide, fun l hl => k a0 k0 n0 a1 k1 n1 a2 k2 n2 l H1 H2 H3 f1 f2 f3 A0 e1 f4 f5 f6 A1 e2 f7 f8 f9 A2 e3 hl⟩
/-- three values by number -/
def pick {α : Type} (x y z : α) : Nat → α
  | 0 => x
  | 1 => y
  | _ => z
theorem three_new {C : Addr} {H H1 H2 H3 H5 : Hp} {a0 k0 n0 a1 k1 n1 a2 k2 n2 l g : Addr} (f1 : H a0 = none) (f2 : H k0 = none) (f3 : H n0 = none) (A0 : At C H1 a0 k0 n0 (Km441.station0 0)) (e1 : Ex H H1) (f4 : H1 a1 = none) (f5 : H1 k1 = none) (f6 : H1 n1 = none) (A1 : At C H2 a1 k1 n1 (Km441.station0 0)) (e2 : Ex H1 H2)
    (f7 : H2 a2 = none) (f8 : H2 k2 = none) (f9 : H2 n2 = none) (A2 : At C H3 a2 k2 n2 (Km441.station0 0)) (e3 : Ex H2 H3) (hl : H3 l = none) (e5 : Ex (upd H3 l (.lst [.ref a0, .ref a1, .ref a2])) H5) (hg : (upd H3 l (.lst [.ref a0, .ref a1, .ref a2])) g = none) :
    Three C H H5 l g (pick a0 a1 a2) (pick k0 k1 k2) (pick n0 n1 n2) (fun _ => Km441.station0 0) := by
  have eL : Ex H3 (upd H3 l (.lst [.ref a0, .ref a1, .ref a2])) := Ex.new hl
  have e35 := eL.trans e5
  have e25 := e3.trans e35
  have e15 := e2.trans e25
  have tr : ∀ {G : Hp} {a k n : Addr}, At C G a k n (Km441.station0 0) → (∃ o, G a = some o) ∧ (∃ o, G k = some o) ∧ (∃ o, G n = some o) := fun A => by
    obtain ⟨dx, h⟩ := A.ins
    obtain ⟨ns, _, h3⟩ := A.nw
    exact ⟨⟨_, h⟩, ⟨_, A.kn⟩, ⟨_, h3⟩⟩
  obtain ⟨⟨o1, p1⟩, ⟨o2, p2⟩, ⟨o3, p3⟩⟩ := tr A0
  obtain ⟨⟨o4, p4⟩, ⟨o5, p5⟩, ⟨o6, p6⟩⟩ := tr A1
  obtain ⟨⟨o7, p7⟩, ⟨o8, p8⟩, ⟨o9, p9⟩⟩ := tr A2
  have q1 := e2 _ _ p1
  have q2 := e2 _ _ p2
  have q3 := e2 _ _ p3
  have hgl : ∀ c o, H3 c = some o → g ≠ c := fun c o h z => by
    rw [z, eL _ _ h] at hg
    cases hg
  refine ⟨e5 _ _ upd_same, fun i hi => ?_, fun i j hi hj hij => ?_, fun i j hi hj hij => ?_, fun i j hi hj hij => ?_, fun i j hi hj hij => ?_, fun i hi => ?_, ?_, e1.trans e15, fun i hi => ?_, ?_⟩
  · match i, hi with
    | 0, _ => exact A0.ex e15
    | 1, _ => exact A1.ex e25
    | 2, _ => exact A2.ex e35
  · match i, hi, j, hj, hij with
    | 0, _, 1, _, _ => exact ne_of_none p1 f4
    | 0, _, 2, _, _ => exact ne_of_none q1 f7
    | 1, _, 0, _, _ => exact Ne.symm (ne_of_none p1 f4)
    | 1, _, 2, _, _ => exact ne_of_none p4 f7
    | 2, _, 0, _, _ => exact Ne.symm (ne_of_none q1 f7)
    | 2, _, 1, _, _ => exact Ne.symm (ne_of_none p4 f7)
    | 0, _, 0, _, z => exact absurd rfl z
    | 1, _, 1, _, z => exact absurd rfl z
    | 2, _, 2, _, z => exact absurd rfl z
  · match i, hi, j, hj, hij with
    | 0, _, 1, _, _ => exact ne_of_none p2 f5
    | 0, _, 2, _, _ => exact ne_of_none q2 f8
    | 1, _, 0, _, _ => exact Ne.symm (ne_of_none p2 f5)
    | 1, _, 2, _, _ => exact ne_of_none p5 f8
    | 2, _, 0, _, _ => exact Ne.symm (ne_of_none q2 f8)
    | 2, _, 1, _, _ => exact Ne.symm (ne_of_none p5 f8)
    | 0, _, 0, _, z => exact absurd rfl z
    | 1, _, 1, _, z => exact absurd rfl z
    | 2, _, 2, _, z => exact absurd rfl z
  · match i, hi, j, hj, hij with
    | 0, _, 1, _, _ => exact ne_of_none p3 f6
    | 0, _, 2, _, _ => exact ne_of_none q3 f9
    | 1, _, 0, _, _ => exact Ne.symm (ne_of_none p3 f6)
    | 1, _, 2, _, _ => exact ne_of_none p6 f9
    | 2, _, 0, _, _ => exact Ne.symm (ne_of_none q3 f9)
    | 2, _, 1, _, _ => exact Ne.symm (ne_of_none p6 f9)
    | 0, _, 0, _, z => exact absurd rfl z
    | 1, _, 1, _, z => exact absurd rfl z
    | 2, _, 2, _, z => exact absurd rfl z
  · match i, hi, j, hj, hij with
    | 0, _, 1, _, _ => exact ne_of_none p2 f6
    | 0, _, 2, _, _ => exact ne_of_none q2 f9
    | 1, _, 0, _, _ => exact Ne.symm (ne_of_none p3 f5)
    | 1, _, 2, _, _ => exact ne_of_none p5 f9
    | 2, _, 0, _, _ => exact Ne.symm (ne_of_none q3 f8)
    | 2, _, 1, _, _ => exact Ne.symm (ne_of_none p6 f8)
    | 0, _, 0, _, z => exact absurd rfl z
    | 1, _, 1, _, z => exact absurd rfl z
    | 2, _, 2, _, z => exact absurd rfl z
  · match i, hi with
    | 0, _ => exact ⟨Ne.symm (ne_of_none (e3 _ _ q2) hl), Ne.symm (ne_of_none (e3 _ _ q3) hl), hgl _ _ (e3 _ _ q2), hgl _ _ (e3 _ _ q3)⟩
    | 1, _ => exact ⟨Ne.symm (ne_of_none (e3 _ _ p5) hl), Ne.symm (ne_of_none (e3 _ _ p6) hl), hgl _ _ (e3 _ _ p5), hgl _ _ (e3 _ _ p6)⟩
    | 2, _ => exact ⟨Ne.symm (ne_of_none p8 hl), Ne.symm (ne_of_none p9 hl), hgl _ _ p8, hgl _ _ p9⟩
  · exact ne_of_none upd_same hg
  · match i, hi with
    | 0, _ => exact ⟨f1, f2, f3⟩
    | 1, _ => exact ⟨fresh_back e1 f4, fresh_back e1 f5, fresh_back e1 f6⟩
    | 2, _ => exact ⟨fresh_back (e1.trans e2) f7, fresh_back (e1.trans e2) f8, fresh_back (e1.trans e2) f9⟩
  · exact fresh_back (((e1.trans e2).trans e3).trans eL) hg
/-- answers: a list of whole numbers that may be asked; the specification's list comes out -/
def sp_answers (K : PySem.W.Frag) : Sp := fun vs H Q _ => ∃ (b : Addr) (ns : List Int), vs = [.ref b] ∧ SqL K H b (vI ns) ∧ ns.length ≤ 25000 ∧ PyKm441.answers_asked ns = true ∧
  ∀ (H' : Hp) (p : Addr), H' p = some (.lst (vI (PyKm441.answers ns))) → Q (.ref p) H'
section
variable {P : Program} {w : World} {K : PySem.W.Frag} {mg : Str → Option Value} {base' : Heap} {C f : Addr} {fd : FuncData}
theorem ok_answers (E : Env K mg C) (c_Station : Mak P w K mg base' 3 "Station" C (sp_init C)) (c_end_of_call : Cal P w K mg base' 1 "end_of_call" (sp_end_of_call K))
    {fs : List Addr} {aC : Addr} (g_CALLS : mg "CALLS" = some (.ref aC)) (hC : ∀ H, SqT K H aC (fs.map V.ref)) (hl : fs.length = 17)
    (hf : ∀ p f, fs[p]? = some f → Held P w K mg base' 4 f (sp_mu C p)) (F : Fun K "answers" "answers" s_answers f fd) : FnOk P w K mg base' CX0 5 f fd ["calls"] (sp_answers K) := by
  have h_call : ∀ (f : Addr) (sp : Sp), (∃ p, fs[p]? = some f ∧ sp = sp_mu C p) → Held P w K mg base' 4 f sp := fun f sp ⟨p, h, e⟩ => e ▸ hf p f h
  refine F.ok sc_answers (fun vs H Q E h => ?_) (fun cdv A outer s H vs Q _ hr h => ?_)
  · obtain ⟨b, ns, rfl, _⟩ := h
    rfl
  · obtain ⟨b, ns, rfl, hb, hn, hask, q⟩ := h
    refine ⟨_, (pss_cons (ps_set (i := 1) sc_answers.nd rfl (by first | exact Or.inl rfl | exact Or.inr rfl) (pe_lst (pa_cons (pmk0 c_Station hr (by decide) (by rfl)) (pa_cons (pmk0 c_Station hr (by decide) (by rfl)) (pa_cons (pmk0 c_Station hr (by decide) (by rfl)) pa_nil)))))
      (pss_cons (ps_set (i := 2) sc_answers.nd rfl (by first | exact Or.inl rfl | exact Or.inr rfl) (pe_lst pa_nil))
      (pss_cons (ps_set (i := 3) sc_answers.nd rfl (by first | exact Or.inl rfl | exact Or.inr rfl) pe_int)
      (pss_cons (ps_while PassesOwn.never (pt_cmpR op_lt (pv 3) (pe_callB call_len_seq (by rfl) E.b_len PySem.boot_len (pa_cons (pv 0) pa_nil)) (nomark _))
      (pss_cons (ps_set (i := 4) sc_answers.nd rfl (by first | exact Or.inl rfl | exact Or.inr rfl) (pcl c_end_of_call hr (by decide) (by rfl) (pa_cons (pv 0) (pa_cons (pv 3) pa_nil))))
      (pss_cons (ps_set (i := 5) sc_answers.nd rfl (by first | exact Or.inl rfl | exact Or.inr rfl) (pe_ix ix_tup (pgr g_CALLS (by rfl)) (pe_ix ix_list (pv 0) (pv 3) (fun _ _ => rfl)) (fun _ _ => rfl)))
      (pss_cons (ps_set (i := 6) sc_answers.nd rfl (by first | exact Or.inl rfl | exact Or.inr rfl) (pe_callX (i := 5) h_call hr (by rfl) (by first | exact Or.inl rfl | exact Or.inr rfl) (pa_cons (pe_ix ix_list (pv 1) (pe_ix ix_list (pv 0) (pe_op op_add (pv 3) pe_int) (fun _ _ => rfl)) (fun _ _ => rfl)) (pa_cons (pe_slice sl_list (pv 0) (po_some (pe_op op_add (pv 3) pe_int)) (po_some (pv 4))) pa_nil))))
      (pss_cons (ps_expr (pe_bm PySem.F.plainAttrs_list PySem.F.slot_list_append PySem.F.type_list_append mt_append (pv 2) (pa_cons (pe_callB call_len_seq (by rfl) E.b_len PySem.boot_len (pa_cons (pv 6) pa_nil)) pa_nil)))
      (pss_cons (ps_expr (pe_bm PySem.F.plainAttrs_list PySem.F.slot_list_extend PySem.F.type_list_extend mt_extend (pv 2) (pa_cons (pv 6) pa_nil)))
      (pss_one (ps_set (i := 3) sc_answers.nd rfl (by first | exact Or.inl rfl | exact Or.inr rfl) (pv 4)))))))))
      (pss_one (ps_ret (pv 2))))))), ?_⟩
    -- the three stations
    refine q_three fun a0 k0 n0 a1 k1 n1 a2 k2 n2 l H1 H2 H3 f1 f2 f3 A0 e1 f4 f5 f6 A1 e2 f7 f8 f9 A2 e3 hl3 => ?_
    refine q_asgL (el_lst ea_nil (by decide)) fun g H4 hg e4 h4 => ?_
    refine q_asg (ev_c (v := .int (0 : Nat))) fun H5 e5 => ?_
    have T5 := three_new f1 f2 f3 A0 e1 f4 f5 f6 A1 e2 f7 f8 f9 A2 e3 hl3 (e4.trans e5) hg
    have g5 := e5 _ _ h4
    refine q_while (fun m σ' H' => ∃ (place : Nat) (S : Km441Neutral.S) (given : List Int) (ad kn nw : Nat → Addr) (ms : Nat → Station) (v4 v5 v6 : Option V), σ' = [some (.ref b), some (.ref l), some (.ref g), some (.int (place : Nat)), v4, v5, v6] ∧ Lp ns place S given ∧
      (∀ i s, i < 3 → S.getD i none = some s → s = ms i) ∧ Three C H H' l g ad kn nw ms ∧ H' g = some (.lst (vI given)) ∧ m = ns.length - place) ns.length
      ⟨0, Km441Neutral.start, [], _, _, _, _, none, none, none, rfl, inv_start hask, fun i s hi h => ?_, T5, g5, rfl⟩ ?_
    · match i, hi, h with
      | 0, _, h => cases h
      | 1, _, h => cases h
      | 2, _, h => cases h
    · rintro m σ' H' ⟨place, S, given, ad, kn, nw, ms, v4, v5, v6, rfl, I, hS, T, hgiven, rfl⟩
      have hb' := ex_l T.ex hb
      refine ⟨_, et_test (ev_op (ev_var rfl) (ev_len (ev_var rfl) hb') rv_I0), fun hbb H6 e6 => ?_, fun hbb H6 e6 => ?_⟩
      · have hlt : place < ns.length := by
          have := of_decide_eq_true hbb
          rw [vI_length] at this
          omega
        obtain ⟨p, k, xs, N⟩ := inv_next I hlt
        have T6 := T.mono e6
        have g6 := e6 _ _ hgiven
        obtain ⟨fp, hfp⟩ : ∃ fp, fs[p]? = some fp := ⟨_, List.getElem?_eq_getElem (by have := N.hp; omega)⟩
        refine ⟨_, fun σ2 H2 h => h, ?_⟩
        refine q_asg (v := .int ((place + 2 + xn p : Nat) : Int)) (ev_cl (ea_cons (ev_var rfl) (ea_cons (ev_var rfl) ea_nil)) fun H7 e7 Q2 q2 _ => ⟨b, ns, place, p, rfl, ex_l (T6.ex.trans e7) hb, N.hp, N.at0, N.row22, q2⟩) fun H7 e7 => ?_
        have T7 := T6.mono e7
        refine q_asg (ev_op ev_c (ev_op (ev_var rfl) (ev_var rfl) (rv_ixL (ex_l T7.ex hb) (vI_at N.at0))) (rv_ixT (hC _) (atI_nat (v := V.ref fp) (by rw [List.getElem?_map, hfp]; rfl)))) fun H8 e8 => ?_
        have T8 := T7.mono e8
        have g8 := e8 _ _ (e7 _ _ g6)
        have hst : atI [V.ref (ad 0), V.ref (ad 1), V.ref (ad 2)] ((k : Nat) : Int) = some (.ref (ad k)) := atI_nat (by
          have := N.hk
          match k, this with
          | 0, _ => rfl
          | 1, _ => rfl
          | 2, _ => rfl)
        have hcut : cutV (vI ns) (some ((place + 2 : Nat) : Int)) (some ((place + 2 + xn p : Nat) : Int)) = vN xs := by
          have hfit := N.fit
          rw [cutV_nat (place + 2) (place + 2 + xn p) (by rw [vI_length]; omega) (by rw [vI_length]; omega), Nat.add_sub_cancel_left, ← vI_ints, ← N.atx]
          unfold vI
          rw [List.map_take, List.map_drop]
        refine q_asgcx (f := fp) (sp := sp_mu C p) rfl ⟨p, hfp, rfl⟩ (ev_op (ev_var rfl) (ev_op (ev_var rfl) (ev_is (w := .int ((place + 1 : Nat) : Int)) (ev_op (ev_var rfl) ev_c rv_I0) rfl) (rv_ixL (ex_l T8.ex hb) (vI_at N.at1))) (rv_ixL (sq_of T8.st) hst))
          (el_is (el_sl (ev_var rfl) (eo_some (ev_is (w := .int ((place + 2 : Nat) : Int)) (ev_op (ev_var rfl) ev_c rv_I0) rfl)) (eo_some (ev_var rfl)) (ex_l T8.ex hb)) hcut) fun r H9 hr e9 h9 => ?_
        have T9 := T8.mono e9
        have g9 := e9 _ _ g8
        have A9 := T9.at_ k N.hk
        obtain ⟨S', I', hself, hoth⟩ := N.go (ms k) (fun s h => hS k s N.hk h) (act_len A9.wf _)
        have A8 := T8.at_ k N.hk
        obtain ⟨ns8, _, hn8⟩ := A8.nw
        refine ⟨ad k, kn k, nw k, ms k, r, xs, rfl, A9, h9, Ne.symm (ne_of_none A8.kn hr), Ne.symm (ne_of_none hn8 hr), N.len, fun H' k' n' r' A' hk' hn' fr hr' hr'' => ?_⟩
        have T10 := T9.step g9 N.hk A' hk' hn' fr
        obtain ⟨z1, z2, z3, z4⟩ := T9.lk k N.hk
        have ga : g ≠ ad k := by
          obtain ⟨dx, h⟩ := A9.ins
          exact ne_of g9 h (by intro z; cases z)
        have g10 := fr _ _ g9 ga z3 z4
        have rg : r' ≠ g := by
          rcases hr' with e | e | e
          · exact Ne.symm (ne_of_none g9 e)
          · rw [e]; exact Ne.symm z3
          · rw [e]; exact Ne.symm z4
        obtain ⟨_, _, _, _, _, _, hsz⟩ := I'.rest
        rw [List.length_append] at hsz
        simp only [row1, List.length_cons] at hsz
        refine q_app g10 (ev_var rfl) (ev_len (ev_var rfl) (sq_of hr'')) (by rw [vI_length]; omega) fun H11 e11 => ?_
        have T11 := (T10.mono e11).put (ys := vI given ++ [V.int ((vI (Km441Neutral.told (act (ms k) (mkCall p xs)).2)).length : Nat)]) (e11 _ _ g10)
        refine q_ext (b := r') (zs := vI (Km441Neutral.told (act (ms k) (mkCall p xs)).2)) upd_same (by rw [upd_ne rg]; exact e11 _ _ hr'') (ev_var rfl) (ev_var rfl) (by rw [List.length_append, vI_length, vI_length]; show given.length + 1 + _ ≤ _; omega) fun H12 e12 => ?_
        have T12 := (T11.mono e12).put (ys := vI given ++ [V.int ((vI (Km441Neutral.told (act (ms k) (mkCall p xs)).2)).length : Nat)] ++ vI (Km441Neutral.told (act (ms k) (mkCall p xs)).2)) (e12 _ _ upd_same)
        refine s_asg (ev_var rfl) fun H13 e13 => ⟨_, ?_, place + 2 + xn p, S', _, ad, _, _, _, _, _, _, rfl, I', fun i s hi h => ?_, T12.mono e13, ?_, rfl⟩
        · have := N.fit
          omega
        · by_cases e : i = k
          · subst e
            rw [fput_same]
            exact hself s h
          · rw [fput_ne e]
            rw [hoth i e] at h
            exact hS i s hi h
        · refine (e13 _ _ upd_same).trans ?_
          rw [vI_length]
          congr 2
          unfold vI row1
          rw [List.map_append, List.map_cons, List.append_assoc]
          rfl
      · have hge : place = ns.length := by
          have := of_decide_eq_false hbb
          rw [vI_length] at this
          have := I.le
          omega
        subst hge
        have hend := inv_end I
        rw [← hend] at hgiven
        exact s_ret (ev_var rfl) fun H7 e7 => q H7 g (e7 _ _ (e6 _ _ hgiven))
end
end Sm

namespace Sm
open PySem PySem.Spec PyProof.Rows L2 Evl
open Km441 (Station act only)
theorem all_mk {P : Program} {w : World} {K : PySem.W.Frag} {h : Heap} {mg : Str → Option Value} {fa C : Addr}
    {f_told_drill : Addr} {od_told_drill an_told_drill : Option Addr} {sl_told_drill : Array (Option Value)} {oc_told_drill kV_told_drill dc_told_drill pm_told_drill cd_told_drill ct_told_drill : Value}
    {f_told_persons : Addr} {od_told_persons an_told_persons : Option Addr} {sl_told_persons : Array (Option Value)} {oc_told_persons kV_told_persons dc_told_persons pm_told_persons cd_told_persons ct_told_persons : Value}
    {f_told_news : Addr} {od_told_news an_told_news : Option Addr} {sl_told_news : Array (Option Value)} {oc_told_news kV_told_news dc_told_news pm_told_news cd_told_news ct_told_news : Value}
    {f_coming_in : Addr} {od_coming_in an_coming_in : Option Addr} {sl_coming_in : Array (Option Value)} {oc_coming_in kV_coming_in dc_coming_in pm_coming_in cd_coming_in ct_coming_in : Value}
    {f_minute_of : Addr} {od_minute_of an_minute_of : Option Addr} {sl_minute_of : Array (Option Value)} {oc_minute_of kV_minute_of dc_minute_of pm_minute_of cd_minute_of ct_minute_of : Value}
    {f_station_of : Addr} {od_station_of an_station_of : Option Addr} {sl_station_of : Array (Option Value)} {oc_station_of kV_station_of dc_station_of pm_station_of cd_station_of ct_station_of : Value}
    {f_is_minute : Addr} {od_is_minute an_is_minute : Option Addr} {sl_is_minute : Array (Option Value)} {oc_is_minute kV_is_minute dc_is_minute pm_is_minute cd_is_minute ct_is_minute : Value}
    {f_is_person_good : Addr} {od_is_person_good an_is_person_good : Option Addr} {sl_is_person_good : Array (Option Value)} {oc_is_person_good kV_is_person_good dc_is_person_good pm_is_person_good cd_is_person_good ct_is_person_good : Value}
    {f_is_good : Addr} {od_is_good an_is_good : Option Addr} {sl_is_good : Array (Option Value)} {oc_is_good kV_is_good dc_is_good pm_is_good cd_is_good ct_is_good : Value}
    {f_Station_init : Addr} {od_Station_init an_Station_init : Option Addr} {sl_Station_init : Array (Option Value)} {oc_Station_init kV_Station_init dc_Station_init pm_Station_init cd_Station_init ct_Station_init : Value}
    {f_Station_begin : Addr} {od_Station_begin an_Station_begin : Option Addr} {sl_Station_begin : Array (Option Value)} {oc_Station_begin kV_Station_begin dc_Station_begin pm_Station_begin cd_Station_begin ct_Station_begin : Value}
    {f_Station_enter_drill : Addr} {od_Station_enter_drill an_Station_enter_drill : Option Addr} {sl_Station_enter_drill : Array (Option Value)} {oc_Station_enter_drill kV_Station_enter_drill dc_Station_enter_drill pm_Station_enter_drill cd_Station_enter_drill ct_Station_enter_drill : Value}
    {f_Station_here_and_now : Addr} {od_Station_here_and_now an_Station_here_and_now : Option Addr} {sl_Station_here_and_now : Array (Option Value)} {oc_Station_here_and_now kV_Station_here_and_now dc_Station_here_and_now pm_Station_here_and_now cd_Station_here_and_now ct_Station_here_and_now : Value}
    {f_Station_news : Addr} {od_Station_news an_Station_news : Option Addr} {sl_Station_news : Array (Option Value)} {oc_Station_news kV_Station_news dc_Station_news pm_Station_news cd_Station_news ct_Station_news : Value}
    {f_Station_message_now : Addr} {od_Station_message_now an_Station_message_now : Option Addr} {sl_Station_message_now : Array (Option Value)} {oc_Station_message_now kV_Station_message_now dc_Station_message_now pm_Station_message_now cd_Station_message_now ct_Station_message_now : Value}
    {f_Station_would_learn : Addr} {od_Station_would_learn an_Station_would_learn : Option Addr} {sl_Station_would_learn : Array (Option Value)} {oc_Station_would_learn kV_Station_would_learn dc_Station_would_learn pm_Station_would_learn cd_Station_would_learn ct_Station_would_learn : Value}
    {f_Station_hear : Addr} {od_Station_hear an_Station_hear : Option Addr} {sl_Station_hear : Array (Option Value)} {oc_Station_hear kV_Station_hear dc_Station_hear pm_Station_hear cd_Station_hear ct_Station_hear : Value}
    {f_Station_learn_persons : Addr} {od_Station_learn_persons an_Station_learn_persons : Option Addr} {sl_Station_learn_persons : Array (Option Value)} {oc_Station_learn_persons kV_Station_learn_persons dc_Station_learn_persons pm_Station_learn_persons cd_Station_learn_persons ct_Station_learn_persons : Value}
    {f_Station_learn_news : Addr} {od_Station_learn_news an_Station_learn_news : Option Addr} {sl_Station_learn_news : Array (Option Value)} {oc_Station_learn_news kV_Station_learn_news dc_Station_learn_news pm_Station_learn_news cd_Station_learn_news ct_Station_learn_news : Value}
    {f_is_person : Addr} {od_is_person an_is_person : Option Addr} {sl_is_person : Array (Option Value)} {oc_is_person kV_is_person dc_is_person pm_is_person cd_is_person ct_is_person : Value}
    {f_is_station : Addr} {od_is_station an_is_station : Option Addr} {sl_is_station : Array (Option Value)} {oc_is_station kV_is_station dc_is_station pm_is_station cd_is_station ct_is_station : Value}
    {f_is_some_stations : Addr} {od_is_some_stations an_is_some_stations : Option Addr} {sl_is_some_stations : Array (Option Value)} {oc_is_some_stations kV_is_some_stations dc_is_some_stations pm_is_some_stations cd_is_some_stations ct_is_some_stations : Value}
    {f_message_in : Addr} {od_message_in an_message_in : Option Addr} {sl_message_in : Array (Option Value)} {oc_message_in kV_message_in dc_message_in pm_message_in cd_message_in ct_message_in : Value}
    {f_count_and_bits : Addr} {od_count_and_bits an_count_and_bits : Option Addr} {sl_count_and_bits : Array (Option Value)} {oc_count_and_bits kV_count_and_bits dc_count_and_bits pm_count_and_bits cd_count_and_bits ct_count_and_bits : Value}
    {f_who_is_in : Addr} {od_who_is_in an_who_is_in : Option Addr} {sl_who_is_in : Array (Option Value)} {oc_who_is_in kV_who_is_in dc_who_is_in pm_who_is_in cd_who_is_in ct_who_is_in : Value}
    {f_who_is_not_in : Addr} {od_who_is_not_in an_who_is_not_in : Option Addr} {sl_who_is_not_in : Array (Option Value)} {oc_who_is_not_in kV_who_is_not_in dc_who_is_not_in pm_who_is_not_in cd_who_is_not_in ct_who_is_not_in : Value}
    {f_mu_start : Addr} {od_mu_start an_mu_start : Option Addr} {sl_mu_start : Array (Option Value)} {oc_mu_start kV_mu_start dc_mu_start pm_mu_start cd_mu_start ct_mu_start : Value}
    {f_mu_minutes : Addr} {od_mu_minutes an_mu_minutes : Option Addr} {sl_mu_minutes : Array (Option Value)} {oc_mu_minutes kV_mu_minutes dc_mu_minutes pm_mu_minutes cd_mu_minutes ct_mu_minutes : Value}
    {f_mu_drill : Addr} {od_mu_drill an_mu_drill : Option Addr} {sl_mu_drill : Array (Option Value)} {oc_mu_drill kV_mu_drill dc_mu_drill pm_mu_drill cd_mu_drill ct_mu_drill : Value}
    {f_mu_in : Addr} {od_mu_in an_mu_in : Option Addr} {sl_mu_in : Array (Option Value)} {oc_mu_in kV_mu_in dc_mu_in pm_mu_in cd_mu_in ct_mu_in : Value}
    {f_mu_tell : Addr} {od_mu_tell an_mu_tell : Option Addr} {sl_mu_tell : Array (Option Value)} {oc_mu_tell kV_mu_tell dc_mu_tell pm_mu_tell cd_mu_tell ct_mu_tell : Value}
    {f_mu_hear : Addr} {od_mu_hear an_mu_hear : Option Addr} {sl_mu_hear : Array (Option Value)} {oc_mu_hear kV_mu_hear dc_mu_hear pm_mu_hear cd_mu_hear ct_mu_hear : Value}
    {f_mu_where : Addr} {od_mu_where an_mu_where : Option Addr} {sl_mu_where : Array (Option Value)} {oc_mu_where kV_mu_where dc_mu_where pm_mu_where cd_mu_where ct_mu_where : Value}
    {f_mu_count : Addr} {od_mu_count an_mu_count : Option Addr} {sl_mu_count : Array (Option Value)} {oc_mu_count kV_mu_count dc_mu_count pm_mu_count cd_mu_count ct_mu_count : Value}
    {f_mu_missing : Addr} {od_mu_missing an_mu_missing : Option Addr} {sl_mu_missing : Array (Option Value)} {oc_mu_missing kV_mu_missing dc_mu_missing pm_mu_missing cd_mu_missing ct_mu_missing : Value}
    {f_mu_at : Addr} {od_mu_at an_mu_at : Option Addr} {sl_mu_at : Array (Option Value)} {oc_mu_at kV_mu_at dc_mu_at pm_mu_at cd_mu_at ct_mu_at : Value}
    {f_mu_sure : Addr} {od_mu_sure an_mu_sure : Option Addr} {sl_mu_sure : Array (Option Value)} {oc_mu_sure kV_mu_sure dc_mu_sure pm_mu_sure cd_mu_sure ct_mu_sure : Value}
    {f_mu_news : Addr} {od_mu_news an_mu_news : Option Addr} {sl_mu_news : Array (Option Value)} {oc_mu_news kV_mu_news dc_mu_news pm_mu_news cd_mu_news ct_mu_news : Value}
    {f_mu_soonest : Addr} {od_mu_soonest an_mu_soonest : Option Addr} {sl_mu_soonest : Array (Option Value)} {oc_mu_soonest kV_mu_soonest dc_mu_soonest pm_mu_soonest cd_mu_soonest ct_mu_soonest : Value}
    {f_mu_new : Addr} {od_mu_new an_mu_new : Option Addr} {sl_mu_new : Array (Option Value)} {oc_mu_new kV_mu_new dc_mu_new pm_mu_new cd_mu_new ct_mu_new : Value}
    {f_mu_last : Addr} {od_mu_last an_mu_last : Option Addr} {sl_mu_last : Array (Option Value)} {oc_mu_last kV_mu_last dc_mu_last pm_mu_last cd_mu_last ct_mu_last : Value}
    {f_mu_which : Addr} {od_mu_which an_mu_which : Option Addr} {sl_mu_which : Array (Option Value)} {oc_mu_which kV_mu_which dc_mu_which pm_mu_which cd_mu_which ct_mu_which : Value}
    {f_mu_state : Addr} {od_mu_state an_mu_state : Option Addr} {sl_mu_state : Array (Option Value)} {oc_mu_state kV_mu_state dc_mu_state pm_mu_state cd_mu_state ct_mu_state : Value}
    {f_end_of_call : Addr} {od_end_of_call an_end_of_call : Option Addr} {sl_end_of_call : Array (Option Value)} {oc_end_of_call kV_end_of_call dc_end_of_call pm_end_of_call cd_end_of_call ct_end_of_call : Value}
    {f_answers : Addr} {od_answers an_answers : Option Addr} {sl_answers : Array (Option Value)} {oc_answers kV_answers dc_answers pm_answers cd_answers ct_answers : Value}
    {t_STATIONS : Tok}
    {t_PERSONS : Tok}
    {t_LAST_MINUTE : Tok}
    {t_LAST_DRILL : Tok}
    {t_MOST_HEARD : Tok}
    {t_MOST_AT_ONCE : Tok}
    {a_CALLS : Addr} {od_CALLS : Option Addr} {n_CALLS : Nat} {sl_CALLS : Array (Option Value)}
    {a_WHOLE_NUMBERS : Addr} {od_WHOLE_NUMBERS : Option Addr} {n_WHOLE_NUMBERS : Nat} {sl_WHOLE_NUMBERS : Array (Option Value)}
    {t_WHOLE_NUMBERS_0 : Tok}
    {t_WHOLE_NUMBERS_1 : Tok}
    {t_WHOLE_NUMBERS_2 : Tok}
    {t_WHOLE_NUMBERS_3 : Tok}
    {t_WHOLE_NUMBERS_4 : Tok}
    {t_WHOLE_NUMBERS_5 : Tok}
    {t_WHOLE_NUMBERS_6 : Tok}
    {t_WHOLE_NUMBERS_7 : Tok}
    {t_WHOLE_NUMBERS_8 : Tok}
    {t_WHOLE_NUMBERS_9 : Tok}
    {t_WHOLE_NUMBERS_10 : Tok}
    {t_WHOLE_NUMBERS_11 : Tok}
    {t_WHOLE_NUMBERS_12 : Tok}
    {t_WHOLE_NUMBERS_13 : Tok}
    {t_WHOLE_NUMBERS_14 : Tok}
    {t_WHOLE_NUMBERS_15 : Tok}
    {t_WHOLE_NUMBERS_16 : Tok}
    {a_ROWS : Addr} {od_ROWS : Option Addr} {n_ROWS : Nat} {sl_ROWS : Array (Option Value)}
    {t_ROWS_0 : Tok}
    {t_ROWS_1 : Tok}
    {t_ROWS_2 : Tok}
    {t_ROWS_3 : Tok}
    {t_ROWS_4 : Tok}
    {t_ROWS_5 : Tok}
    {t_ROWS_6 : Tok}
    {t_ROWS_7 : Tok}
    {t_ROWS_8 : Tok}
    {t_ROWS_9 : Tok}
    {t_ROWS_10 : Tok}
    {t_ROWS_11 : Tok}
    {t_ROWS_12 : Tok}
    {t_ROWS_13 : Tok}
    {t_ROWS_14 : Tok}
    {t_ROWS_15 : Tok}
    {t_ROWS_16 : Tok}
    (X : K.In h) (G : h.Ns mainGlobals mg) (hfa : mg "answers" = some (.ref fa))
    (aC : PySem.W.nsIn K mainGlobals "Station" = some (some (.ref C)))
    (a_told_drill : PySem.W.nsIn K mainGlobals "told_drill" = some (some (.ref f_told_drill)))
    (l_told_drill : K.lookup f_told_drill = some ⟨oc_told_drill, od_told_drill, .func (PySem.W.fnOf "told_drill" "told_drill" (defArgs s_told_drill) (defBody s_told_drill) (defScope s_told_drill) .none kV_told_drill dc_told_drill pm_told_drill an_told_drill cd_told_drill ct_told_drill), sl_told_drill⟩)
    (co_told_drill : PySem.W.codeIn K cd_told_drill "told_drill" = true)
    (k_told_drill : PySem.W.keepIn K (.ref f_told_drill) = true)
    (a_told_persons : PySem.W.nsIn K mainGlobals "told_persons" = some (some (.ref f_told_persons)))
    (l_told_persons : K.lookup f_told_persons = some ⟨oc_told_persons, od_told_persons, .func (PySem.W.fnOf "told_persons" "told_persons" (defArgs s_told_persons) (defBody s_told_persons) (defScope s_told_persons) .none kV_told_persons dc_told_persons pm_told_persons an_told_persons cd_told_persons ct_told_persons), sl_told_persons⟩)
    (co_told_persons : PySem.W.codeIn K cd_told_persons "told_persons" = true)
    (k_told_persons : PySem.W.keepIn K (.ref f_told_persons) = true)
    (a_told_news : PySem.W.nsIn K mainGlobals "told_news" = some (some (.ref f_told_news)))
    (l_told_news : K.lookup f_told_news = some ⟨oc_told_news, od_told_news, .func (PySem.W.fnOf "told_news" "told_news" (defArgs s_told_news) (defBody s_told_news) (defScope s_told_news) .none kV_told_news dc_told_news pm_told_news an_told_news cd_told_news ct_told_news), sl_told_news⟩)
    (co_told_news : PySem.W.codeIn K cd_told_news "told_news" = true)
    (k_told_news : PySem.W.keepIn K (.ref f_told_news) = true)
    (a_coming_in : PySem.W.nsIn K mainGlobals "coming_in" = some (some (.ref f_coming_in)))
    (l_coming_in : K.lookup f_coming_in = some ⟨oc_coming_in, od_coming_in, .func (PySem.W.fnOf "coming_in" "coming_in" (defArgs s_coming_in) (defBody s_coming_in) (defScope s_coming_in) .none kV_coming_in dc_coming_in pm_coming_in an_coming_in cd_coming_in ct_coming_in), sl_coming_in⟩)
    (co_coming_in : PySem.W.codeIn K cd_coming_in "coming_in" = true)
    (k_coming_in : PySem.W.keepIn K (.ref f_coming_in) = true)
    (a_minute_of : PySem.W.nsIn K mainGlobals "minute_of" = some (some (.ref f_minute_of)))
    (l_minute_of : K.lookup f_minute_of = some ⟨oc_minute_of, od_minute_of, .func (PySem.W.fnOf "minute_of" "minute_of" (defArgs s_minute_of) (defBody s_minute_of) (defScope s_minute_of) .none kV_minute_of dc_minute_of pm_minute_of an_minute_of cd_minute_of ct_minute_of), sl_minute_of⟩)
    (co_minute_of : PySem.W.codeIn K cd_minute_of "minute_of" = true)
    (k_minute_of : PySem.W.keepIn K (.ref f_minute_of) = true)
    (a_station_of : PySem.W.nsIn K mainGlobals "station_of" = some (some (.ref f_station_of)))
    (l_station_of : K.lookup f_station_of = some ⟨oc_station_of, od_station_of, .func (PySem.W.fnOf "station_of" "station_of" (defArgs s_station_of) (defBody s_station_of) (defScope s_station_of) .none kV_station_of dc_station_of pm_station_of an_station_of cd_station_of ct_station_of), sl_station_of⟩)
    (co_station_of : PySem.W.codeIn K cd_station_of "station_of" = true)
    (k_station_of : PySem.W.keepIn K (.ref f_station_of) = true)
    (a_is_minute : PySem.W.nsIn K mainGlobals "is_minute" = some (some (.ref f_is_minute)))
    (l_is_minute : K.lookup f_is_minute = some ⟨oc_is_minute, od_is_minute, .func (PySem.W.fnOf "is_minute" "is_minute" (defArgs s_is_minute) (defBody s_is_minute) (defScope s_is_minute) .none kV_is_minute dc_is_minute pm_is_minute an_is_minute cd_is_minute ct_is_minute), sl_is_minute⟩)
    (co_is_minute : PySem.W.codeIn K cd_is_minute "is_minute" = true)
    (k_is_minute : PySem.W.keepIn K (.ref f_is_minute) = true)
    (a_is_person_good : PySem.W.nsIn K mainGlobals "is_person_good" = some (some (.ref f_is_person_good)))
    (l_is_person_good : K.lookup f_is_person_good = some ⟨oc_is_person_good, od_is_person_good, .func (PySem.W.fnOf "is_person_good" "is_person_good" (defArgs s_is_person_good) (defBody s_is_person_good) (defScope s_is_person_good) .none kV_is_person_good dc_is_person_good pm_is_person_good an_is_person_good cd_is_person_good ct_is_person_good), sl_is_person_good⟩)
    (co_is_person_good : PySem.W.codeIn K cd_is_person_good "is_person_good" = true)
    (k_is_person_good : PySem.W.keepIn K (.ref f_is_person_good) = true)
    (a_is_good : PySem.W.nsIn K mainGlobals "is_good" = some (some (.ref f_is_good)))
    (l_is_good : K.lookup f_is_good = some ⟨oc_is_good, od_is_good, .func (PySem.W.fnOf "is_good" "is_good" (defArgs s_is_good) (defBody s_is_good) (defScope s_is_good) .none kV_is_good dc_is_good pm_is_good an_is_good cd_is_good ct_is_good), sl_is_good⟩)
    (co_is_good : PySem.W.codeIn K cd_is_good "is_good" = true)
    (k_is_good : PySem.W.keepIn K (.ref f_is_good) = true)
    (a_Station_init : PySem.W.findIn K (.ref C) "__init__" = some (some (.ref f_Station_init)))
    (i_Station_init : PySem.W.isFn K (.ref f_Station_init) = true)
    (l_Station_init : K.lookup f_Station_init = some ⟨oc_Station_init, od_Station_init, .func (PySem.W.fnOf "__init__" "Station.__init__" (defArgs s_Station_init) (defBody s_Station_init) (defScope s_Station_init) .none kV_Station_init dc_Station_init pm_Station_init an_Station_init cd_Station_init ct_Station_init), sl_Station_init⟩)
    (co_Station_init : PySem.W.codeIn K cd_Station_init "Station.__init__" = true)
    (k_Station_init : PySem.W.keepIn K (.ref f_Station_init) = true)
    (a_Station_begin : PySem.W.findIn K (.ref C) "begin" = some (some (.ref f_Station_begin)))
    (i_Station_begin : PySem.W.isFn K (.ref f_Station_begin) = true)
    (l_Station_begin : K.lookup f_Station_begin = some ⟨oc_Station_begin, od_Station_begin, .func (PySem.W.fnOf "begin" "Station.begin" (defArgs s_Station_begin) (defBody s_Station_begin) (defScope s_Station_begin) .none kV_Station_begin dc_Station_begin pm_Station_begin an_Station_begin cd_Station_begin ct_Station_begin), sl_Station_begin⟩)
    (co_Station_begin : PySem.W.codeIn K cd_Station_begin "Station.begin" = true)
    (k_Station_begin : PySem.W.keepIn K (.ref f_Station_begin) = true)
    (a_Station_enter_drill : PySem.W.findIn K (.ref C) "enter_drill" = some (some (.ref f_Station_enter_drill)))
    (i_Station_enter_drill : PySem.W.isFn K (.ref f_Station_enter_drill) = true)
    (l_Station_enter_drill : K.lookup f_Station_enter_drill = some ⟨oc_Station_enter_drill, od_Station_enter_drill, .func (PySem.W.fnOf "enter_drill" "Station.enter_drill" (defArgs s_Station_enter_drill) (defBody s_Station_enter_drill) (defScope s_Station_enter_drill) .none kV_Station_enter_drill dc_Station_enter_drill pm_Station_enter_drill an_Station_enter_drill cd_Station_enter_drill ct_Station_enter_drill), sl_Station_enter_drill⟩)
    (co_Station_enter_drill : PySem.W.codeIn K cd_Station_enter_drill "Station.enter_drill" = true)
    (k_Station_enter_drill : PySem.W.keepIn K (.ref f_Station_enter_drill) = true)
    (a_Station_here_and_now : PySem.W.findIn K (.ref C) "here_and_now" = some (some (.ref f_Station_here_and_now)))
    (i_Station_here_and_now : PySem.W.isFn K (.ref f_Station_here_and_now) = true)
    (l_Station_here_and_now : K.lookup f_Station_here_and_now = some ⟨oc_Station_here_and_now, od_Station_here_and_now, .func (PySem.W.fnOf "here_and_now" "Station.here_and_now" (defArgs s_Station_here_and_now) (defBody s_Station_here_and_now) (defScope s_Station_here_and_now) .none kV_Station_here_and_now dc_Station_here_and_now pm_Station_here_and_now an_Station_here_and_now cd_Station_here_and_now ct_Station_here_and_now), sl_Station_here_and_now⟩)
    (co_Station_here_and_now : PySem.W.codeIn K cd_Station_here_and_now "Station.here_and_now" = true)
    (k_Station_here_and_now : PySem.W.keepIn K (.ref f_Station_here_and_now) = true)
    (a_Station_news : PySem.W.findIn K (.ref C) "news" = some (some (.ref f_Station_news)))
    (i_Station_news : PySem.W.isFn K (.ref f_Station_news) = true)
    (l_Station_news : K.lookup f_Station_news = some ⟨oc_Station_news, od_Station_news, .func (PySem.W.fnOf "news" "Station.news" (defArgs s_Station_news) (defBody s_Station_news) (defScope s_Station_news) .none kV_Station_news dc_Station_news pm_Station_news an_Station_news cd_Station_news ct_Station_news), sl_Station_news⟩)
    (co_Station_news : PySem.W.codeIn K cd_Station_news "Station.news" = true)
    (k_Station_news : PySem.W.keepIn K (.ref f_Station_news) = true)
    (a_Station_message_now : PySem.W.findIn K (.ref C) "message_now" = some (some (.ref f_Station_message_now)))
    (i_Station_message_now : PySem.W.isFn K (.ref f_Station_message_now) = true)
    (l_Station_message_now : K.lookup f_Station_message_now = some ⟨oc_Station_message_now, od_Station_message_now, .func (PySem.W.fnOf "message_now" "Station.message_now" (defArgs s_Station_message_now) (defBody s_Station_message_now) (defScope s_Station_message_now) .none kV_Station_message_now dc_Station_message_now pm_Station_message_now an_Station_message_now cd_Station_message_now ct_Station_message_now), sl_Station_message_now⟩)
    (co_Station_message_now : PySem.W.codeIn K cd_Station_message_now "Station.message_now" = true)
    (k_Station_message_now : PySem.W.keepIn K (.ref f_Station_message_now) = true)
    (a_Station_would_learn : PySem.W.findIn K (.ref C) "would_learn" = some (some (.ref f_Station_would_learn)))
    (i_Station_would_learn : PySem.W.isFn K (.ref f_Station_would_learn) = true)
    (l_Station_would_learn : K.lookup f_Station_would_learn = some ⟨oc_Station_would_learn, od_Station_would_learn, .func (PySem.W.fnOf "would_learn" "Station.would_learn" (defArgs s_Station_would_learn) (defBody s_Station_would_learn) (defScope s_Station_would_learn) .none kV_Station_would_learn dc_Station_would_learn pm_Station_would_learn an_Station_would_learn cd_Station_would_learn ct_Station_would_learn), sl_Station_would_learn⟩)
    (co_Station_would_learn : PySem.W.codeIn K cd_Station_would_learn "Station.would_learn" = true)
    (k_Station_would_learn : PySem.W.keepIn K (.ref f_Station_would_learn) = true)
    (a_Station_hear : PySem.W.findIn K (.ref C) "hear" = some (some (.ref f_Station_hear)))
    (i_Station_hear : PySem.W.isFn K (.ref f_Station_hear) = true)
    (l_Station_hear : K.lookup f_Station_hear = some ⟨oc_Station_hear, od_Station_hear, .func (PySem.W.fnOf "hear" "Station.hear" (defArgs s_Station_hear) (defBody s_Station_hear) (defScope s_Station_hear) .none kV_Station_hear dc_Station_hear pm_Station_hear an_Station_hear cd_Station_hear ct_Station_hear), sl_Station_hear⟩)
    (co_Station_hear : PySem.W.codeIn K cd_Station_hear "Station.hear" = true)
    (k_Station_hear : PySem.W.keepIn K (.ref f_Station_hear) = true)
    (a_Station_learn_persons : PySem.W.findIn K (.ref C) "learn_persons" = some (some (.ref f_Station_learn_persons)))
    (i_Station_learn_persons : PySem.W.isFn K (.ref f_Station_learn_persons) = true)
    (l_Station_learn_persons : K.lookup f_Station_learn_persons = some ⟨oc_Station_learn_persons, od_Station_learn_persons, .func (PySem.W.fnOf "learn_persons" "Station.learn_persons" (defArgs s_Station_learn_persons) (defBody s_Station_learn_persons) (defScope s_Station_learn_persons) .none kV_Station_learn_persons dc_Station_learn_persons pm_Station_learn_persons an_Station_learn_persons cd_Station_learn_persons ct_Station_learn_persons), sl_Station_learn_persons⟩)
    (co_Station_learn_persons : PySem.W.codeIn K cd_Station_learn_persons "Station.learn_persons" = true)
    (k_Station_learn_persons : PySem.W.keepIn K (.ref f_Station_learn_persons) = true)
    (a_Station_learn_news : PySem.W.findIn K (.ref C) "learn_news" = some (some (.ref f_Station_learn_news)))
    (i_Station_learn_news : PySem.W.isFn K (.ref f_Station_learn_news) = true)
    (l_Station_learn_news : K.lookup f_Station_learn_news = some ⟨oc_Station_learn_news, od_Station_learn_news, .func (PySem.W.fnOf "learn_news" "Station.learn_news" (defArgs s_Station_learn_news) (defBody s_Station_learn_news) (defScope s_Station_learn_news) .none kV_Station_learn_news dc_Station_learn_news pm_Station_learn_news an_Station_learn_news cd_Station_learn_news ct_Station_learn_news), sl_Station_learn_news⟩)
    (co_Station_learn_news : PySem.W.codeIn K cd_Station_learn_news "Station.learn_news" = true)
    (k_Station_learn_news : PySem.W.keepIn K (.ref f_Station_learn_news) = true)
    (a_is_person : PySem.W.nsIn K mainGlobals "is_person" = some (some (.ref f_is_person)))
    (l_is_person : K.lookup f_is_person = some ⟨oc_is_person, od_is_person, .func (PySem.W.fnOf "is_person" "is_person" (defArgs s_is_person) (defBody s_is_person) (defScope s_is_person) .none kV_is_person dc_is_person pm_is_person an_is_person cd_is_person ct_is_person), sl_is_person⟩)
    (co_is_person : PySem.W.codeIn K cd_is_person "is_person" = true)
    (k_is_person : PySem.W.keepIn K (.ref f_is_person) = true)
    (a_is_station : PySem.W.nsIn K mainGlobals "is_station" = some (some (.ref f_is_station)))
    (l_is_station : K.lookup f_is_station = some ⟨oc_is_station, od_is_station, .func (PySem.W.fnOf "is_station" "is_station" (defArgs s_is_station) (defBody s_is_station) (defScope s_is_station) .none kV_is_station dc_is_station pm_is_station an_is_station cd_is_station ct_is_station), sl_is_station⟩)
    (co_is_station : PySem.W.codeIn K cd_is_station "is_station" = true)
    (k_is_station : PySem.W.keepIn K (.ref f_is_station) = true)
    (a_is_some_stations : PySem.W.nsIn K mainGlobals "is_some_stations" = some (some (.ref f_is_some_stations)))
    (l_is_some_stations : K.lookup f_is_some_stations = some ⟨oc_is_some_stations, od_is_some_stations, .func (PySem.W.fnOf "is_some_stations" "is_some_stations" (defArgs s_is_some_stations) (defBody s_is_some_stations) (defScope s_is_some_stations) .none kV_is_some_stations dc_is_some_stations pm_is_some_stations an_is_some_stations cd_is_some_stations ct_is_some_stations), sl_is_some_stations⟩)
    (co_is_some_stations : PySem.W.codeIn K cd_is_some_stations "is_some_stations" = true)
    (k_is_some_stations : PySem.W.keepIn K (.ref f_is_some_stations) = true)
    (a_message_in : PySem.W.nsIn K mainGlobals "message_in" = some (some (.ref f_message_in)))
    (l_message_in : K.lookup f_message_in = some ⟨oc_message_in, od_message_in, .func (PySem.W.fnOf "message_in" "message_in" (defArgs s_message_in) (defBody s_message_in) (defScope s_message_in) .none kV_message_in dc_message_in pm_message_in an_message_in cd_message_in ct_message_in), sl_message_in⟩)
    (co_message_in : PySem.W.codeIn K cd_message_in "message_in" = true)
    (k_message_in : PySem.W.keepIn K (.ref f_message_in) = true)
    (a_count_and_bits : PySem.W.nsIn K mainGlobals "count_and_bits" = some (some (.ref f_count_and_bits)))
    (l_count_and_bits : K.lookup f_count_and_bits = some ⟨oc_count_and_bits, od_count_and_bits, .func (PySem.W.fnOf "count_and_bits" "count_and_bits" (defArgs s_count_and_bits) (defBody s_count_and_bits) (defScope s_count_and_bits) .none kV_count_and_bits dc_count_and_bits pm_count_and_bits an_count_and_bits cd_count_and_bits ct_count_and_bits), sl_count_and_bits⟩)
    (co_count_and_bits : PySem.W.codeIn K cd_count_and_bits "count_and_bits" = true)
    (k_count_and_bits : PySem.W.keepIn K (.ref f_count_and_bits) = true)
    (a_who_is_in : PySem.W.nsIn K mainGlobals "who_is_in" = some (some (.ref f_who_is_in)))
    (l_who_is_in : K.lookup f_who_is_in = some ⟨oc_who_is_in, od_who_is_in, .func (PySem.W.fnOf "who_is_in" "who_is_in" (defArgs s_who_is_in) (defBody s_who_is_in) (defScope s_who_is_in) .none kV_who_is_in dc_who_is_in pm_who_is_in an_who_is_in cd_who_is_in ct_who_is_in), sl_who_is_in⟩)
    (co_who_is_in : PySem.W.codeIn K cd_who_is_in "who_is_in" = true)
    (k_who_is_in : PySem.W.keepIn K (.ref f_who_is_in) = true)
    (a_who_is_not_in : PySem.W.nsIn K mainGlobals "who_is_not_in" = some (some (.ref f_who_is_not_in)))
    (l_who_is_not_in : K.lookup f_who_is_not_in = some ⟨oc_who_is_not_in, od_who_is_not_in, .func (PySem.W.fnOf "who_is_not_in" "who_is_not_in" (defArgs s_who_is_not_in) (defBody s_who_is_not_in) (defScope s_who_is_not_in) .none kV_who_is_not_in dc_who_is_not_in pm_who_is_not_in an_who_is_not_in cd_who_is_not_in ct_who_is_not_in), sl_who_is_not_in⟩)
    (co_who_is_not_in : PySem.W.codeIn K cd_who_is_not_in "who_is_not_in" = true)
    (k_who_is_not_in : PySem.W.keepIn K (.ref f_who_is_not_in) = true)
    (a_mu_start : PySem.W.nsIn K mainGlobals "mu_start" = some (some (.ref f_mu_start)))
    (l_mu_start : K.lookup f_mu_start = some ⟨oc_mu_start, od_mu_start, .func (PySem.W.fnOf "mu_start" "mu_start" (defArgs s_mu_start) (defBody s_mu_start) (defScope s_mu_start) .none kV_mu_start dc_mu_start pm_mu_start an_mu_start cd_mu_start ct_mu_start), sl_mu_start⟩)
    (co_mu_start : PySem.W.codeIn K cd_mu_start "mu_start" = true)
    (k_mu_start : PySem.W.keepIn K (.ref f_mu_start) = true)
    (a_mu_minutes : PySem.W.nsIn K mainGlobals "mu_minutes" = some (some (.ref f_mu_minutes)))
    (l_mu_minutes : K.lookup f_mu_minutes = some ⟨oc_mu_minutes, od_mu_minutes, .func (PySem.W.fnOf "mu_minutes" "mu_minutes" (defArgs s_mu_minutes) (defBody s_mu_minutes) (defScope s_mu_minutes) .none kV_mu_minutes dc_mu_minutes pm_mu_minutes an_mu_minutes cd_mu_minutes ct_mu_minutes), sl_mu_minutes⟩)
    (co_mu_minutes : PySem.W.codeIn K cd_mu_minutes "mu_minutes" = true)
    (k_mu_minutes : PySem.W.keepIn K (.ref f_mu_minutes) = true)
    (a_mu_drill : PySem.W.nsIn K mainGlobals "mu_drill" = some (some (.ref f_mu_drill)))
    (l_mu_drill : K.lookup f_mu_drill = some ⟨oc_mu_drill, od_mu_drill, .func (PySem.W.fnOf "mu_drill" "mu_drill" (defArgs s_mu_drill) (defBody s_mu_drill) (defScope s_mu_drill) .none kV_mu_drill dc_mu_drill pm_mu_drill an_mu_drill cd_mu_drill ct_mu_drill), sl_mu_drill⟩)
    (co_mu_drill : PySem.W.codeIn K cd_mu_drill "mu_drill" = true)
    (k_mu_drill : PySem.W.keepIn K (.ref f_mu_drill) = true)
    (a_mu_in : PySem.W.nsIn K mainGlobals "mu_in" = some (some (.ref f_mu_in)))
    (l_mu_in : K.lookup f_mu_in = some ⟨oc_mu_in, od_mu_in, .func (PySem.W.fnOf "mu_in" "mu_in" (defArgs s_mu_in) (defBody s_mu_in) (defScope s_mu_in) .none kV_mu_in dc_mu_in pm_mu_in an_mu_in cd_mu_in ct_mu_in), sl_mu_in⟩)
    (co_mu_in : PySem.W.codeIn K cd_mu_in "mu_in" = true)
    (k_mu_in : PySem.W.keepIn K (.ref f_mu_in) = true)
    (a_mu_tell : PySem.W.nsIn K mainGlobals "mu_tell" = some (some (.ref f_mu_tell)))
    (l_mu_tell : K.lookup f_mu_tell = some ⟨oc_mu_tell, od_mu_tell, .func (PySem.W.fnOf "mu_tell" "mu_tell" (defArgs s_mu_tell) (defBody s_mu_tell) (defScope s_mu_tell) .none kV_mu_tell dc_mu_tell pm_mu_tell an_mu_tell cd_mu_tell ct_mu_tell), sl_mu_tell⟩)
    (co_mu_tell : PySem.W.codeIn K cd_mu_tell "mu_tell" = true)
    (k_mu_tell : PySem.W.keepIn K (.ref f_mu_tell) = true)
    (a_mu_hear : PySem.W.nsIn K mainGlobals "mu_hear" = some (some (.ref f_mu_hear)))
    (l_mu_hear : K.lookup f_mu_hear = some ⟨oc_mu_hear, od_mu_hear, .func (PySem.W.fnOf "mu_hear" "mu_hear" (defArgs s_mu_hear) (defBody s_mu_hear) (defScope s_mu_hear) .none kV_mu_hear dc_mu_hear pm_mu_hear an_mu_hear cd_mu_hear ct_mu_hear), sl_mu_hear⟩)
    (co_mu_hear : PySem.W.codeIn K cd_mu_hear "mu_hear" = true)
    (k_mu_hear : PySem.W.keepIn K (.ref f_mu_hear) = true)
    (a_mu_where : PySem.W.nsIn K mainGlobals "mu_where" = some (some (.ref f_mu_where)))
    (l_mu_where : K.lookup f_mu_where = some ⟨oc_mu_where, od_mu_where, .func (PySem.W.fnOf "mu_where" "mu_where" (defArgs s_mu_where) (defBody s_mu_where) (defScope s_mu_where) .none kV_mu_where dc_mu_where pm_mu_where an_mu_where cd_mu_where ct_mu_where), sl_mu_where⟩)
    (co_mu_where : PySem.W.codeIn K cd_mu_where "mu_where" = true)
    (k_mu_where : PySem.W.keepIn K (.ref f_mu_where) = true)
    (a_mu_count : PySem.W.nsIn K mainGlobals "mu_count" = some (some (.ref f_mu_count)))
    (l_mu_count : K.lookup f_mu_count = some ⟨oc_mu_count, od_mu_count, .func (PySem.W.fnOf "mu_count" "mu_count" (defArgs s_mu_count) (defBody s_mu_count) (defScope s_mu_count) .none kV_mu_count dc_mu_count pm_mu_count an_mu_count cd_mu_count ct_mu_count), sl_mu_count⟩)
    (co_mu_count : PySem.W.codeIn K cd_mu_count "mu_count" = true)
    (k_mu_count : PySem.W.keepIn K (.ref f_mu_count) = true)
    (a_mu_missing : PySem.W.nsIn K mainGlobals "mu_missing" = some (some (.ref f_mu_missing)))
    (l_mu_missing : K.lookup f_mu_missing = some ⟨oc_mu_missing, od_mu_missing, .func (PySem.W.fnOf "mu_missing" "mu_missing" (defArgs s_mu_missing) (defBody s_mu_missing) (defScope s_mu_missing) .none kV_mu_missing dc_mu_missing pm_mu_missing an_mu_missing cd_mu_missing ct_mu_missing), sl_mu_missing⟩)
    (co_mu_missing : PySem.W.codeIn K cd_mu_missing "mu_missing" = true)
    (k_mu_missing : PySem.W.keepIn K (.ref f_mu_missing) = true)
    (a_mu_at : PySem.W.nsIn K mainGlobals "mu_at" = some (some (.ref f_mu_at)))
    (l_mu_at : K.lookup f_mu_at = some ⟨oc_mu_at, od_mu_at, .func (PySem.W.fnOf "mu_at" "mu_at" (defArgs s_mu_at) (defBody s_mu_at) (defScope s_mu_at) .none kV_mu_at dc_mu_at pm_mu_at an_mu_at cd_mu_at ct_mu_at), sl_mu_at⟩)
    (co_mu_at : PySem.W.codeIn K cd_mu_at "mu_at" = true)
    (k_mu_at : PySem.W.keepIn K (.ref f_mu_at) = true)
    (a_mu_sure : PySem.W.nsIn K mainGlobals "mu_sure" = some (some (.ref f_mu_sure)))
    (l_mu_sure : K.lookup f_mu_sure = some ⟨oc_mu_sure, od_mu_sure, .func (PySem.W.fnOf "mu_sure" "mu_sure" (defArgs s_mu_sure) (defBody s_mu_sure) (defScope s_mu_sure) .none kV_mu_sure dc_mu_sure pm_mu_sure an_mu_sure cd_mu_sure ct_mu_sure), sl_mu_sure⟩)
    (co_mu_sure : PySem.W.codeIn K cd_mu_sure "mu_sure" = true)
    (k_mu_sure : PySem.W.keepIn K (.ref f_mu_sure) = true)
    (a_mu_news : PySem.W.nsIn K mainGlobals "mu_news" = some (some (.ref f_mu_news)))
    (l_mu_news : K.lookup f_mu_news = some ⟨oc_mu_news, od_mu_news, .func (PySem.W.fnOf "mu_news" "mu_news" (defArgs s_mu_news) (defBody s_mu_news) (defScope s_mu_news) .none kV_mu_news dc_mu_news pm_mu_news an_mu_news cd_mu_news ct_mu_news), sl_mu_news⟩)
    (co_mu_news : PySem.W.codeIn K cd_mu_news "mu_news" = true)
    (k_mu_news : PySem.W.keepIn K (.ref f_mu_news) = true)
    (a_mu_soonest : PySem.W.nsIn K mainGlobals "mu_soonest" = some (some (.ref f_mu_soonest)))
    (l_mu_soonest : K.lookup f_mu_soonest = some ⟨oc_mu_soonest, od_mu_soonest, .func (PySem.W.fnOf "mu_soonest" "mu_soonest" (defArgs s_mu_soonest) (defBody s_mu_soonest) (defScope s_mu_soonest) .none kV_mu_soonest dc_mu_soonest pm_mu_soonest an_mu_soonest cd_mu_soonest ct_mu_soonest), sl_mu_soonest⟩)
    (co_mu_soonest : PySem.W.codeIn K cd_mu_soonest "mu_soonest" = true)
    (k_mu_soonest : PySem.W.keepIn K (.ref f_mu_soonest) = true)
    (a_mu_new : PySem.W.nsIn K mainGlobals "mu_new" = some (some (.ref f_mu_new)))
    (l_mu_new : K.lookup f_mu_new = some ⟨oc_mu_new, od_mu_new, .func (PySem.W.fnOf "mu_new" "mu_new" (defArgs s_mu_new) (defBody s_mu_new) (defScope s_mu_new) .none kV_mu_new dc_mu_new pm_mu_new an_mu_new cd_mu_new ct_mu_new), sl_mu_new⟩)
    (co_mu_new : PySem.W.codeIn K cd_mu_new "mu_new" = true)
    (k_mu_new : PySem.W.keepIn K (.ref f_mu_new) = true)
    (a_mu_last : PySem.W.nsIn K mainGlobals "mu_last" = some (some (.ref f_mu_last)))
    (l_mu_last : K.lookup f_mu_last = some ⟨oc_mu_last, od_mu_last, .func (PySem.W.fnOf "mu_last" "mu_last" (defArgs s_mu_last) (defBody s_mu_last) (defScope s_mu_last) .none kV_mu_last dc_mu_last pm_mu_last an_mu_last cd_mu_last ct_mu_last), sl_mu_last⟩)
    (co_mu_last : PySem.W.codeIn K cd_mu_last "mu_last" = true)
    (k_mu_last : PySem.W.keepIn K (.ref f_mu_last) = true)
    (a_mu_which : PySem.W.nsIn K mainGlobals "mu_which" = some (some (.ref f_mu_which)))
    (l_mu_which : K.lookup f_mu_which = some ⟨oc_mu_which, od_mu_which, .func (PySem.W.fnOf "mu_which" "mu_which" (defArgs s_mu_which) (defBody s_mu_which) (defScope s_mu_which) .none kV_mu_which dc_mu_which pm_mu_which an_mu_which cd_mu_which ct_mu_which), sl_mu_which⟩)
    (co_mu_which : PySem.W.codeIn K cd_mu_which "mu_which" = true)
    (k_mu_which : PySem.W.keepIn K (.ref f_mu_which) = true)
    (a_mu_state : PySem.W.nsIn K mainGlobals "mu_state" = some (some (.ref f_mu_state)))
    (l_mu_state : K.lookup f_mu_state = some ⟨oc_mu_state, od_mu_state, .func (PySem.W.fnOf "mu_state" "mu_state" (defArgs s_mu_state) (defBody s_mu_state) (defScope s_mu_state) .none kV_mu_state dc_mu_state pm_mu_state an_mu_state cd_mu_state ct_mu_state), sl_mu_state⟩)
    (co_mu_state : PySem.W.codeIn K cd_mu_state "mu_state" = true)
    (k_mu_state : PySem.W.keepIn K (.ref f_mu_state) = true)
    (a_end_of_call : PySem.W.nsIn K mainGlobals "end_of_call" = some (some (.ref f_end_of_call)))
    (l_end_of_call : K.lookup f_end_of_call = some ⟨oc_end_of_call, od_end_of_call, .func (PySem.W.fnOf "end_of_call" "end_of_call" (defArgs s_end_of_call) (defBody s_end_of_call) (defScope s_end_of_call) .none kV_end_of_call dc_end_of_call pm_end_of_call an_end_of_call cd_end_of_call ct_end_of_call), sl_end_of_call⟩)
    (co_end_of_call : PySem.W.codeIn K cd_end_of_call "end_of_call" = true)
    (k_end_of_call : PySem.W.keepIn K (.ref f_end_of_call) = true)
    (a_answers : PySem.W.nsIn K mainGlobals "answers" = some (some (.ref f_answers)))
    (l_answers : K.lookup f_answers = some ⟨oc_answers, od_answers, .func (PySem.W.fnOf "answers" "answers" (defArgs s_answers) (defBody s_answers) (defScope s_answers) .none kV_answers dc_answers pm_answers an_answers cd_answers ct_answers), sl_answers⟩)
    (co_answers : PySem.W.codeIn K cd_answers "answers" = true)
    (k_answers : PySem.W.keepIn K (.ref f_answers) = true)
    (v_STATIONS : PySem.W.nsIn K mainGlobals "STATIONS" = some (some (.int 5 t_STATIONS)))
    (v_PERSONS : PySem.W.nsIn K mainGlobals "PERSONS" = some (some (.int 16 t_PERSONS)))
    (v_LAST_MINUTE : PySem.W.nsIn K mainGlobals "LAST_MINUTE" = some (some (.int 100000 t_LAST_MINUTE)))
    (v_LAST_DRILL : PySem.W.nsIn K mainGlobals "LAST_DRILL" = some (some (.int 1000 t_LAST_DRILL)))
    (v_MOST_HEARD : PySem.W.nsIn K mainGlobals "MOST_HEARD" = some (some (.int 100000 t_MOST_HEARD)))
    (v_MOST_AT_ONCE : PySem.W.nsIn K mainGlobals "MOST_AT_ONCE" = some (some (.int 1440 t_MOST_AT_ONCE)))
    (b_all : PySem.W.nsIn K mainGlobals "all" = some none)
    (b_len : PySem.W.nsIn K mainGlobals "len" = some none)
    (b_list : PySem.W.nsIn K mainGlobals "list" = some none)
    (b_max : PySem.W.nsIn K mainGlobals "max" = some none)
    (b_min : PySem.W.nsIn K mainGlobals "min" = some none)
    (b_range : PySem.W.nsIn K mainGlobals "range" = some none)
    (b_sum : PySem.W.nsIn K mainGlobals "sum" = some none)
    (ns_CALLS : PySem.W.nsIn K mainGlobals "CALLS" = some (some (.ref a_CALLS)))
    (lk_CALLS : K.lookup a_CALLS = some ⟨.type "tuple", od_CALLS, .seq #[.ref f_mu_start, .ref f_mu_minutes, .ref f_mu_drill, .ref f_mu_in, .ref f_mu_tell, .ref f_mu_hear, .ref f_mu_where, .ref f_mu_count, .ref f_mu_missing, .ref f_mu_at, .ref f_mu_sure, .ref f_mu_news, .ref f_mu_soonest, .ref f_mu_new, .ref f_mu_last, .ref f_mu_which, .ref f_mu_state] n_CALLS, sl_CALLS⟩)
    (ns_WHOLE_NUMBERS : PySem.W.nsIn K mainGlobals "WHOLE_NUMBERS" = some (some (.ref a_WHOLE_NUMBERS)))
    (lk_WHOLE_NUMBERS : K.lookup a_WHOLE_NUMBERS = some ⟨.type "tuple", od_WHOLE_NUMBERS, .seq #[.int 1 t_WHOLE_NUMBERS_0, .int 1 t_WHOLE_NUMBERS_1, .int 0 t_WHOLE_NUMBERS_2, .int 1 t_WHOLE_NUMBERS_3, .int 0 t_WHOLE_NUMBERS_4, .int 0 t_WHOLE_NUMBERS_5, .int 1 t_WHOLE_NUMBERS_6, .int 0 t_WHOLE_NUMBERS_7, .int 0 t_WHOLE_NUMBERS_8, .int 1 t_WHOLE_NUMBERS_9, .int 2 t_WHOLE_NUMBERS_10, .int 1 t_WHOLE_NUMBERS_11, .int 1 t_WHOLE_NUMBERS_12, .int 0 t_WHOLE_NUMBERS_13, .int 0 t_WHOLE_NUMBERS_14, .int 0 t_WHOLE_NUMBERS_15, .int 0 t_WHOLE_NUMBERS_16] n_WHOLE_NUMBERS, sl_WHOLE_NUMBERS⟩)
    (ns_ROWS : PySem.W.nsIn K mainGlobals "ROWS" = some (some (.ref a_ROWS)))
    (lk_ROWS : K.lookup a_ROWS = some ⟨.type "tuple", od_ROWS, .seq #[.int 0 t_ROWS_0, .int 0 t_ROWS_1, .int 0 t_ROWS_2, .int 0 t_ROWS_3, .int 0 t_ROWS_4, .int 1 t_ROWS_5, .int 0 t_ROWS_6, .int 0 t_ROWS_7, .int 0 t_ROWS_8, .int 0 t_ROWS_9, .int 0 t_ROWS_10, .int 0 t_ROWS_11, .int 0 t_ROWS_12, .int 1 t_ROWS_13, .int 0 t_ROWS_14, .int 0 t_ROWS_15, .int 0 t_ROWS_16] n_ROWS, sl_ROWS⟩)
    (pg : PySem.W.plainGet K C Str.empty = true)
    (hd : PySem.W.hasDictIn K C = true)
    (po : PySem.W.plainOver K C = true)
    (sa : PySem.W.findIn K (.ref C) "__setattr__" = some (some (.builtin "object.__setattr__")))
    (mk : PySem.W.makesIn K C = true)
    (kc : PySem.W.keepIn K (.ref C) = true)
    (n_me : PySem.W.findIn K (.ref C) "me" = some none)
    (n_minute : PySem.W.findIn K (.ref C) "minute" = some none)
    (n_heard : PySem.W.findIn K (.ref C) "heard" = some none)
    (n_drill : PySem.W.findIn K (.ref C) "drill" = some none)
    (n_known : PySem.W.findIn K (.ref C) "known" = some none)
    (n_others : PySem.W.findIn K (.ref C) "others_news" = some none) :
    ∃ fd : FuncData, (∀ (s : Shared) (us : List Value), us.length = (["calls"] : List Str).length → BindsTo s fd ⟨us, []⟩ ((["calls"] : List Str).zip us)) ∧ ∀ base : Heap, K.In base → base.Ns mainGlobals mg → FnOk P w K mg base CX0 5 fa fd ["calls"] (sp_answers K) := by
  have F_told_drill := fun_mk (st := s_told_drill) l_told_drill co_told_drill k_told_drill
  have B_told_drill := F_told_drill.binds (ps := ["message"]) fun _ _ _ _ _ _ us hl => match us, hl with | [_], _ => rfl
  have F_told_persons := fun_mk (st := s_told_persons) l_told_persons co_told_persons k_told_persons
  have B_told_persons := F_told_persons.binds (ps := ["message"]) fun _ _ _ _ _ _ us hl => match us, hl with | [_], _ => rfl
  have F_told_news := fun_mk (st := s_told_news) l_told_news co_told_news k_told_news
  have B_told_news := F_told_news.binds (ps := ["message"]) fun _ _ _ _ _ _ us hl => match us, hl with | [_], _ => rfl
  have F_coming_in := fun_mk (st := s_coming_in) l_coming_in co_coming_in k_coming_in
  have B_coming_in := F_coming_in.binds (ps := ["minute", "station"]) fun _ _ _ _ _ _ us hl => match us, hl with | [_, _], _ => rfl
  have F_minute_of := fun_mk (st := s_minute_of) l_minute_of co_minute_of k_minute_of
  have B_minute_of := F_minute_of.binds (ps := ["number"]) fun _ _ _ _ _ _ us hl => match us, hl with | [_], _ => rfl
  have F_station_of := fun_mk (st := s_station_of) l_station_of co_station_of k_station_of
  have B_station_of := F_station_of.binds (ps := ["number"]) fun _ _ _ _ _ _ us hl => match us, hl with | [_], _ => rfl
  have F_is_minute := fun_mk (st := s_is_minute) l_is_minute co_is_minute k_is_minute
  have B_is_minute := F_is_minute.binds (ps := ["number"]) fun _ _ _ _ _ _ us hl => match us, hl with | [_], _ => rfl
  have F_is_person_good := fun_mk (st := s_is_person_good) l_is_person_good co_is_person_good k_is_person_good
  have B_is_person_good := F_is_person_good.binds (ps := ["number"]) fun _ _ _ _ _ _ us hl => match us, hl with | [_], _ => rfl
  have F_is_good := fun_mk (st := s_is_good) l_is_good co_is_good k_is_good
  have B_is_good := F_is_good.binds (ps := ["message"]) fun _ _ _ _ _ _ us hl => match us, hl with | [_], _ => rfl
  have F_Station_init := fun_mk (st := s_Station_init) l_Station_init co_Station_init k_Station_init
  have B_Station_init := F_Station_init.binds (ps := ["self"]) fun _ _ _ _ _ _ us hl => match us, hl with | [_], _ => rfl
  have F_Station_begin := fun_mk (st := s_Station_begin) l_Station_begin co_Station_begin k_Station_begin
  have B_Station_begin := F_Station_begin.binds (ps := ["self", "me"]) fun _ _ _ _ _ _ us hl => match us, hl with | [_, _], _ => rfl
  have F_Station_enter_drill := fun_mk (st := s_Station_enter_drill) l_Station_enter_drill co_Station_enter_drill k_Station_enter_drill
  have B_Station_enter_drill := F_Station_enter_drill.binds (ps := ["self", "drill"]) fun _ _ _ _ _ _ us hl => match us, hl with | [_, _], _ => rfl
  have F_Station_here_and_now := fun_mk (st := s_Station_here_and_now) l_Station_here_and_now co_Station_here_and_now k_Station_here_and_now
  have B_Station_here_and_now := F_Station_here_and_now.binds (ps := ["self"]) fun _ _ _ _ _ _ us hl => match us, hl with | [_], _ => rfl
  have F_Station_news := fun_mk (st := s_Station_news) l_Station_news co_Station_news k_Station_news
  have B_Station_news := F_Station_news.binds (ps := ["self"]) fun _ _ _ _ _ _ us hl => match us, hl with | [_], _ => rfl
  have F_Station_message_now := fun_mk (st := s_Station_message_now) l_Station_message_now co_Station_message_now k_Station_message_now
  have B_Station_message_now := F_Station_message_now.binds (ps := ["self"]) fun _ _ _ _ _ _ us hl => match us, hl with | [_], _ => rfl
  have F_Station_would_learn := fun_mk (st := s_Station_would_learn) l_Station_would_learn co_Station_would_learn k_Station_would_learn
  have B_Station_would_learn := F_Station_would_learn.binds (ps := ["self", "message"]) fun _ _ _ _ _ _ us hl => match us, hl with | [_, _], _ => rfl
  have F_Station_hear := fun_mk (st := s_Station_hear) l_Station_hear co_Station_hear k_Station_hear
  have B_Station_hear := F_Station_hear.binds (ps := ["self", "message"]) fun _ _ _ _ _ _ us hl => match us, hl with | [_, _], _ => rfl
  have F_Station_learn_persons := fun_mk (st := s_Station_learn_persons) l_Station_learn_persons co_Station_learn_persons k_Station_learn_persons
  have B_Station_learn_persons := F_Station_learn_persons.binds (ps := ["self", "told"]) fun _ _ _ _ _ _ us hl => match us, hl with | [_, _], _ => rfl
  have F_Station_learn_news := fun_mk (st := s_Station_learn_news) l_Station_learn_news co_Station_learn_news k_Station_learn_news
  have B_Station_learn_news := F_Station_learn_news.binds (ps := ["self", "told"]) fun _ _ _ _ _ _ us hl => match us, hl with | [_, _], _ => rfl
  have F_is_person := fun_mk (st := s_is_person) l_is_person co_is_person k_is_person
  have B_is_person := F_is_person.binds (ps := ["p"]) fun _ _ _ _ _ _ us hl => match us, hl with | [_], _ => rfl
  have F_is_station := fun_mk (st := s_is_station) l_is_station co_is_station k_is_station
  have B_is_station := F_is_station.binds (ps := ["k"]) fun _ _ _ _ _ _ us hl => match us, hl with | [_], _ => rfl
  have F_is_some_stations := fun_mk (st := s_is_some_stations) l_is_some_stations co_is_some_stations k_is_some_stations
  have B_is_some_stations := F_is_some_stations.binds (ps := ["n"]) fun _ _ _ _ _ _ us hl => match us, hl with | [_], _ => rfl
  have F_message_in := fun_mk (st := s_message_in) l_message_in co_message_in k_message_in
  have B_message_in := F_message_in.binds (ps := ["numbers"]) fun _ _ _ _ _ _ us hl => match us, hl with | [_], _ => rfl
  have F_count_and_bits := fun_mk (st := s_count_and_bits) l_count_and_bits co_count_and_bits k_count_and_bits
  have B_count_and_bits := F_count_and_bits.binds (ps := ["flags"]) fun _ _ _ _ _ _ us hl => match us, hl with | [_], _ => rfl
  have F_who_is_in := fun_mk (st := s_who_is_in) l_who_is_in co_who_is_in k_who_is_in
  have B_who_is_in := F_who_is_in.binds (ps := ["station"]) fun _ _ _ _ _ _ us hl => match us, hl with | [_], _ => rfl
  have F_who_is_not_in := fun_mk (st := s_who_is_not_in) l_who_is_not_in co_who_is_not_in k_who_is_not_in
  have B_who_is_not_in := F_who_is_not_in.binds (ps := ["station"]) fun _ _ _ _ _ _ us hl => match us, hl with | [_], _ => rfl
  have F_mu_start := fun_mk (st := s_mu_start) l_mu_start co_mu_start k_mu_start
  have B_mu_start := F_mu_start.binds (ps := ["station", "numbers"]) fun _ _ _ _ _ _ us hl => match us, hl with | [_, _], _ => rfl
  have F_mu_minutes := fun_mk (st := s_mu_minutes) l_mu_minutes co_mu_minutes k_mu_minutes
  have B_mu_minutes := F_mu_minutes.binds (ps := ["station", "numbers"]) fun _ _ _ _ _ _ us hl => match us, hl with | [_, _], _ => rfl
  have F_mu_drill := fun_mk (st := s_mu_drill) l_mu_drill co_mu_drill k_mu_drill
  have B_mu_drill := F_mu_drill.binds (ps := ["station", "numbers"]) fun _ _ _ _ _ _ us hl => match us, hl with | [_, _], _ => rfl
  have F_mu_in := fun_mk (st := s_mu_in) l_mu_in co_mu_in k_mu_in
  have B_mu_in := F_mu_in.binds (ps := ["station", "numbers"]) fun _ _ _ _ _ _ us hl => match us, hl with | [_, _], _ => rfl
  have F_mu_tell := fun_mk (st := s_mu_tell) l_mu_tell co_mu_tell k_mu_tell
  have B_mu_tell := F_mu_tell.binds (ps := ["station", "numbers"]) fun _ _ _ _ _ _ us hl => match us, hl with | [_, _], _ => rfl
  have F_mu_hear := fun_mk (st := s_mu_hear) l_mu_hear co_mu_hear k_mu_hear
  have B_mu_hear := F_mu_hear.binds (ps := ["station", "numbers"]) fun _ _ _ _ _ _ us hl => match us, hl with | [_, _], _ => rfl
  have F_mu_where := fun_mk (st := s_mu_where) l_mu_where co_mu_where k_mu_where
  have B_mu_where := F_mu_where.binds (ps := ["station", "numbers"]) fun _ _ _ _ _ _ us hl => match us, hl with | [_, _], _ => rfl
  have F_mu_count := fun_mk (st := s_mu_count) l_mu_count co_mu_count k_mu_count
  have B_mu_count := F_mu_count.binds (ps := ["station", "numbers"]) fun _ _ _ _ _ _ us hl => match us, hl with | [_, _], _ => rfl
  have F_mu_missing := fun_mk (st := s_mu_missing) l_mu_missing co_mu_missing k_mu_missing
  have B_mu_missing := F_mu_missing.binds (ps := ["station", "numbers"]) fun _ _ _ _ _ _ us hl => match us, hl with | [_, _], _ => rfl
  have F_mu_at := fun_mk (st := s_mu_at) l_mu_at co_mu_at k_mu_at
  have B_mu_at := F_mu_at.binds (ps := ["station", "numbers"]) fun _ _ _ _ _ _ us hl => match us, hl with | [_, _], _ => rfl
  have F_mu_sure := fun_mk (st := s_mu_sure) l_mu_sure co_mu_sure k_mu_sure
  have B_mu_sure := F_mu_sure.binds (ps := ["station", "numbers"]) fun _ _ _ _ _ _ us hl => match us, hl with | [_, _], _ => rfl
  have F_mu_news := fun_mk (st := s_mu_news) l_mu_news co_mu_news k_mu_news
  have B_mu_news := F_mu_news.binds (ps := ["station", "numbers"]) fun _ _ _ _ _ _ us hl => match us, hl with | [_, _], _ => rfl
  have F_mu_soonest := fun_mk (st := s_mu_soonest) l_mu_soonest co_mu_soonest k_mu_soonest
  have B_mu_soonest := F_mu_soonest.binds (ps := ["station", "numbers"]) fun _ _ _ _ _ _ us hl => match us, hl with | [_, _], _ => rfl
  have F_mu_new := fun_mk (st := s_mu_new) l_mu_new co_mu_new k_mu_new
  have B_mu_new := F_mu_new.binds (ps := ["station", "numbers"]) fun _ _ _ _ _ _ us hl => match us, hl with | [_, _], _ => rfl
  have F_mu_last := fun_mk (st := s_mu_last) l_mu_last co_mu_last k_mu_last
  have B_mu_last := F_mu_last.binds (ps := ["station", "numbers"]) fun _ _ _ _ _ _ us hl => match us, hl with | [_, _], _ => rfl
  have F_mu_which := fun_mk (st := s_mu_which) l_mu_which co_mu_which k_mu_which
  have B_mu_which := F_mu_which.binds (ps := ["station", "numbers"]) fun _ _ _ _ _ _ us hl => match us, hl with | [_, _], _ => rfl
  have F_mu_state := fun_mk (st := s_mu_state) l_mu_state co_mu_state k_mu_state
  have B_mu_state := F_mu_state.binds (ps := ["station", "numbers"]) fun _ _ _ _ _ _ us hl => match us, hl with | [_, _], _ => rfl
  have F_end_of_call := fun_mk (st := s_end_of_call) l_end_of_call co_end_of_call k_end_of_call
  have B_end_of_call := F_end_of_call.binds (ps := ["calls", "place"]) fun _ _ _ _ _ _ us hl => match us, hl with | [_, _], _ => rfl
  have F_answers := fun_mk (st := s_answers) l_answers co_answers k_answers
  have B_answers := F_answers.binds (ps := ["calls"]) fun _ _ _ _ _ _ us hl => match us, hl with | [_], _ => rfl
  have E : Env K mg C := { STATIONS := ⟨_, PySem.W.mg_of X G v_STATIONS⟩, PERSONS := ⟨_, PySem.W.mg_of X G v_PERSONS⟩, LAST_MINUTE := ⟨_, PySem.W.mg_of X G v_LAST_MINUTE⟩, LAST_DRILL := ⟨_, PySem.W.mg_of X G v_LAST_DRILL⟩, MOST_HEARD := ⟨_, PySem.W.mg_of X G v_MOST_HEARD⟩, MOST_AT_ONCE := ⟨_, PySem.W.mg_of X G v_MOST_AT_ONCE⟩, b_all := PySem.W.mg_none_of X G b_all, b_len := PySem.W.mg_none_of X G b_len, b_list := PySem.W.mg_none_of X G b_list, b_max := PySem.W.mg_none_of X G b_max, b_min := PySem.W.mg_none_of X G b_min, b_range := PySem.W.mg_none_of X G b_range, b_sum := PySem.W.mg_none_of X G b_sum, cls := ⟨pg, hd, po, sa⟩, n_me := n_me, n_minute := n_minute, n_heard := n_heard, n_drill := n_drill, n_known := n_known, n_others := n_others }
  have g_CALLS := PySem.W.mg_of X G ns_CALLS
  have s_CALLS : ∀ H, SqT K H a_CALLS (([f_mu_start, f_mu_minutes, f_mu_drill, f_mu_in, f_mu_tell, f_mu_hear, f_mu_where, f_mu_count, f_mu_missing, f_mu_at, f_mu_sure, f_mu_news, f_mu_soonest, f_mu_new, f_mu_last, f_mu_which, f_mu_state] : List Addr).map V.ref) := fun H => .inr ⟨_, _, _, lk_CALLS, rfl, rfl, by show 17 ≤ sizeLine; decide, (.cons rfl (.cons rfl (.cons rfl (.cons rfl (.cons rfl (.cons rfl (.cons rfl (.cons rfl (.cons rfl (.cons rfl (.cons rfl (.cons rfl (.cons rfl (.cons rfl (.cons rfl (.cons rfl (.cons rfl .nil)))))))))))))))))⟩
  have g_WHOLE_NUMBERS := PySem.W.mg_of X G ns_WHOLE_NUMBERS
  have s_WHOLE_NUMBERS : ∀ H, SqT K H a_WHOLE_NUMBERS (vN [1, 1, 0, 1, 0, 0, 1, 0, 0, 1, 2, 1, 1, 0, 0, 0, 0]) := fun H => .inr ⟨_, _, _, lk_WHOLE_NUMBERS, rfl, rfl, by show 17 ≤ sizeLine; decide, (.cons ⟨_, rfl⟩ (.cons ⟨_, rfl⟩ (.cons ⟨_, rfl⟩ (.cons ⟨_, rfl⟩ (.cons ⟨_, rfl⟩ (.cons ⟨_, rfl⟩ (.cons ⟨_, rfl⟩ (.cons ⟨_, rfl⟩ (.cons ⟨_, rfl⟩ (.cons ⟨_, rfl⟩ (.cons ⟨_, rfl⟩ (.cons ⟨_, rfl⟩ (.cons ⟨_, rfl⟩ (.cons ⟨_, rfl⟩ (.cons ⟨_, rfl⟩ (.cons ⟨_, rfl⟩ (.cons ⟨_, rfl⟩ .nil)))))))))))))))))⟩
  have g_ROWS := PySem.W.mg_of X G ns_ROWS
  have s_ROWS : ∀ H, SqT K H a_ROWS (vN [0, 0, 0, 0, 0, 1, 0, 0, 0, 0, 0, 0, 0, 1, 0, 0, 0]) := fun H => .inr ⟨_, _, _, lk_ROWS, rfl, rfl, by show 17 ≤ sizeLine; decide, (.cons ⟨_, rfl⟩ (.cons ⟨_, rfl⟩ (.cons ⟨_, rfl⟩ (.cons ⟨_, rfl⟩ (.cons ⟨_, rfl⟩ (.cons ⟨_, rfl⟩ (.cons ⟨_, rfl⟩ (.cons ⟨_, rfl⟩ (.cons ⟨_, rfl⟩ (.cons ⟨_, rfl⟩ (.cons ⟨_, rfl⟩ (.cons ⟨_, rfl⟩ (.cons ⟨_, rfl⟩ (.cons ⟨_, rfl⟩ (.cons ⟨_, rfl⟩ (.cons ⟨_, rfl⟩ (.cons ⟨_, rfl⟩ .nil)))))))))))))))))⟩
  have e := hfa.symm.trans (PySem.W.mg_of X G a_answers)
  cases e
  refine ⟨PySem.W.fnOf "answers" "answers" (defArgs s_answers) (defBody s_answers) (defScope s_answers) .none kV_answers dc_answers pm_answers an_answers cd_answers ct_answers, fun s us hu => match us, hu with | [_], _ => .of_eq rfl, fun base _ _ => ?_⟩
  have c_told_drill : Cal P w K mg base 1 "told_drill" (sp_told_drill K) := ⟨_, _, _, ok_told_drill  F_told_drill, PySem.W.mg_of X G a_told_drill, k_told_drill, B_told_drill⟩
  have c_told_persons : Cal P w K mg base 1 "told_persons" (sp_told_persons K) := ⟨_, _, _, ok_told_persons E F_told_persons, PySem.W.mg_of X G a_told_persons, k_told_persons, B_told_persons⟩
  have c_told_news : Cal P w K mg base 1 "told_news" (sp_told_news K) := ⟨_, _, _, ok_told_news E F_told_news, PySem.W.mg_of X G a_told_news, k_told_news, B_told_news⟩
  have c_coming_in : Cal P w K mg base 1 "coming_in" (sp_coming_in) := ⟨_, _, _, ok_coming_in  F_coming_in, PySem.W.mg_of X G a_coming_in, k_coming_in, B_coming_in⟩
  have c_minute_of : Cal P w K mg base 1 "minute_of" (sp_minute_of) := ⟨_, _, _, ok_minute_of  F_minute_of, PySem.W.mg_of X G a_minute_of, k_minute_of, B_minute_of⟩
  have c_station_of : Cal P w K mg base 1 "station_of" (sp_station_of) := ⟨_, _, _, ok_station_of  F_station_of, PySem.W.mg_of X G a_station_of, k_station_of, B_station_of⟩
  have c_is_minute : Cal P w K mg base 1 "is_minute" (sp_is_minute) := ⟨_, _, _, ok_is_minute E F_is_minute, PySem.W.mg_of X G a_is_minute, k_is_minute, B_is_minute⟩
  have c_Station_enter_drill : Met P w K mg base 1 C "enter_drill" (sp_enter_drill C) := ⟨_, _, _, ⟨pg, hd, po, sa⟩, ⟨a_Station_enter_drill, i_Station_enter_drill, k_Station_enter_drill⟩, ok_enter_drill E F_Station_enter_drill, B_Station_enter_drill⟩
  have c_Station_news : Met P w K mg base 1 C "news" (sp_news C) := ⟨_, _, _, ⟨pg, hd, po, sa⟩, ⟨a_Station_news, i_Station_news, k_Station_news⟩, ok_news E F_Station_news, B_Station_news⟩
  have c_Station_learn_persons : Met P w K mg base 1 C "learn_persons" (sp_learn_persons C) := ⟨_, _, _, ⟨pg, hd, po, sa⟩, ⟨a_Station_learn_persons, i_Station_learn_persons, k_Station_learn_persons⟩, ok_learn_persons E F_Station_learn_persons, B_Station_learn_persons⟩
  have c_Station_learn_news : Met P w K mg base 1 C "learn_news" (sp_learn_news C) := ⟨_, _, _, ⟨pg, hd, po, sa⟩, ⟨a_Station_learn_news, i_Station_learn_news, k_Station_learn_news⟩, ok_learn_news E F_Station_learn_news, B_Station_learn_news⟩
  have c_is_person : Cal P w K mg base 1 "is_person" (sp_is_person) := ⟨_, _, _, ok_is_person E F_is_person, PySem.W.mg_of X G a_is_person, k_is_person, B_is_person⟩
  have c_is_station : Cal P w K mg base 1 "is_station" (sp_is_station) := ⟨_, _, _, ok_is_station E F_is_station, PySem.W.mg_of X G a_is_station, k_is_station, B_is_station⟩
  have c_is_some_stations : Cal P w K mg base 1 "is_some_stations" (sp_is_some_stations) := ⟨_, _, _, ok_is_some_stations E F_is_some_stations, PySem.W.mg_of X G a_is_some_stations, k_is_some_stations, B_is_some_stations⟩
  have c_message_in : Cal P w K mg base 1 "message_in" (sp_message_in K) := ⟨_, _, _, ok_message_in  F_message_in, PySem.W.mg_of X G a_message_in, k_message_in, B_message_in⟩
  have c_count_and_bits : Cal P w K mg base 1 "count_and_bits" (sp_count_and_bits K) := ⟨_, _, _, ok_count_and_bits  F_count_and_bits, PySem.W.mg_of X G a_count_and_bits, k_count_and_bits, B_count_and_bits⟩
  have c_mu_minutes : Cal P w K mg base 1 "mu_minutes" (sp_mu C 1) := ⟨_, _, _, ok_mu_minutes E F_mu_minutes, PySem.W.mg_of X G a_mu_minutes, k_mu_minutes, B_mu_minutes⟩
  have c_mu_which : Cal P w K mg base 1 "mu_which" (sp_mu C 15) := ⟨_, _, _, ok_mu_which E F_mu_which, PySem.W.mg_of X G a_mu_which, k_mu_which, B_mu_which⟩
  have c_mu_state : Cal P w K mg base 1 "mu_state" (sp_mu C 16) := ⟨_, _, _, ok_mu_state E F_mu_state, PySem.W.mg_of X G a_mu_state, k_mu_state, B_mu_state⟩
  have c_end_of_call : Cal P w K mg base 1 "end_of_call" (sp_end_of_call K) := ⟨_, _, _, ok_end_of_call g_WHOLE_NUMBERS g_ROWS s_WHOLE_NUMBERS s_ROWS F_end_of_call, PySem.W.mg_of X G a_end_of_call, k_end_of_call, B_end_of_call⟩
  have c_is_person_good : Cal P w K mg base 2 "is_person_good" (sp_is_person_good) := ⟨_, _, _, ok_is_person_good E c_station_of c_minute_of c_is_minute F_is_person_good, PySem.W.mg_of X G a_is_person_good, k_is_person_good, B_is_person_good⟩
  have c_Station_begin : Met P w K mg base 2 C "begin" (sp_begin C) := ⟨_, _, _, ⟨pg, hd, po, sa⟩, ⟨a_Station_begin, i_Station_begin, k_Station_begin⟩, ok_begin E c_Station_enter_drill F_Station_begin, B_Station_begin⟩
  have c_Station_here_and_now : Met P w K mg base 2 C "here_and_now" (sp_here_and_now C) := ⟨_, _, _, ⟨pg, hd, po, sa⟩, ⟨a_Station_here_and_now, i_Station_here_and_now, k_Station_here_and_now⟩, ok_here_and_now E c_coming_in F_Station_here_and_now, B_Station_here_and_now⟩
  have c_Station_message_now : Met P w K mg base 2 C "message_now" (sp_message_now C) := ⟨_, _, _, ⟨pg, hd, po, sa⟩, ⟨a_Station_message_now, i_Station_message_now, k_Station_message_now⟩, ok_message_now E c_Station_news F_Station_message_now, B_Station_message_now⟩
  have c_Station_would_learn : Met P w K mg base 2 C "would_learn" (sp_would_learn C) := ⟨_, _, _, ⟨pg, hd, po, sa⟩, ⟨a_Station_would_learn, i_Station_would_learn, k_Station_would_learn⟩, ok_would_learn E c_told_drill c_told_persons F_Station_would_learn, B_Station_would_learn⟩
  have c_who_is_in : Cal P w K mg base 2 "who_is_in" (sp_who_is_in C) := ⟨_, _, _, ok_who_is_in E c_count_and_bits F_who_is_in, PySem.W.mg_of X G a_who_is_in, k_who_is_in, B_who_is_in⟩
  have c_who_is_not_in : Cal P w K mg base 2 "who_is_not_in" (sp_who_is_not_in C) := ⟨_, _, _, ok_who_is_not_in E c_count_and_bits F_who_is_not_in, PySem.W.mg_of X G a_who_is_not_in, k_who_is_not_in, B_who_is_not_in⟩
  have c_mu_drill : Cal P w K mg base 2 "mu_drill" (sp_mu C 2) := ⟨_, _, _, ok_mu_drill E c_Station_enter_drill F_mu_drill, PySem.W.mg_of X G a_mu_drill, k_mu_drill, B_mu_drill⟩
  have c_mu_where : Cal P w K mg base 2 "mu_where" (sp_mu C 6) := ⟨_, _, _, ok_mu_where E c_is_person c_station_of c_minute_of F_mu_where, PySem.W.mg_of X G a_mu_where, k_mu_where, B_mu_where⟩
  have c_mu_at : Cal P w K mg base 2 "mu_at" (sp_mu C 9) := ⟨_, _, _, ok_mu_at E c_is_station c_station_of c_count_and_bits F_mu_at, PySem.W.mg_of X G a_mu_at, k_mu_at, B_mu_at⟩
  have c_mu_news : Cal P w K mg base 2 "mu_news" (sp_mu C 11) := ⟨_, _, _, ok_mu_news E c_is_station c_Station_news F_mu_news, PySem.W.mg_of X G a_mu_news, k_mu_news, B_mu_news⟩
  have c_mu_soonest : Cal P w K mg base 2 "mu_soonest" (sp_mu C 12) := ⟨_, _, _, ok_mu_soonest E c_is_some_stations c_Station_news c_count_and_bits F_mu_soonest, PySem.W.mg_of X G a_mu_soonest, k_mu_soonest, B_mu_soonest⟩
  have c_mu_last : Cal P w K mg base 2 "mu_last" (sp_mu C 14) := ⟨_, _, _, ok_mu_last E c_minute_of c_station_of F_mu_last, PySem.W.mg_of X G a_mu_last, k_mu_last, B_mu_last⟩
  have c_is_good : Cal P w K mg base 3 "is_good" (sp_is_good K) := ⟨_, _, _, ok_is_good E c_told_drill c_told_persons c_told_news c_is_person_good c_is_minute F_is_good, PySem.W.mg_of X G a_is_good, k_is_good, B_is_good⟩
  have c_Station : Mak P w K mg base 3 "Station" C (sp_init C) := ⟨_, _, _, ⟨mk, a_Station_init, i_Station_init, kc⟩, ok_init E c_Station_begin F_Station_init, PySem.W.mg_of X G aC, B_Station_init⟩
  have c_Station_hear : Met P w K mg base 3 C "hear" (sp_hear C) := ⟨_, _, _, ⟨pg, hd, po, sa⟩, ⟨a_Station_hear, i_Station_hear, k_Station_hear⟩, ok_hear E c_told_drill c_told_persons c_told_news c_Station_would_learn c_Station_enter_drill c_Station_learn_news c_Station_learn_persons F_Station_hear, B_Station_hear⟩
  have c_mu_start : Cal P w K mg base 3 "mu_start" (sp_mu C 0) := ⟨_, _, _, ok_mu_start E c_is_station c_Station_begin F_mu_start, PySem.W.mg_of X G a_mu_start, k_mu_start, B_mu_start⟩
  have c_mu_in : Cal P w K mg base 3 "mu_in" (sp_mu C 3) := ⟨_, _, _, ok_mu_in E c_is_person c_Station_here_and_now F_mu_in, PySem.W.mg_of X G a_mu_in, k_mu_in, B_mu_in⟩
  have c_mu_tell : Cal P w K mg base 3 "mu_tell" (sp_mu C 4) := ⟨_, _, _, ok_mu_tell E c_who_is_in c_Station_message_now F_mu_tell, PySem.W.mg_of X G a_mu_tell, k_mu_tell, B_mu_tell⟩
  have c_mu_count : Cal P w K mg base 3 "mu_count" (sp_mu C 7) := ⟨_, _, _, ok_mu_count c_who_is_in F_mu_count, PySem.W.mg_of X G a_mu_count, k_mu_count, B_mu_count⟩
  have c_mu_missing : Cal P w K mg base 3 "mu_missing" (sp_mu C 8) := ⟨_, _, _, ok_mu_missing E c_who_is_not_in F_mu_missing, PySem.W.mg_of X G a_mu_missing, k_mu_missing, B_mu_missing⟩
  have c_mu_sure : Cal P w K mg base 3 "mu_sure" (sp_mu C 10) := ⟨_, _, _, ok_mu_sure E c_is_some_stations c_is_minute c_Station_news c_who_is_not_in F_mu_sure, PySem.W.mg_of X G a_mu_sure, k_mu_sure, B_mu_sure⟩
  have c_mu_hear : Cal P w K mg base 4 "mu_hear" (sp_mu C 5) := ⟨_, _, _, ok_mu_hear E c_message_in c_is_good c_Station_hear F_mu_hear, PySem.W.mg_of X G a_mu_hear, k_mu_hear, B_mu_hear⟩
  have c_mu_new : Cal P w K mg base 4 "mu_new" (sp_mu C 13) := ⟨_, _, _, ok_mu_new E c_message_in c_is_good c_Station_would_learn F_mu_new, PySem.W.mg_of X G a_mu_new, k_mu_new, B_mu_new⟩
  refine ok_answers E c_Station c_end_of_call g_CALLS s_CALLS rfl (fun p f hpf => ?_) F_answers
  match p, hpf with
  | 0, hpf => cases hpf; exact ⟨⟨_, _, (ok_mu_start E c_is_station c_Station_begin F_mu_start).mono (by decide), k_mu_start, B_mu_start⟩⟩
  | 1, hpf => cases hpf; exact ⟨⟨_, _, (ok_mu_minutes E F_mu_minutes).mono (by decide), k_mu_minutes, B_mu_minutes⟩⟩
  | 2, hpf => cases hpf; exact ⟨⟨_, _, (ok_mu_drill E c_Station_enter_drill F_mu_drill).mono (by decide), k_mu_drill, B_mu_drill⟩⟩
  | 3, hpf => cases hpf; exact ⟨⟨_, _, (ok_mu_in E c_is_person c_Station_here_and_now F_mu_in).mono (by decide), k_mu_in, B_mu_in⟩⟩
  | 4, hpf => cases hpf; exact ⟨⟨_, _, (ok_mu_tell E c_who_is_in c_Station_message_now F_mu_tell).mono (by decide), k_mu_tell, B_mu_tell⟩⟩
  | 5, hpf => cases hpf; exact ⟨⟨_, _, (ok_mu_hear E c_message_in c_is_good c_Station_hear F_mu_hear).mono (by decide), k_mu_hear, B_mu_hear⟩⟩
  | 6, hpf => cases hpf; exact ⟨⟨_, _, (ok_mu_where E c_is_person c_station_of c_minute_of F_mu_where).mono (by decide), k_mu_where, B_mu_where⟩⟩
  | 7, hpf => cases hpf; exact ⟨⟨_, _, (ok_mu_count c_who_is_in F_mu_count).mono (by decide), k_mu_count, B_mu_count⟩⟩
  | 8, hpf => cases hpf; exact ⟨⟨_, _, (ok_mu_missing E c_who_is_not_in F_mu_missing).mono (by decide), k_mu_missing, B_mu_missing⟩⟩
  | 9, hpf => cases hpf; exact ⟨⟨_, _, (ok_mu_at E c_is_station c_station_of c_count_and_bits F_mu_at).mono (by decide), k_mu_at, B_mu_at⟩⟩
  | 10, hpf => cases hpf; exact ⟨⟨_, _, (ok_mu_sure E c_is_some_stations c_is_minute c_Station_news c_who_is_not_in F_mu_sure).mono (by decide), k_mu_sure, B_mu_sure⟩⟩
  | 11, hpf => cases hpf; exact ⟨⟨_, _, (ok_mu_news E c_is_station c_Station_news F_mu_news).mono (by decide), k_mu_news, B_mu_news⟩⟩
  | 12, hpf => cases hpf; exact ⟨⟨_, _, (ok_mu_soonest E c_is_some_stations c_Station_news c_count_and_bits F_mu_soonest).mono (by decide), k_mu_soonest, B_mu_soonest⟩⟩
  | 13, hpf => cases hpf; exact ⟨⟨_, _, (ok_mu_new E c_message_in c_is_good c_Station_would_learn F_mu_new).mono (by decide), k_mu_new, B_mu_new⟩⟩
  | 14, hpf => cases hpf; exact ⟨⟨_, _, (ok_mu_last E c_minute_of c_station_of F_mu_last).mono (by decide), k_mu_last, B_mu_last⟩⟩
  | 15, hpf => cases hpf; exact ⟨⟨_, _, (ok_mu_which E F_mu_which).mono (by decide), k_mu_which, B_mu_which⟩⟩
  | 16, hpf => cases hpf; exact ⟨⟨_, _, (ok_mu_state E F_mu_state).mono (by decide), k_mu_state, B_mu_state⟩⟩
  | p + 17, hpf => exact absurd (List.getElem?_eq_some_iff.mp hpf).1 (by show ¬ p + 17 < 17; omega)
end Sm
open PySem PySem.W PyProof.Rows
set_option maxRecDepth 100000 in
set_option maxHeartbeats 16000000 in
theorem PySem.Challenge.cw_shipmuster_s01_answers_holds : PySem.Challenge.rw_shipmuster_s01_answers.Holds := by
  w_on; k_headS; (case hw => exact ⟨[.list [.int 0, .int 0, .int 0]], by decide +kernel, by decide +kernel⟩)
  k_fillS
  refine L2.walk_specK (r := PySem.Challenge.rw_shipmuster_s01_answers) (k := 5) (CX := L2.CX0) (ps := ["calls"]) (sp := Sm.sp_answers) (by decide +kernel) rfl rfl ⟨rfl, by decide, by decide⟩ (fun w h Y => PySem.W.kIn_of Y) ?F ?S (fun _ _ _ _ z => z)
  case F =>
    intro w mg fa h Y KX G hmg
    refine' Sm.all_mk KX G hmg ?aC ?a_told_drill ?l_told_drill ?co_told_drill ?k_told_drill ?a_told_persons ?l_told_persons ?co_told_persons ?k_told_persons ?a_told_news ?l_told_news ?co_told_news ?k_told_news ?a_coming_in ?l_coming_in ?co_coming_in ?k_coming_in ?a_minute_of ?l_minute_of ?co_minute_of ?k_minute_of ?a_station_of ?l_station_of ?co_station_of ?k_station_of ?a_is_minute ?l_is_minute ?co_is_minute ?k_is_minute ?a_is_person_good ?l_is_person_good ?co_is_person_good ?k_is_person_good ?a_is_good ?l_is_good ?co_is_good ?k_is_good ?a_Station_init ?i_Station_init ?l_Station_init ?co_Station_init ?k_Station_init ?a_Station_begin ?i_Station_begin ?l_Station_begin ?co_Station_begin ?k_Station_begin ?a_Station_enter_drill ?i_Station_enter_drill ?l_Station_enter_drill ?co_Station_enter_drill ?k_Station_enter_drill ?a_Station_here_and_now ?i_Station_here_and_now ?l_Station_here_and_now ?co_Station_here_and_now ?k_Station_here_and_now ?a_Station_news ?i_Station_news ?l_Station_news ?co_Station_news ?k_Station_news ?a_Station_message_now ?i_Station_message_now ?l_Station_message_now ?co_Station_message_now ?k_Station_message_now ?a_Station_would_learn ?i_Station_would_learn ?l_Station_would_learn ?co_Station_would_learn ?k_Station_would_learn ?a_Station_hear ?i_Station_hear ?l_Station_hear ?co_Station_hear ?k_Station_hear ?a_Station_learn_persons ?i_Station_learn_persons ?l_Station_learn_persons ?co_Station_learn_persons ?k_Station_learn_persons ?a_Station_learn_news ?i_Station_learn_news ?l_Station_learn_news ?co_Station_learn_news ?k_Station_learn_news ?a_is_person ?l_is_person ?co_is_person ?k_is_person ?a_is_station ?l_is_station ?co_is_station ?k_is_station ?a_is_some_stations ?l_is_some_stations ?co_is_some_stations ?k_is_some_stations ?a_message_in ?l_message_in ?co_message_in ?k_message_in ?a_count_and_bits ?l_count_and_bits ?co_count_and_bits ?k_count_and_bits ?a_who_is_in ?l_who_is_in ?co_who_is_in ?k_who_is_in ?a_who_is_not_in ?l_who_is_not_in ?co_who_is_not_in ?k_who_is_not_in ?a_mu_start ?l_mu_start ?co_mu_start ?k_mu_start ?a_mu_minutes ?l_mu_minutes ?co_mu_minutes ?k_mu_minutes ?a_mu_drill ?l_mu_drill ?co_mu_drill ?k_mu_drill ?a_mu_in ?l_mu_in ?co_mu_in ?k_mu_in ?a_mu_tell ?l_mu_tell ?co_mu_tell ?k_mu_tell ?a_mu_hear ?l_mu_hear ?co_mu_hear ?k_mu_hear ?a_mu_where ?l_mu_where ?co_mu_where ?k_mu_where ?a_mu_count ?l_mu_count ?co_mu_count ?k_mu_count ?a_mu_missing ?l_mu_missing ?co_mu_missing ?k_mu_missing ?a_mu_at ?l_mu_at ?co_mu_at ?k_mu_at ?a_mu_sure ?l_mu_sure ?co_mu_sure ?k_mu_sure ?a_mu_news ?l_mu_news ?co_mu_news ?k_mu_news ?a_mu_soonest ?l_mu_soonest ?co_mu_soonest ?k_mu_soonest ?a_mu_new ?l_mu_new ?co_mu_new ?k_mu_new ?a_mu_last ?l_mu_last ?co_mu_last ?k_mu_last ?a_mu_which ?l_mu_which ?co_mu_which ?k_mu_which ?a_mu_state ?l_mu_state ?co_mu_state ?k_mu_state ?a_end_of_call ?l_end_of_call ?co_end_of_call ?k_end_of_call ?a_answers ?l_answers ?co_answers ?k_answers ?v_STATIONS ?v_PERSONS ?v_LAST_MINUTE ?v_LAST_DRILL ?v_MOST_HEARD ?v_MOST_AT_ONCE ?b_all ?b_len ?b_list ?b_max ?b_min ?b_range ?b_sum ?ns_CALLS ?lk_CALLS ?ns_WHOLE_NUMBERS ?lk_WHOLE_NUMBERS ?ns_ROWS ?lk_ROWS ?pg ?hd ?po ?sa ?mk ?kc ?n_me ?n_minute ?n_heard ?n_drill ?n_known ?n_others
    (case aC => k_is)
    (case a_told_drill => k_is)
    (case l_told_drill => k_is)
    (case co_told_drill => k_is)
    (case k_told_drill => k_is)
    (case a_told_persons => k_is)
    (case l_told_persons => k_is)
    (case co_told_persons => k_is)
    (case k_told_persons => k_is)
    (case a_told_news => k_is)
    (case l_told_news => k_is)
    (case co_told_news => k_is)
    (case k_told_news => k_is)
    (case a_coming_in => k_is)
    (case l_coming_in => k_is)
    (case co_coming_in => k_is)
    (case k_coming_in => k_is)
    (case a_minute_of => k_is)
    (case l_minute_of => k_is)
    (case co_minute_of => k_is)
    (case k_minute_of => k_is)
    (case a_station_of => k_is)
    (case l_station_of => k_is)
    (case co_station_of => k_is)
    (case k_station_of => k_is)
    (case a_is_minute => k_is)
    (case l_is_minute => k_is)
    (case co_is_minute => k_is)
    (case k_is_minute => k_is)
    (case a_is_person_good => k_is)
    (case l_is_person_good => k_is)
    (case co_is_person_good => k_is)
    (case k_is_person_good => k_is)
    (case a_is_good => k_is)
    (case l_is_good => k_is)
    (case co_is_good => k_is)
    (case k_is_good => k_is)
    (case a_Station_init => k_is)
    (case i_Station_init => k_is)
    (case l_Station_init => k_is)
    (case co_Station_init => k_is)
    (case k_Station_init => k_is)
    (case a_Station_begin => k_is)
    (case i_Station_begin => k_is)
    (case l_Station_begin => k_is)
    (case co_Station_begin => k_is)
    (case k_Station_begin => k_is)
    (case a_Station_enter_drill => k_is)
    (case i_Station_enter_drill => k_is)
    (case l_Station_enter_drill => k_is)
    (case co_Station_enter_drill => k_is)
    (case k_Station_enter_drill => k_is)
    (case a_Station_here_and_now => k_is)
    (case i_Station_here_and_now => k_is)
    (case l_Station_here_and_now => k_is)
    (case co_Station_here_and_now => k_is)
    (case k_Station_here_and_now => k_is)
    (case a_Station_news => k_is)
    (case i_Station_news => k_is)
    (case l_Station_news => k_is)
    (case co_Station_news => k_is)
    (case k_Station_news => k_is)
    (case a_Station_message_now => k_is)
    (case i_Station_message_now => k_is)
    (case l_Station_message_now => k_is)
    (case co_Station_message_now => k_is)
    (case k_Station_message_now => k_is)
    (case a_Station_would_learn => k_is)
    (case i_Station_would_learn => k_is)
    (case l_Station_would_learn => k_is)
    (case co_Station_would_learn => k_is)
    (case k_Station_would_learn => k_is)
    (case a_Station_hear => k_is)
    (case i_Station_hear => k_is)
    (case l_Station_hear => k_is)
    (case co_Station_hear => k_is)
    (case k_Station_hear => k_is)
    (case a_Station_learn_persons => k_is)
    (case i_Station_learn_persons => k_is)
    (case l_Station_learn_persons => k_is)
    (case co_Station_learn_persons => k_is)
    (case k_Station_learn_persons => k_is)
    (case a_Station_learn_news => k_is)
    (case i_Station_learn_news => k_is)
    (case l_Station_learn_news => k_is)
    (case co_Station_learn_news => k_is)
    (case k_Station_learn_news => k_is)
    (case a_is_person => k_is)
    (case l_is_person => k_is)
    (case co_is_person => k_is)
    (case k_is_person => k_is)
    (case a_is_station => k_is)
    (case l_is_station => k_is)
    (case co_is_station => k_is)
    (case k_is_station => k_is)
    (case a_is_some_stations => k_is)
    (case l_is_some_stations => k_is)
    (case co_is_some_stations => k_is)
    (case k_is_some_stations => k_is)
    (case a_message_in => k_is)
    (case l_message_in => k_is)
    (case co_message_in => k_is)
    (case k_message_in => k_is)
    (case a_count_and_bits => k_is)
    (case l_count_and_bits => k_is)
    (case co_count_and_bits => k_is)
    (case k_count_and_bits => k_is)
    (case a_who_is_in => k_is)
    (case l_who_is_in => k_is)
    (case co_who_is_in => k_is)
    (case k_who_is_in => k_is)
    (case a_who_is_not_in => k_is)
    (case l_who_is_not_in => k_is)
    (case co_who_is_not_in => k_is)
    (case k_who_is_not_in => k_is)
    (case a_mu_start => k_is)
    (case l_mu_start => k_is)
    (case co_mu_start => k_is)
    (case k_mu_start => k_is)
    (case a_mu_minutes => k_is)
    (case l_mu_minutes => k_is)
    (case co_mu_minutes => k_is)
    (case k_mu_minutes => k_is)
    (case a_mu_drill => k_is)
    (case l_mu_drill => k_is)
    (case co_mu_drill => k_is)
    (case k_mu_drill => k_is)
    (case a_mu_in => k_is)
    (case l_mu_in => k_is)
    (case co_mu_in => k_is)
    (case k_mu_in => k_is)
    (case a_mu_tell => k_is)
    (case l_mu_tell => k_is)
    (case co_mu_tell => k_is)
    (case k_mu_tell => k_is)
    (case a_mu_hear => k_is)
    (case l_mu_hear => k_is)
    (case co_mu_hear => k_is)
    (case k_mu_hear => k_is)
    (case a_mu_where => k_is)
    (case l_mu_where => k_is)
    (case co_mu_where => k_is)
    (case k_mu_where => k_is)
    (case a_mu_count => k_is)
    (case l_mu_count => k_is)
    (case co_mu_count => k_is)
    (case k_mu_count => k_is)
    (case a_mu_missing => k_is)
    (case l_mu_missing => k_is)
    (case co_mu_missing => k_is)
    (case k_mu_missing => k_is)
    (case a_mu_at => k_is)
    (case l_mu_at => k_is)
    (case co_mu_at => k_is)
    (case k_mu_at => k_is)
    (case a_mu_sure => k_is)
    (case l_mu_sure => k_is)
    (case co_mu_sure => k_is)
    (case k_mu_sure => k_is)
    (case a_mu_news => k_is)
    (case l_mu_news => k_is)
    (case co_mu_news => k_is)
    (case k_mu_news => k_is)
    (case a_mu_soonest => k_is)
    (case l_mu_soonest => k_is)
    (case co_mu_soonest => k_is)
    (case k_mu_soonest => k_is)
    (case a_mu_new => k_is)
    (case l_mu_new => k_is)
    (case co_mu_new => k_is)
    (case k_mu_new => k_is)
    (case a_mu_last => k_is)
    (case l_mu_last => k_is)
    (case co_mu_last => k_is)
    (case k_mu_last => k_is)
    (case a_mu_which => k_is)
    (case l_mu_which => k_is)
    (case co_mu_which => k_is)
    (case k_mu_which => k_is)
    (case a_mu_state => k_is)
    (case l_mu_state => k_is)
    (case co_mu_state => k_is)
    (case k_mu_state => k_is)
    (case a_end_of_call => k_is)
    (case l_end_of_call => k_is)
    (case co_end_of_call => k_is)
    (case k_end_of_call => k_is)
    (case a_answers => k_is)
    (case l_answers => k_is)
    (case co_answers => k_is)
    (case k_answers => k_is)
    (case v_STATIONS => k_is)
    (case v_PERSONS => k_is)
    (case v_LAST_MINUTE => k_is)
    (case v_LAST_DRILL => k_is)
    (case v_MOST_HEARD => k_is)
    (case v_MOST_AT_ONCE => k_is)
    (case b_all => k_is)
    (case b_len => k_is)
    (case b_list => k_is)
    (case b_max => k_is)
    (case b_min => k_is)
    (case b_range => k_is)
    (case b_sum => k_is)
    (case ns_CALLS => k_is)
    (case lk_CALLS => k_is)
    (case ns_WHOLE_NUMBERS => k_is)
    (case lk_WHOLE_NUMBERS => k_is)
    (case ns_ROWS => k_is)
    (case lk_ROWS => k_is)
    (case pg => k_is)
    (case hd => k_is)
    (case po => k_is)
    (case sa => k_is)
    (case mk => k_is)
    (case kc => k_is)
    (case n_me => k_is)
    (case n_minute => k_is)
    (case n_heard => k_is)
    (case n_drill => k_is)
    (case n_known => k_is)
    (case n_others => k_is)
  case S =>
    intro K H xs a hO hwi hask hx
    cases hx with
    | cons h1 h2 =>
      cases h2
      cases h1 with
      | lst hs ha =>
        have e := L2.ints_dw a.1 _ ha
        subst e
        have q : ((Codec.inLen 0 25000 a.1 && a.1.all (Codec.inInt 0 4294967295)) && true) = true := hwi
        rw [Bool.and_eq_true, Bool.and_eq_true] at q
        exact ⟨_, a.1, rfl, hs, (Codec.inNat_iff.mp q.1.1).2, hask, fun H' p hp => .lst (L2.SqL.of hp) (L2.dw_ints _)⟩
#print axioms PySem.Challenge.cw_shipmuster_s01_answers_holds

