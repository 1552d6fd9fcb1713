import PyProof.Rows.All
import Wide.All
import OpenK.AllK
import Wide.FinOn
import PyProof.EqAt
import PyProof.EqKinds
import PyProof.TupleCall
import Open.SpecLaws
import KE.OsGo
import HandS.ForSpec
import HandS.ForMost
import HandS.Flt
import HandS.Walk
import PySem.Challenge.RW_camshow_s01_answers
import HandS.ListItems
import HandS.SetFor
import KE.DatumOrd
set_option Elab.async false
namespace Cam
/-! ### Numbers and lists -/
abbrev zs (l : List Nat) : List Int := l.map fun (n : Nat) => (n : Int)
theorem zs_toNat : ∀ (l : List Int), (∀ x ∈ l, 0 ≤ x) → zs (l.map Int.toNat) = l
  | [], _ => rfl
  | x :: r, h => by
    have e : ((x.toNat : Nat) : Int) = x := Int.toNat_of_nonneg (h x (List.mem_cons_self))
    show ((x.toNat : Nat) : Int) :: zs (r.map Int.toNat) = x :: r
    rw [e, zs_toNat r fun y hy => h y (List.mem_cons_of_mem _ hy)]
theorem toNat_zs (l : List Nat) : (zs l).map Int.toNat = l := by
  induction l with
  | nil => rfl
  | cons a r ih => show Int.toNat (a : Int) :: (zs r).map Int.toNat = a :: r; rw [ih, Int.toNat_natCast]
/-! ### One call of the list -/
inductive Turn : Nat → List Int → List (List Int) → List Int → Nat → Prop
  | begins (f : Nat) (x k : Int) (t : List Int) : 0 ≤ k → k.toNat ≤ t.length → Turn (f + 1) (0 :: x :: k :: t) [[0, x], t.take k.toNat] (t.drop k.toNat) f
  | row (f : Nat) (p k : Int) (t : List Int) : (p = 1 ∨ p = 2 ∨ p = 4) → 0 ≤ k → k.toNat ≤ t.length → Turn (f + 1) (p :: k :: t) [[p], t.take k.toNat] (t.drop k.toNat) f
  | moves (f : Nat) (x : Int) (t : List Int) : Turn (f + 1) (3 :: x :: t) [[3, x]] t f
  | bare (f : Nat) (p : Int) (t : List Int) : (p = 5 ∨ p = 6) → Turn (f + 1) (p :: t) [[p]] t f
theorem row_some {l x t : List Int} (h : PyFlat.row l = some (x, t)) : ∃ k r, l = k :: r ∧ 0 ≤ k ∧ k.toNat ≤ r.length ∧ x = r.take k.toNat ∧ t = r.drop k.toNat := by
  cases l with
  | nil => cases h
  | cons k r =>
    unfold PyFlat.row at h
    dsimp only at h
    by_cases c : 0 ≤ k ∧ k.toNat ≤ r.length
    · rw [if_pos c] at h
      injection h with h
      injection h with h1 h2
      exact ⟨k, r, rfl, c.1, c.2, h1.symm, h2.symm⟩
    · rw [if_neg c] at h
      cases h
theorem rows_one {l : List Int} {xs : List (List Int)} {t : List Int} (h : PyFlat.rows 1 l = some (xs, t)) : ∃ k r, l = k :: r ∧ 0 ≤ k ∧ k.toNat ≤ r.length ∧ xs = [r.take k.toNat] ∧ t = r.drop k.toNat := by
  unfold PyFlat.rows at h
  cases e : PyFlat.row l with
  | none => rw [e] at h; cases h
  | some q =>
    obtain ⟨x, s⟩ := q
    rw [e] at h
    unfold PyFlat.rows at h
    injection h with h
    injection h with h1 h2
    obtain ⟨k, r, a, b, c, d, g⟩ := row_some e
    exact ⟨k, r, a, b, c, by rw [← h1, d], by rw [← h2, g]⟩
theorem call_turn {f : Nat} {p : Int} {r t : List Int} {c : List (List Int)} (h : PyFlat.call PyUw44.shape (p :: r) = some (c, t)) : Turn (f + 1) (p :: r) c t f := by
  unfold PyFlat.call at h
  have rowCase : ∀ q : Int, (q = 1 ∨ q = 2 ∨ q = 4) → (if r.length < 0 then none else match PyFlat.rows 1 (r.drop 0) with
      | none => none
      | some (xs, t) => some ((q :: r.take 0) :: xs, t)) = some (c, t) → Turn (f + 1) (q :: r) c t f := by
    intro q hq h
    rw [if_neg (Nat.not_lt_zero _)] at h
    cases e : PyFlat.rows 1 (r.drop 0) with
    | none => rw [e] at h; cases h
    | some z =>
      obtain ⟨xs, t'⟩ := z
      rw [e] at h
      injection h with h
      injection h with h1 h2
      obtain ⟨k, r', a, b, d, g, i⟩ := rows_one e
      rw [List.drop_zero] at a
      subst a g i h1 h2
      exact .row f q k r' hq b d
  have bareCase : ∀ q : Int, (q = 5 ∨ q = 6) → (if r.length < 0 then none else match PyFlat.rows 0 (r.drop 0) with
      | none => none
      | some (xs, t) => some ((q :: r.take 0) :: xs, t)) = some (c, t) → Turn (f + 1) (q :: r) c t f := by
    intro q hq h
    rw [if_neg (Nat.not_lt_zero _)] at h
    unfold PyFlat.rows at h
    injection h with h
    injection h with h1 h2
    rw [List.drop_zero] at h2
    subst h1 h2
    exact .bare f q r hq
  unfold PyUw44.shape at h
  dsimp only at h
  by_cases h0 : p = 0
  · subst h0
    rw [if_pos rfl] at h
    dsimp only at h
    by_cases l : r.length < 1
    · rw [if_pos l] at h; cases h
    · rw [if_neg l] at h
      cases r with
      | nil => exact absurd Nat.zero_lt_one l
      | cons x r =>
        rw [List.drop_succ_cons, List.drop_zero] at h
        cases e : PyFlat.rows 1 r with
        | none => rw [e] at h; cases h
        | some z =>
          obtain ⟨xs, t'⟩ := z
          rw [e] at h
          injection h with h
          injection h with h1 h2
          obtain ⟨k, r', a, b, d, g, i⟩ := rows_one e
          subst a g i h1 h2
          exact .begins f x k r' b d
  rw [if_neg h0] at h
  by_cases h1 : p = 1
  · subst h1; rw [if_pos rfl] at h; exact rowCase 1 (.inl rfl) h
  rw [if_neg h1] at h
  by_cases h2 : p = 2
  · subst h2; rw [if_pos rfl] at h; exact rowCase 2 (.inr (.inl rfl)) h
  rw [if_neg h2] at h
  by_cases h3 : p = 3
  · subst h3
    rw [if_pos rfl] at h
    dsimp only at h
    by_cases l : r.length < 1
    · rw [if_pos l] at h; cases h
    · rw [if_neg l] at h
      cases r with
      | nil => exact absurd Nat.zero_lt_one l
      | cons x r =>
        unfold PyFlat.rows at h
        injection h with h
        injection h with h1 h2
        have h2' : r = t := h2
        have h1' : [[3, x]] = c := h1
        subst h1' h2'
        exact .moves f x r
  rw [if_neg h3] at h
  by_cases h4 : p = 4
  · subst h4; rw [if_pos rfl] at h; exact rowCase 4 (.inr (.inr rfl)) h
  rw [if_neg h4] at h
  by_cases h5 : p = 5
  · subst h5; rw [if_pos rfl] at h; exact bareCase 5 (.inl rfl) h
  rw [if_neg h5] at h
  by_cases h6 : p = 6
  · subst h6; rw [if_pos rfl] at h; exact bareCase 6 (.inr rfl) h
  rw [if_neg h6] at h
  cases h
theorem calls_turn {f : Nat} {p : Int} {r : List Int} {raw : List (List (List Int))} (h : PyFlat.calls PyUw44.shape f (p :: r) = some raw) : ∃ g c t raw', Turn f (p :: r) c t g ∧ raw = c :: raw' ∧ PyFlat.calls PyUw44.shape g t = some raw' := by
  cases f with
  | zero => unfold PyFlat.calls at h; cases h
  | succ f =>
    unfold PyFlat.calls at h
    cases e : PyFlat.call PyUw44.shape (p :: r) with
    | none => rw [e] at h; cases h
    | some z =>
      obtain ⟨c, t⟩ := z
      rw [e] at h
      dsimp only at h
      cases e2 : PyFlat.calls PyUw44.shape f t with
      | none => rw [e2] at h; cases h
      | some cs =>
        rw [e2] at h
        injection h with h
        exact ⟨f, c, t, cs, call_turn e, h.symm, e2⟩
theorem calls_nil {f : Nat} {raw : List (List (List Int))} (h : PyFlat.calls PyUw44.shape f [] = some raw) : raw = [] := by
  cases f <;> (unfold PyFlat.calls at h; injection h with h; exact h.symm)
end Cam
set_option Elab.async false
namespace Cam
/-- a whole number that may be handed in -/
abbrev Few (l : List Nat) : Prop := ∀ x ∈ l, x ≤ 4294967295
/-- the list begins with this call; the rest of it -/
inductive Told : List Int → Uw44.Call → List Int → Prop
  | begins (n : Nat) (f : List Nat) (t : List Int) : n ≤ 4294967295 → f.length ≤ 6 → Few f → Told (0 :: (n : Int) :: (f.length : Int) :: (zs f ++ t)) (.begins n f) t
  | cam (r : List Nat) (t : List Int) : r.length ≤ 12 → Few r → Told (1 :: (r.length : Int) :: (zs r ++ t)) (.cam r) t
  | wish (r : List Nat) (t : List Int) : r.length ≤ 12 → Few r → Told (2 :: (r.length : Int) :: (zs r ++ t)) (.wish r) t
  | moves (i : Nat) (t : List Int) : i ≤ 4294967295 → Told (3 :: (i : Int) :: t) (.moves i) t
  | sum (r : List Nat) (t : List Int) : r.length ≤ 12 → Few r → Told (4 :: (r.length : Int) :: (zs r ++ t)) (.sum r) t
  | nearest (t : List Int) : Told (5 :: t) .nearest t
  | best (t : List Int) : Told (6 :: t) .best t
abbrev outs (a : Uw44.Ans) : List Int := Uw44Neutral.out a
/-- what is due of the rest of the list, from a state -/
inductive Due : Uw44.Show → List Int → List Int → Prop
  | nil (s : Uw44.Show) : Due s [] []
  | turn {s : Uw44.Show} {l : List Int} {c : Uw44.Call} {t o : List Int} : Told l c t → Due (Uw44.step s c).1 t o → Due s l (((outs (Uw44.step s c).2).length : Int) :: (outs (Uw44.step s c).2 ++ o))
theorem within_iff {lo hi z : Int} (h : PyInside.within lo hi z = true) : lo ≤ z ∧ z ≤ hi := by
  unfold PyInside.within at h
  rw [Bool.and_eq_true] at h
  exact ⟨of_decide_eq_true h.1, of_decide_eq_true h.2⟩
theorem all_within {l : List Int} (h : l.all (PyInside.within 0 4294967295) = true) : ∃ r : List Nat, l = zs r ∧ Few r := by
  have b : ∀ x ∈ l, 0 ≤ x ∧ x ≤ 4294967295 := fun x hx => within_iff (List.all_eq_true.mp h x hx)
  refine ⟨l.map Int.toNat, (zs_toNat l fun x hx => (b x hx).1).symm, fun y hy => ?_⟩
  obtain ⟨x, hx, e⟩ := List.mem_map.mp hy
  have q := b x hx
  omega
theorem row_told {k : Int} {t : List Int} {m : Nat} (k0 : 0 ≤ k) (kl : k.toNat ≤ t.length) (b : PyInside.lists [(0, 4294967295, 0, m)] [t.take k.toNat] = true) :
    ∃ r : List Nat, t = zs r ++ t.drop k.toNat ∧ t.take k.toNat = zs r ∧ k = (r.length : Int) ∧ r.length ≤ m ∧ Few r := by
  unfold PyInside.lists at b
  rw [Bool.and_eq_true, Bool.and_eq_true, Bool.and_eq_true] at b
  obtain ⟨⟨⟨_, b2⟩, b3⟩, _⟩ := b
  obtain ⟨r, e, fr⟩ := all_within b3
  have lr : r.length = k.toNat := by
    have := congrArg List.length e
    rw [List.length_map, List.length_take] at this
    omega
  have b2' := of_decide_eq_true b2
  rw [List.length_take] at b2'
  refine ⟨r, ?_, e, by omega, by omega, fr⟩
  rw [← e, List.take_append_drop]
theorem nat_zs {r : List Nat} (f : Few r) : (zs r).all Uw44Neutral.nat = true := by
  rw [List.all_eq_true]
  intro x hx
  obtain ⟨n, hn, e⟩ := List.mem_map.mp hx
  have := f n hn
  subst e
  unfold Uw44Neutral.nat
  rw [Bool.and_eq_true]
  exact ⟨decide_eq_true (by omega), decide_eq_true (by omega)⟩
theorem callOf_zs {r : List Nat} (f : Few r) : Uw44Neutral.callOf (zs r) = Uw44Neutral.callIn r := by
  unfold Uw44Neutral.callOf
  rw [nat_zs f, if_neg (by decide), toNat_zs]
theorem turn_told {f g : Nat} {l t : List Int} {c : List (List Int)} (h : Turn f l c t g) (b : PyInside.call PyUw44.bound c = true) :
    ∃ x : Uw44.Call, Told l x t ∧ Uw44Neutral.callOf ((PyUw44.whole c).headD []) = some x := by
  cases h with
  | begins f x k t k0 kl =>
    unfold PyInside.call at b
    dsimp only at b
    rw [Bool.and_eq_true] at b
    obtain ⟨b1, b2⟩ := b
    have b1' : (PyInside.within 0 4294967295 x && true) = true := b1
    rw [Bool.and_true] at b1'
    obtain ⟨x0, x1⟩ := within_iff b1'
    obtain ⟨r, e, e2, ek, lr, fr⟩ := row_told k0 kl b2
    have ex : ((x.toNat : Nat) : Int) = x := Int.toNat_of_nonneg x0
    refine ⟨.begins x.toNat r, ?_, ?_⟩
    · have := Told.begins x.toNat r (t.drop k.toNat) (by omega) lr fr
      rw [ex, ← ek, ← e] at this
      exact this
    · rw [e2]
      have q : (PyUw44.whole [[0, x], zs r]).headD [] = zs (0 :: x.toNat :: r) := by
        show 0 :: x :: zs r = ((0 : Nat) : Int) :: ((x.toNat : Nat) : Int) :: zs r
        rw [ex]
        rfl
      rw [q, callOf_zs]
      · show (if r.length ≤ 6 then some (Uw44.Call.begins x.toNat r) else none) = _
        rw [if_pos lr]
      · intro y hy
        rcases List.mem_cons.mp hy with e | hy
        · omega
        rcases List.mem_cons.mp hy with e | hy
        · omega
        exact fr y hy
  | row f p k t hp k0 kl =>
    rcases hp with rfl | rfl | rfl
    all_goals
      unfold PyInside.call at b
      dsimp only at b
      rw [Bool.and_eq_true] at b
      obtain ⟨b1, b2⟩ := b
      obtain ⟨r, e, e2, ek, lr, fr⟩ := row_told k0 kl b2
    · refine ⟨.cam r, ?_, ?_⟩
      · have := Told.cam r (t.drop k.toNat) lr fr
        rw [← ek, ← e] at this
        exact this
      · rw [e2]
        have q : (PyUw44.whole [[1], zs r]).headD [] = zs (1 :: r) := rfl
        rw [q, callOf_zs]
        · show (if r.length ≤ 12 then some (Uw44.Call.cam r) else none) = _
          rw [if_pos lr]
        · intro y hy
          rcases List.mem_cons.mp hy with e | hy
          · omega
          exact fr y hy
    · refine ⟨.wish r, ?_, ?_⟩
      · have := Told.wish r (t.drop k.toNat) lr fr
        rw [← ek, ← e] at this
        exact this
      · rw [e2]
        have q : (PyUw44.whole [[2], zs r]).headD [] = zs (2 :: r) := rfl
        rw [q, callOf_zs]
        · show (if r.length ≤ 12 then some (Uw44.Call.wish r) else none) = _
          rw [if_pos lr]
        · intro y hy
          rcases List.mem_cons.mp hy with e | hy
          · omega
          exact fr y hy
    · refine ⟨.sum r, ?_, ?_⟩
      · have := Told.sum r (t.drop k.toNat) lr fr
        rw [← ek, ← e] at this
        exact this
      · rw [e2]
        have q : (PyUw44.whole [[4], zs r]).headD [] = zs (4 :: r) := rfl
        rw [q, callOf_zs]
        · show (if r.length ≤ 12 then some (Uw44.Call.sum r) else none) = _
          rw [if_pos lr]
        · intro y hy
          rcases List.mem_cons.mp hy with e | hy
          · omega
          exact fr y hy
  | moves f x t =>
    unfold PyInside.call at b
    dsimp only at b
    rw [Bool.and_eq_true] at b
    obtain ⟨b1, b2⟩ := b
    have b1' : (PyInside.within 0 4294967295 x && true) = true := b1
    rw [Bool.and_true] at b1'
    obtain ⟨x0, x1⟩ := within_iff b1'
    have ex : ((x.toNat : Nat) : Int) = x := Int.toNat_of_nonneg x0
    refine ⟨.moves x.toNat, ?_, ?_⟩
    · have := Told.moves x.toNat t (by omega)
      rw [ex] at this
      exact this
    · have q : (PyUw44.whole [[3, x]]).headD [] = zs [3, x.toNat] := by
        show [3, x] = [((3 : Nat) : Int), ((x.toNat : Nat) : Int)]
        rw [ex]
        rfl
      rw [q, callOf_zs]
      · rfl
      · intro y hy
        rcases List.mem_cons.mp hy with e | hy
        · omega
        rcases List.mem_cons.mp hy with e | hy
        · omega
        cases hy
  | bare f p t hp =>
    rcases hp with rfl | rfl
    · exact ⟨.nearest, .nearest t, rfl⟩
    · exact ⟨.best, .best t, rfl⟩
theorem due_calls : ∀ (raw : List (List (List Int))) (f : Nat) (l : List Int) (s : Uw44.Show), PyFlat.calls PyUw44.shape f l = some raw → PyInside.calls PyUw44.bound raw = true →
    Due s l (PyFlat.told (PyFlat.played (fun s c => Uw44Neutral.step s (c.headD [])) s (raw.map PyUw44.whole)))
  | raw, f, [], s, h, _ => by
    rw [calls_nil h]
    exact .nil s
  | [], f, p :: r, s, h, b => by
    obtain ⟨g, c, t, raw', _, e, _⟩ := calls_turn h
    cases e
  | c0 :: raw0, f, p :: r, s, h, b => by
    obtain ⟨g, c, t, raw', ht, e, h'⟩ := calls_turn h
    injection e with e1 e2
    subst e1 e2
    have b' : (PyInside.call PyUw44.bound c0 && raw0.all (PyInside.call PyUw44.bound)) = true := b
    rw [Bool.and_eq_true] at b'
    obtain ⟨x, hx, ex⟩ := turn_told ht b'.1
    have st : Uw44Neutral.step s ((PyUw44.whole c0).headD []) = ((Uw44.step s x).1, Uw44Neutral.out (Uw44.step s x).2) := by
      unfold Uw44Neutral.step
      rw [ex]
    have ih := due_calls raw0 g t (Uw44.step s x).1 h' b'.2
    have := Due.turn (s := s) hx ih
    unfold PyFlat.told at this ⊢
    rw [List.map_cons]
    unfold PyFlat.played
    rw [List.flatMap_cons, st]
    exact this
theorem asked_due {l : List Int} (h : PyUw44.answers_asked l = true) : Due Uw44.init l (PyUw44.answers l) ∧ (PyUw44.answers l).length ≤ 10000000 := by
  unfold PyUw44.answers_asked at h
  cases e : PyFlat.calls PyUw44.shape l.length l with
  | none => rw [e] at h; cases h
  | some raw =>
    rw [e] at h
    dsimp only at h
    rw [Bool.and_eq_true, Bool.and_eq_true, Bool.and_eq_true] at h
    obtain ⟨⟨⟨_, h3⟩, _⟩, h5⟩ := h
    refine ⟨?_, of_decide_eq_true h5⟩
    have := due_calls raw l.length l Uw44.init e h3
    unfold PyUw44.answers PyUw44.calls
    rw [e]
    exact this
end Cam
set_option Elab.async false
namespace Cam
open Uw44 (Show)
/-- no number of a row is above m -/
abbrev Low (m : Nat) (l : List Nat) : Bool := l.all fun n => decide (n ≤ m)
theorem low_iff {m : Nat} {l : List Nat} : Low m l = true ↔ ∀ x ∈ l, x ≤ m := by
  unfold Low
  rw [List.all_eq_true]
  exact ⟨fun h x hx => of_decide_eq_true (h x hx), fun h x hx => decide_eq_true (h x hx)⟩
/-- what holds of a show at any time -/
structure Fine (s : Show) : Prop where
  p2 : 2 ≤ s.box.places
  p8 : s.box.places ≤ 8
  f1 : 1 ≤ s.foot.length
  f4 : s.foot.length ≤ 4
  fl : ∀ x ∈ s.foot, x ≤ 100
  c4 : s.box.cams.length ≤ 4
  cl : ∀ r ∈ s.box.cams, r.length = s.box.places ∧ ∀ x ∈ r, x ≤ 100
  wl : s.box.wish.length = s.box.places
  wh : ∀ x ∈ s.box.wish, x ≤ 400
  f0 : s.foot.head? = some 0
theorem fine_init : Fine Uw44.init := ⟨by decide, by decide, by decide, by decide, by decide, by decide, (fun r h => nomatch h), rfl, by decide, rfl⟩
def footOk (f : List Nat) : Prop := f.head? = some 0 ∧ f.length ≤ 4 ∧ Low 100 f = true
theorem begins_yes {s : Show} {n : Nat} {f : List Nat} (h2 : 2 ≤ n) (h8 : n ≤ 8) (hf : footOk f) : Uw44.step s (.begins n f) = (⟨f, ⟨n, [], List.replicate n 0⟩⟩, Uw44.ok 0) := by
  obtain ⟨a, b, c⟩ := hf
  have e1 : Uw41.step Uw41.init (.begins f) = (⟨f, [0, 0]⟩, Uw41.ok 0) := by
    show (if f.head? ≠ some 0 ∨ 4 < f.length ∨ Low 100 f = false then _ else _) = _
    rw [if_neg]
    rintro (h | h | h)
    · exact h a
    · omega
    · rw [c] at h; cases h
  have e2 : Uw42.step s.box (.begins n) = (⟨n, [], List.replicate n 0⟩, Uw42.ok 0) := by
    show (if n < 2 ∨ 8 < n then _ else _) = _
    rw [if_neg]
    omega
  show (if (Uw41.step Uw41.init (.begins f)).2.v < 0 ∨ (Uw42.step s.box (.begins n)).2.v < 0 then (s, Uw44.ok (-1)) else (⟨f, (Uw42.step s.box (.begins n)).1⟩, Uw44.ok 0)) = _
  rw [e1, e2]
  rfl
theorem begins_places {s : Show} {n : Nat} {f : List Nat} (h : n < 2 ∨ 8 < n) : Uw44.step s (.begins n f) = (s, Uw44.ok (-1)) := by
  have e2 : Uw42.step s.box (.begins n) = (s.box, Uw42.ok (-1)) := by
    show (if n < 2 ∨ 8 < n then _ else _) = _
    rw [if_pos h]
  show (if (Uw41.step Uw41.init (.begins f)).2.v < 0 ∨ (Uw42.step s.box (.begins n)).2.v < 0 then (s, Uw44.ok (-1)) else (⟨f, (Uw42.step s.box (.begins n)).1⟩, Uw44.ok 0)) = _
  rw [e2, if_pos (.inr (show ((-1 : Int) < 0) by decide))]
theorem begins_foot {s : Show} {n : Nat} {f : List Nat} (h : ¬ footOk f) : Uw44.step s (.begins n f) = (s, Uw44.ok (-1)) := by
  have e1 : Uw41.step Uw41.init (.begins f) = (Uw41.init, Uw41.ok (-1)) := by
    show (if f.head? ≠ some 0 ∨ 4 < f.length ∨ Low 100 f = false then _ else _) = _
    rw [if_pos]
    by_cases a : f.head? = some 0
    · by_cases b : 4 < f.length
      · exact .inr (.inl b)
      · right; right
        cases c : Low 100 f with
        | false => rfl
        | true => exact absurd ⟨a, by omega, c⟩ h
    · exact .inl a
  show (if (Uw41.step Uw41.init (.begins f)).2.v < 0 ∨ (Uw42.step s.box (.begins n)).2.v < 0 then (s, Uw44.ok (-1)) else (⟨f, (Uw42.step s.box (.begins n)).1⟩, Uw44.ok 0)) = _
  rw [e1, if_pos (.inl (by decide))]
/-- a row with a number for each place, none above m -/
def fits (l : List Nat) (places m : Nat) : Bool := l.length == places && Low m l
theorem fits_iff {l : List Nat} {places m : Nat} : fits l places m = true ↔ l.length = places ∧ ∀ x ∈ l, x ≤ m := by
  unfold fits
  rw [Bool.and_eq_true, low_iff, beq_iff_eq]
theorem cam_no {s : Show} {l : List Nat} (h : fits l s.box.places 100 = false) : Uw44.step s (.cam l) = (s, Uw44.ok (-1)) := by
  have e : Uw42.step s.box (.cam l) = (s.box, Uw42.ok (-1)) := by
    show (if fits l s.box.places 100 = false then _ else _) = _
    rw [if_pos h]
  show ({ s with box := (Uw42.step s.box (.cam l)).1 }, Uw44.ok (Uw42.step s.box (.cam l)).2.v) = _
  rw [e]
  rfl
theorem cam_full {s : Show} {l : List Nat} (h : fits l s.box.places 100 = true) (c : 4 ≤ s.box.cams.length) : Uw44.step s (.cam l) = (s, Uw44.ok (-5)) := by
  have e : Uw42.step s.box (.cam l) = (s.box, Uw42.ok (-5)) := by
    show (if fits l s.box.places 100 = false then _ else if 4 ≤ s.box.cams.length then _ else _) = _
    rw [if_neg (by rw [h]; decide), if_pos c]
  show ({ s with box := (Uw42.step s.box (.cam l)).1 }, Uw44.ok (Uw42.step s.box (.cam l)).2.v) = _
  rw [e]
  rfl
theorem cam_yes {s : Show} {l : List Nat} (h : fits l s.box.places 100 = true) (c : s.box.cams.length < 4) : Uw44.step s (.cam l) = ({ s with box := { s.box with cams := s.box.cams ++ [l] } }, Uw44.ok (s.box.cams.length : Nat)) := by
  have e : Uw42.step s.box (.cam l) = ({ s.box with cams := s.box.cams ++ [l] }, Uw42.ok (s.box.cams.length : Nat)) := by
    show (if fits l s.box.places 100 = false then _ else if 4 ≤ s.box.cams.length then _ else _) = _
    rw [if_neg (by rw [h]; decide), if_neg (by omega)]
  show ({ s with box := (Uw42.step s.box (.cam l)).1 }, Uw44.ok (Uw42.step s.box (.cam l)).2.v) = _
  rw [e]
  rfl
theorem wish_no {s : Show} {l : List Nat} (h : fits l s.box.places 400 = false) : Uw44.step s (.wish l) = (s, Uw44.ok (-1)) := by
  have e : Uw42.step s.box (.wish l) = (s.box, Uw42.ok (-1)) := by
    show (if fits l s.box.places 400 = false then _ else _) = _
    rw [if_pos h]
  show ({ s with box := (Uw42.step s.box (.wish l)).1 }, Uw44.ok (Uw42.step s.box (.wish l)).2.v) = _
  rw [e]
  rfl
theorem wish_yes {s : Show} {l : List Nat} (h : fits l s.box.places 400 = true) : Uw44.step s (.wish l) = ({ s with box := { s.box with wish := l } }, Uw44.ok 0) := by
  have e : Uw42.step s.box (.wish l) = ({ s.box with wish := l }, Uw42.ok 0) := by
    show (if fits l s.box.places 400 = false then _ else _) = _
    rw [if_neg (by rw [h]; decide)]
  show ({ s with box := (Uw42.step s.box (.wish l)).1 }, Uw44.ok (Uw42.step s.box (.wish l)).2.v) = _
  rw [e]
  rfl
theorem moves_no {s : Show} {i : Nat} (h : s.box.cams.length ≤ i) : Uw44.step s (.moves i) = (s, Uw44.ok (-2)) := by
  show (if s.box.cams.length ≤ i then _ else _) = _
  rw [if_pos h]
theorem moves_yes {s : Show} {i : Nat} {r : List Nat} (h : s.box.cams[i]? = some r) : Uw44.step s (.moves i) = (s, ⟨((Uw41.motion s.foot r).foldl max 0 : Nat), Uw41.motion s.foot r⟩) := by
  have l : i < s.box.cams.length := (List.getElem?_eq_some_iff.mp h).1
  show (if s.box.cams.length ≤ i then _ else _) = _
  rw [if_neg (by omega)]
  have e : s.moving.cam i = Uw41.motion s.foot r := by
    show (s.box.cams.map fun r => Uw41.motion s.foot r).getD i [] = _
    rw [List.getD_eq_getElem?_getD, List.getElem?_map, h]
    rfl
  rw [e]
theorem fine_step {s : Show} (h : Fine s) : ∀ c : Uw44.Call, Fine (Uw44.step s c).1
  | .begins n f => by
    by_cases a : n < 2 ∨ 8 < n
    · rw [begins_places a]; exact h
    by_cases b : footOk f
    · rw [begins_yes (by omega) (by omega) b]
      obtain ⟨b1, b2, b3⟩ := b
      refine ⟨by show 2 ≤ n; omega, by show n ≤ 8; omega, ?_, b2, low_iff.mp b3, Nat.zero_le _, (fun r hr => nomatch hr), List.length_replicate, ?_, b1⟩
      · cases f with
        | nil => cases b1
        | cons _ _ => exact Nat.succ_le_succ (Nat.zero_le _)
      · intro x hx
        have := List.eq_of_mem_replicate hx
        omega
    · rw [begins_foot b]; exact h
  | .cam l => by
    cases a : fits l s.box.places 100 with
    | false => rw [cam_no a]; exact h
    | true =>
      by_cases b : 4 ≤ s.box.cams.length
      · rw [cam_full a b]; exact h
      · rw [cam_yes a (by omega)]
        refine ⟨h.p2, h.p8, h.f1, h.f4, h.fl, ?_, ?_, h.wl, h.wh, h.f0⟩
        · show (s.box.cams ++ [l]).length ≤ 4
          rw [List.length_append]
          show s.box.cams.length + 1 ≤ 4
          omega
        · intro r hr
          rcases List.mem_append.mp hr with hr | hr
          · exact h.cl r hr
          · rw [List.mem_singleton.mp hr]
            exact fits_iff.mp a
  | .wish l => by
    cases a : fits l s.box.places 400 with
    | false => rw [wish_no a]; exact h
    | true =>
      rw [wish_yes a]
      exact ⟨h.p2, h.p8, h.f1, h.f4, h.fl, h.c4, h.cl, (fits_iff.mp a).1, (fits_iff.mp a).2, h.f0⟩
  | .moves i => by
    by_cases a : s.box.cams.length ≤ i
    · rw [moves_no a]; exact h
    · have e : (Uw44.step s (.moves i)).1 = s := by
        show (if s.box.cams.length ≤ i then _ else _ : Show × Uw44.Ans).1 = s
        rw [if_neg a]
      rw [e]; exact h
  | .sum p => by
    have e : (Uw44.step s (.sum p)).1 = s := by
      show (if s.moving.told p = false then _ else _ : Show × Uw44.Ans).1 = s
      split <;> rfl
    rw [e]; exact h
  | .nearest => h
  | .best => h
/-! ### A motion -/
/-- how high the follower is by the first i of the foot's numbers -/
def heightTo (foot r : List Nat) (t i : Nat) : Nat := ((List.range i).map fun d => max (r.getD (Uw41.on r.length t d) 0 - foot.getD d 0) (r.getD (Uw41.back r.length t d) 0 - foot.getD d 0)).foldl max 0
theorem heightTo_all (foot r : List Nat) (t : Nat) : heightTo foot r t foot.length = Uw41.height foot r t := rfl
theorem heightTo_zero (foot r : List Nat) (t : Nat) : heightTo foot r t 0 = 0 := rfl
theorem heightTo_succ (foot r : List Nat) (t i : Nat) : heightTo foot r t (i + 1) = max (heightTo foot r t i) (max (r.getD (Uw41.on r.length t i) 0 - foot.getD i 0) (r.getD (Uw41.back r.length t i) 0 - foot.getD i 0)) := by
  unfold heightTo
  rw [List.range_succ, List.map_append, List.foldl_append]
  rfl
theorem on_emod (n t d : Nat) : (((t : Int) + (d : Int)) % (n : Int)) = ((Uw41.on n t d : Nat) : Int) := by
  unfold Uw41.on
  rw [Int.natCast_emod, Int.natCast_add]
theorem back_emod {n : Nat} (hn : 0 < n) (t d : Nat) : (((t : Int) - (d : Int)) % (n : Int)) = ((Uw41.back n t d : Nat) : Int) := by
  unfold Uw41.back
  have h1 : d % n < n := Nat.mod_lt _ hn
  have h2 : (d : Int) = n * ((d / n : Nat) : Int) + ((d % n : Nat) : Int) := by
    have := Nat.div_add_mod d n
    have q : ((n * (d / n) + d % n : Nat) : Int) = (d : Int) := congrArg _ this
    rw [← q]
    simp
  have h3 : ((t + n - d % n : Nat) : Int) = (t : Int) + n - ((d % n : Nat) : Int) := by omega
  rw [Int.natCast_emod, h3]
  have h4 : (t : Int) - d = ((t : Int) + n - ((d % n : Nat) : Int)) + n * (-((d / n : Nat) : Int) - 1) := by
    rw [Int.mul_sub, Int.mul_neg]
    omega
  rw [h4, Int.add_mul_emod_self_left]
theorem on_lt {n : Nat} (hn : 0 < n) (t d : Nat) : Uw41.on n t d < n := Nat.mod_lt _ hn
theorem back_lt {n : Nat} (hn : 0 < n) (t d : Nat) : Uw41.back n t d < n := Nat.mod_lt _ hn
theorem foldl_max_le {m : Nat} : ∀ (l : List Nat) (a : Nat), a ≤ m → (∀ x ∈ l, x ≤ m) → l.foldl max a ≤ m
  | [], a, ha, _ => ha
  | x :: r, a, ha, h => by
    refine foldl_max_le r (max a x) ?_ fun y hy => h y (List.mem_cons_of_mem _ hy)
    have := h x List.mem_cons_self
    omega
theorem getD_le {m : Nat} {l : List Nat} (h : ∀ x ∈ l, x ≤ m) (i : Nat) : l.getD i 0 ≤ m := by
  rw [List.getD_eq_getElem?_getD]
  cases e : l[i]? with
  | none => exact Nat.zero_le _
  | some x => exact h x (List.mem_of_getElem? e)
theorem height_le {m : Nat} {r : List Nat} (h : ∀ x ∈ r, x ≤ m) (foot : List Nat) (t : Nat) : Uw41.height foot r t ≤ m := by
  unfold Uw41.height
  refine foldl_max_le _ _ (Nat.zero_le _) fun x hx => ?_
  obtain ⟨d, _, e⟩ := List.mem_map.mp hx
  have a := getD_le h (Uw41.on r.length t d)
  have b := getD_le h (Uw41.back r.length t d)
  omega
theorem motion_length (foot r : List Nat) : (Uw41.motion foot r).length = r.length := by
  unfold Uw41.motion
  rw [List.length_map, List.length_range]
theorem motion_le {m : Nat} {r : List Nat} (h : ∀ x ∈ r, x ≤ m) (foot : List Nat) : ∀ x ∈ Uw41.motion foot r, x ≤ m := by
  intro x hx
  obtain ⟨t, _, e⟩ := List.mem_map.mp hx
  rw [← e]
  exact height_le h foot t
theorem foldl_max_ge : ∀ (l : List Nat) (a : Nat), a ≤ l.foldl max a ∧ ∀ x ∈ l, x ≤ l.foldl max a
  | [], a => ⟨Nat.le_refl _, fun x hx => by cases hx⟩
  | y :: r, a => by
    obtain ⟨h1, h2⟩ := foldl_max_ge r (max a y)
    refine ⟨Nat.le_trans (Nat.le_max_left _ _) h1, fun x hx => ?_⟩
    rcases List.mem_cons.mp hx with e | hx
    · subst e; exact Nat.le_trans (Nat.le_max_right _ _) h1
    · exact h2 x hx
theorem foldl_max_mem : ∀ (l : List Nat) (a : Nat), l.foldl max a = a ∨ l.foldl max a ∈ l
  | [], a => .inl rfl
  | y :: r, a => by
    rcases foldl_max_mem r (max a y) with h | h
    · by_cases c : a ≤ y
      · right
        have e : max a y = y := by omega
        show r.foldl max (max a y) ∈ y :: r
        rw [h, e]
        exact List.mem_cons_self
      · left
        show r.foldl max (max a y) = a
        rw [h]; omega
    · exact .inr (List.mem_cons_of_mem _ h)
/-- a greatest number of a row is the fold's -/
theorem max_is {l : List Nat} {m : Nat} (hm : m ∈ l) (h : ∀ x ∈ l, x ≤ m) : l.foldl max 0 = m := by
  have a := (foldl_max_ge l 0).2 m hm
  have b := foldl_max_le l 0 (Nat.zero_le m) h
  omega
end Cam
set_option Elab.async false
namespace Cam
open Uw44 (Show)
/-! ### What the foot reaches -/
/-- the places that the foot reaches from t, each with a height of the foot: the least there -/
structure Reach (n t : Nat) (foot : List Nat) (kn : List (Nat × Nat)) : Prop where
  small : kn.length ≤ 2 * foot.length
  of : ∀ q l, (q, l) ∈ kn → ∃ d, foot[d]? = some l ∧ (q = Uw41.on n t d ∨ q = Uw41.back n t d)
  on : ∀ d f, foot[d]? = some f → ∃ l, l ≤ f ∧ (Uw41.on n t d, l) ∈ kn
  back : ∀ d f, foot[d]? = some f → ∃ l, l ≤ f ∧ (Uw41.back n t d, l) ∈ kn
theorem Reach.lt {n t : Nat} {foot : List Nat} {kn : List (Nat × Nat)} (h : Reach n t foot kn) (hn : 0 < n) {q l : Nat} (m : (q, l) ∈ kn) : q < n := by
  obtain ⟨d, _, e | e⟩ := h.of q l m
  · rw [e]; exact on_lt hn t d
  · rw [e]; exact back_lt hn t d
theorem foot_zero {foot : List Nat} (h : foot.head? = some 0) : foot[0]? = some 0 := by
  cases foot with
  | nil => cases h
  | cons a r => exact h
theorem Reach.some {n t : Nat} {foot : List Nat} {kn : List (Nat × Nat)} (h : Reach n t foot kn) (f0 : foot.head? = some 0) : 0 < kn.length := by
  obtain ⟨l, _, m⟩ := h.on 0 0 (foot_zero f0)
  exact List.length_pos_of_mem m
theorem getD_of {l : List Nat} {d f : Nat} (h : l[d]? = some f) : l.getD d 0 = f := by
  rw [List.getD_eq_getElem?_getD, h]
  rfl
theorem get_lt {α : Type} {l : List α} {d : Nat} {f : α} (h : l[d]? = some f) : d < l.length := (List.getElem?_eq_some_iff.mp h).1
abbrev overs (r : List Nat) (kn : List (Nat × Nat)) : List Int := kn.map fun q => ((r.getD q.1 0 : Nat) : Int) - (q.2 : Int)
abbrev unders (r : List Nat) (kn : List (Nat × Nat)) : List Int := kn.map fun q => ((r.getD q.1 0 : Nat) : Int) + (q.2 : Int)
theorem over_is {n t : Nat} {foot r : List Nat} {kn : List (Nat × Nat)} (h : Reach n t foot kn) (hr : r.length = n) (f0 : foot.head? = some 0) {m : Int} (hm : m ∈ overs r kn) (hx : ∀ y ∈ overs r kn, y ≤ m) : m = ((Uw41.height foot r t : Nat) : Int) := by
  have up : ∀ q l, (q, l) ∈ kn → ((r.getD q 0 : Nat) : Int) - (l : Int) ≤ m := fun q l z => hx _ (List.mem_map.mpr ⟨(q, l), z, rfl⟩)
  have m0 : 0 ≤ m := by
    obtain ⟨l, l0, z⟩ := h.on 0 0 (foot_zero f0)
    have := up _ _ z
    omega
  obtain ⟨M, rfl⟩ : ∃ M : Nat, m = (M : Int) := ⟨m.toNat, by omega⟩
  have a : Uw41.height foot r t ≤ M := by
    unfold Uw41.height
    refine foldl_max_le _ _ (Nat.zero_le _) fun x hx => ?_
    obtain ⟨d, hd, e⟩ := List.mem_map.mp hx
    have hd' := List.mem_range.mp hd
    have hf : foot[d]? = some (foot.getD d 0) := by
      rw [List.getD_eq_getElem?_getD, List.getElem?_eq_getElem hd']
      rfl
    obtain ⟨l1, g1, z1⟩ := h.on d _ hf
    obtain ⟨l2, g2, z2⟩ := h.back d _ hf
    have u1 := up _ _ z1
    have u2 := up _ _ z2
    rw [hr] at e
    omega
  have b : M ≤ Uw41.height foot r t := by
    obtain ⟨⟨q, l⟩, z, e⟩ := List.mem_map.mp hm
    have e' : ((r.getD q 0 : Nat) : Int) - (l : Int) = (M : Int) := e
    obtain ⟨d, hf, c⟩ := h.of q l z
    have hd := get_lt hf
    have fd := getD_of hf
    have := (foldl_max_ge ((List.range foot.length).map fun d => max (r.getD (Uw41.on r.length t d) 0 - foot.getD d 0) (r.getD (Uw41.back r.length t d) 0 - foot.getD d 0)) 0).2 _ (List.mem_map.mpr ⟨d, List.mem_range.mpr hd, rfl⟩)
    unfold Uw41.height
    rw [hr, fd] at this
    rw [hr]
    rcases c with c | c
    · rw [c] at e'; omega
    · rw [c] at e'; omega
  omega
theorem least_is : ∀ {l : List Nat} {m : Nat}, m ∈ l → (∀ x ∈ l, m ≤ x) → Uw41.least l = m
  | [], m, hm, _ => nomatch hm
  | [a], m, hm, _ => (List.mem_singleton.mp hm).symm
  | a :: b :: r, m, hm, h => by
    show min a (Uw41.least (b :: r)) = m
    have ha := h a List.mem_cons_self
    by_cases c : m ∈ b :: r
    · rw [least_is c fun x hx => h x (List.mem_cons_of_mem _ hx)]
      omega
    · have e : m = a := by
        rcases List.mem_cons.mp hm with z | z
        · exact z
        · exact absurd z c
      have low : ∀ l : List Nat, l ≠ [] → (∀ x ∈ l, m ≤ x) → m ≤ Uw41.least l := by
        intro l
        induction l with
        | nil => intro z; exact absurd rfl z
        | cons y s ih =>
          intro _ hl
          cases s with
          | nil => exact hl y List.mem_cons_self
          | cons y2 s2 =>
            show m ≤ min y (Uw41.least (y2 :: s2))
            have i1 := ih (by simp) fun x hx => hl x (List.mem_cons_of_mem _ hx)
            have i2 := hl y List.mem_cons_self
            omega
      have := low (b :: r) (by simp) fun x hx => h x (List.mem_cons_of_mem _ hx)
      omega
/-- the radius of the cut cam at a place -/
def radius (foot h : List Nat) (s : Nat) : Nat := Uw41.least ((List.range foot.length).flatMap fun d => [h.getD (Uw41.on h.length s d) 0 + foot.getD d 0, h.getD (Uw41.back h.length s d) 0 + foot.getD d 0])
theorem cut_eq (foot h : List Nat) : Uw41.cut foot h = (List.range h.length).map (radius foot h) := rfl
theorem under_is {n t : Nat} {foot r : List Nat} {kn : List (Nat × Nat)} (h : Reach n t foot kn) (hr : r.length = n) {m : Int} (hm : m ∈ unders r kn) (hx : ∀ y ∈ unders r kn, m ≤ y) : m = ((radius foot r t : Nat) : Int) := by
  have up : ∀ q l, (q, l) ∈ kn → m ≤ ((r.getD q 0 : Nat) : Int) + (l : Int) := fun q l z => hx _ (List.mem_map.mpr ⟨(q, l), z, rfl⟩)
  obtain ⟨⟨q, l⟩, z, e⟩ := List.mem_map.mp hm
  have e' : ((r.getD q 0 : Nat) : Int) + (l : Int) = m := e
  obtain ⟨d, hf, c⟩ := h.of q l z
  obtain ⟨M, rfl⟩ : ∃ M : Nat, m = (M : Int) := ⟨r.getD q 0 + l, by omega⟩
  refine congrArg _ (Eq.symm ?_)
  unfold radius
  rw [hr]
  refine least_is ?_ fun x hx => ?_
  · refine List.mem_flatMap.mpr ⟨d, List.mem_range.mpr (get_lt hf), ?_⟩
    rw [getD_of hf]
    rcases c with c | c
    · rw [c] at e'
      exact List.mem_cons.mpr (.inl (by omega))
    · rw [c] at e'
      exact List.mem_cons_of_mem _ (List.mem_singleton.mpr (by omega))
  · obtain ⟨d, hd, hx⟩ := List.mem_flatMap.mp hx
    have hd' := List.mem_range.mp hd
    have hf : foot[d]? = some (foot.getD d 0) := by
      rw [List.getD_eq_getElem?_getD, List.getElem?_eq_getElem hd']
      rfl
    obtain ⟨l1, g1, z1⟩ := h.on d _ hf
    obtain ⟨l2, g2, z2⟩ := h.back d _ hf
    have u1 := up _ _ z1
    have u2 := up _ _ z2
    rcases List.mem_cons.mp hx with e | hx
    · omega
    · have := List.mem_singleton.mp hx
      omega
theorem cut_length (foot h : List Nat) : (Uw41.cut foot h).length = h.length := by
  rw [cut_eq, List.length_map, List.length_range]
/-! ### The cut cam lifts nowhere higher than told -/
theorem on_back {n t : Nat} (ht : t < n) (d : Nat) : Uw41.on n (Uw41.back n t d) d = t := by
  unfold Uw41.on Uw41.back
  have h1 : d % n < n := Nat.mod_lt _ (by omega)
  rw [Nat.mod_add_mod, Nat.add_mod]
  have e2 : t + n - d % n = t + (n - d % n) := by omega
  rw [e2, ← Nat.add_mod]
  have e3 := Nat.div_add_mod d n
  have e4 : t + (n - d % n) + d = t + n * (d / n + 1) := by
    rw [Nat.mul_add, Nat.mul_one]
    omega
  rw [e4, Nat.add_mul_mod_self_left, Nat.mod_eq_of_lt ht]
theorem back_on {n t : Nat} (ht : t < n) (d : Nat) : Uw41.back n (Uw41.on n t d) d = t := by
  unfold Uw41.on Uw41.back
  have h1 : d % n < n := Nat.mod_lt _ (by omega)
  have e2 : (t + d) % n + n - d % n = (t + d) % n + (n - d % n) := by omega
  rw [e2, Nat.mod_add_mod]
  have e3 := Nat.div_add_mod d n
  have e4 : t + d + (n - d % n) = t + n * (d / n + 1) := by
    rw [Nat.mul_add, Nat.mul_one]
    omega
  rw [e4, Nat.add_mul_mod_self_left, Nat.mod_eq_of_lt ht]
theorem least_le : ∀ {l : List Nat} {x : Nat}, x ∈ l → Uw41.least l ≤ x
  | [], x, h => nomatch h
  | [a], x, h => by rw [List.mem_singleton.mp h]; exact Nat.le_refl _
  | a :: b :: r, x, h => by
    show min a (Uw41.least (b :: r)) ≤ x
    rcases List.mem_cons.mp h with e | h
    · omega
    · have := least_le h
      omega
theorem cut_at {foot h : List Nat} {q : Nat} (hq : q < h.length) : (Uw41.cut foot h).getD q 0 = radius foot h q := by
  rw [cut_eq, List.getD_eq_getElem?_getD, List.getElem?_map, List.getElem?_range hq]
  rfl
theorem height_cut {foot h : List Nat} {t : Nat} (ht : t < h.length) : Uw41.height foot (Uw41.cut foot h) t ≤ h.getD t 0 := by
  have hn : 0 < h.length := by omega
  unfold Uw41.height
  rw [cut_length]
  refine foldl_max_le _ _ (Nat.zero_le _) fun x hx => ?_
  obtain ⟨d, hd, e⟩ := List.mem_map.mp hx
  have a : (Uw41.cut foot h).getD (Uw41.on h.length t d) 0 ≤ h.getD t 0 + foot.getD d 0 := by
    rw [cut_at (on_lt hn t d)]
    refine least_le (List.mem_flatMap.mpr ⟨d, hd, List.mem_cons_of_mem _ (List.mem_singleton.mpr ?_)⟩)
    rw [back_on ht]
  have b : (Uw41.cut foot h).getD (Uw41.back h.length t d) 0 ≤ h.getD t 0 + foot.getD d 0 := by
    rw [cut_at (back_lt hn t d)]
    refine least_le (List.mem_flatMap.mpr ⟨d, hd, List.mem_cons.mpr (.inl ?_)⟩)
    rw [on_back ht]
  omega
theorem total_cons (a : Nat) (l : List Nat) : Uw41.total (a :: l) = a + Uw41.total l := by
  have g : ∀ (l : List Nat) (x y : Nat), l.foldl (fun a b => a + b) (x + y) = x + l.foldl (fun a b => a + b) y := by
    intro l
    induction l with
    | nil => intro x y; rfl
    | cons b r ih =>
      intro x y
      show r.foldl _ (x + y + b) = x + r.foldl _ (y + b)
      rw [Nat.add_assoc, ih]
  show l.foldl _ (0 + a) = a + l.foldl _ 0
  rw [Nat.zero_add]
  exact g l a 0
theorem total_sum (l : List Nat) : (zs l).sum = ((Uw41.total l : Nat) : Int) := by
  induction l with
  | nil => rfl
  | cons a r ih =>
    rw [total_cons, Int.natCast_add, ← ih]
    show (((a : Nat) : Int) :: zs r).sum = _
    rw [List.sum_cons]
theorem total_mono : ∀ (a b : List Nat), a.length = b.length → (∀ i, i < a.length → a.getD i 0 ≤ b.getD i 0) → Uw41.total a ≤ Uw41.total b
  | [], [], _, _ => Nat.le_refl _
  | [], _ :: _, h, _ => nomatch h
  | _ :: _, [], h, _ => nomatch h
  | x :: a, y :: b, h, k => by
    rw [total_cons, total_cons]
    have h0 : x ≤ y := k 0 (Nat.succ_pos _)
    have ih := total_mono a b (Nat.succ.inj h) fun i hi => k (i + 1) (Nat.succ_lt_succ hi)
    omega
theorem motion_at {foot r : List Nat} {t : Nat} (ht : t < r.length) : (Uw41.motion foot r).getD t 0 = Uw41.height foot r t := by
  unfold Uw41.motion
  rw [List.getD_eq_getElem?_getD, List.getElem?_map, List.getElem?_range ht]
  rfl
theorem cut_low (foot h : List Nat) : Uw41.total (Uw41.motion foot (Uw41.cut foot h)) ≤ Uw41.total h := by
  have l : (Uw41.motion foot (Uw41.cut foot h)).length = h.length := by rw [motion_length, cut_length]
  refine total_mono _ _ l fun i hi => ?_
  rw [l] at hi
  rw [motion_at (by rw [cut_length]; exact hi)]
  exact height_cut hi
theorem short_int (foot h : List Nat) : (zs h).sum - (zs (Uw41.motion foot (Uw41.cut foot h))).sum = ((Uw41.short foot h : Nat) : Int) := by
  rw [total_sum, total_sum]
  have := cut_low foot h
  unfold Uw41.short
  omega
end Cam
set_option Elab.async false
namespace Cam
open Uw44 (Show)
/-! ### Levers -/
/-- what a cam that is turned so adds -/
def share (n k : Nat) (m : List Nat) : List Nat := if k = n then List.replicate n 0 else Uw42.turned k m
theorem turned_length (k : Nat) (m : List Nat) : (Uw42.turned k m).length = m.length := by
  unfold Uw42.turned
  rw [List.length_append, List.length_drop, List.length_take]
  omega
theorem share_length {n k : Nat} {m : List Nat} (h : m.length = n) : (share n k m).length = n := by
  unfold share
  split
  · exact List.length_replicate
  · rw [turned_length, h]
theorem add_length {n : Nat} {a b : List Nat} (ha : a.length = n) (hb : b.length = n) : (Uw42.add a b).length = n := by
  unfold Uw42.add
  rw [List.length_zipWith]
  omega
theorem add_zeros : ∀ (a : List Nat), Uw42.add a (List.replicate a.length 0) = a
  | [] => rfl
  | x :: r => by
    show Uw42.add (x :: r) (List.replicate (r.length + 1) 0) = x :: r
    rw [List.replicate_succ]
    show (x + 0) :: Uw42.add r (List.replicate r.length 0) = x :: r
    rw [add_zeros r]
    rfl
def lever (n : Nat) (ms : List (List Nat)) (p : List Nat) : List Nat := (ms.zip p).foldl (fun a x => Uw42.add a (share n x.2 x.1)) (List.replicate n 0)
theorem lever_fold {n : Nat} : ∀ (l : List (List Nat × Nat)) (a : List Nat), a.length = n → (∀ x ∈ l, x.1.length = n) →
    l.foldl (fun a x => Uw42.add a (share n x.2 x.1)) a = l.foldl (fun a x => if x.2 = n then a else Uw42.add a (Uw42.turned x.2 x.1)) a ∧ (l.foldl (fun a x => Uw42.add a (share n x.2 x.1)) a).length = n
  | [], a, ha, _ => ⟨rfl, ha⟩
  | x :: l, a, ha, h => by
    have hx := h x List.mem_cons_self
    have e : Uw42.add a (share n x.2 x.1) = if x.2 = n then a else Uw42.add a (Uw42.turned x.2 x.1) := by
      unfold share
      split
      · have := add_zeros a
        rw [ha] at this
        exact this
      · rfl
    have ih := lever_fold l (Uw42.add a (share n x.2 x.1)) (add_length ha (share_length hx)) fun y hy => h y (List.mem_cons_of_mem _ hy)
    refine ⟨?_, ih.2⟩
    rw [List.foldl_cons, List.foldl_cons, ih.1, e]
theorem zip_fst {α β : Type} {as : List α} {bs : List β} {x : α × β} (h : x ∈ as.zip bs) : x.1 ∈ as := (List.of_mem_zip (a := x.1) (b := x.2) h).1
theorem lever_sum (b : Uw42.Box) (h : ∀ m ∈ b.cams, m.length = b.places) (p : List Nat) : lever b.places b.cams p = b.sum p :=
  (lever_fold _ _ List.length_replicate fun x hx => h x.1 (zip_fst hx)).1
theorem lever_length {n : Nat} {ms : List (List Nat)} (h : ∀ m ∈ ms, m.length = n) (p : List Nat) : (lever n ms p).length = n :=
  (lever_fold _ _ List.length_replicate fun x hx => h x.1 (zip_fst hx)).2
theorem zip_snoc {α β : Type} : ∀ {as : List α} {bs : List β} {a : α} {b : β}, as.length = bs.length → (as ++ [a]).zip (bs ++ [b]) = as.zip bs ++ [(a, b)]
  | [], [], a, b, _ => rfl
  | [], _ :: _, a, b, h => nomatch h
  | _ :: _, [], a, b, h => nomatch h
  | x :: as, y :: bs, a, b, h => by
    show (x, y) :: (as ++ [a]).zip (bs ++ [b]) = (x, y) :: (as.zip bs ++ [(a, b)])
    rw [zip_snoc (Nat.succ.inj h)]
theorem lever_snoc {n k : Nat} {ms : List (List Nat)} {m : List Nat} {p : List Nat} (h : ms.length = p.length) : lever n (ms ++ [m]) (p ++ [k]) = Uw42.add (lever n ms p) (share n k m) := by
  unfold lever
  rw [zip_snoc h, List.foldl_append]
  rfl
theorem lever_le {n c : Nat} : ∀ (l : List (List Nat × Nat)) (a : List Nat), (∀ y ∈ a, y ≤ c) → (∀ x ∈ l, ∀ y ∈ x.1, y ≤ 100) → ∀ y ∈ l.foldl (fun a x => Uw42.add a (share n x.2 x.1)) a, y ≤ c + 100 * l.length
  | [], a, ha, _, y, hy => Nat.le_trans (ha y hy) (Nat.le_add_right _ _)
  | x :: l, a, ha, h, y, hy => by
    rw [List.foldl_cons] at hy
    have sh : ∀ y ∈ share n x.2 x.1, y ≤ 100 := by
      intro y hy
      unfold share at hy
      split at hy
      · have := List.eq_of_mem_replicate hy
        omega
      · unfold Uw42.turned at hy
        rcases List.mem_append.mp hy with z | z
        · exact h x List.mem_cons_self y (List.mem_of_mem_drop z)
        · exact h x List.mem_cons_self y (List.mem_of_mem_take z)
    have hb : ∀ y ∈ Uw42.add a (share n x.2 x.1), y ≤ c + 100 := by
      intro y hy
      unfold Uw42.add at hy
      obtain ⟨i, hi, e⟩ := List.mem_iff_getElem.mp hy
      rw [List.getElem_zipWith] at e
      have := ha _ (List.getElem_mem (l := a) (n := i) (by rw [List.length_zipWith] at hi; omega))
      have := sh _ (List.getElem_mem (l := share n x.2 x.1) (n := i) (by rw [List.length_zipWith] at hi; omega))
      omega
    have := lever_le (c := c + 100) l _ hb (fun x hx => h x (List.mem_cons_of_mem _ hx)) y hy
    rw [List.length_cons]
    omega
/-! ### Plans -/
theorem rows_length_of {k : Nat} : ∀ {n : Nat} {p : List Nat}, p ∈ Uw42.rows k n → p.length = n
  | 0, p, h => by
    have h' : p ∈ [[]] := h
    rw [List.mem_singleton.mp h']
    rfl
  | n + 1, p, h => by
    have h' : p ∈ (List.range (k + 1)).flatMap fun a => (Uw42.rows k n).map fun l => a :: l := h
    obtain ⟨a, _, hp⟩ := List.mem_flatMap.mp h'
    obtain ⟨l, hl, e⟩ := List.mem_map.mp hp
    rw [← e, List.length_cons, rows_length_of hl]
theorem rows_low {k : Nat} : ∀ {n : Nat} {p : List Nat}, p ∈ Uw42.rows k n → ∀ x ∈ p, x ≤ k
  | 0, p, h, x, hx => by
    have h' : p ∈ [[]] := h
    rw [List.mem_singleton.mp h'] at hx
    cases hx
  | n + 1, p, h, x, hx => by
    have h' : p ∈ (List.range (k + 1)).flatMap fun a => (Uw42.rows k n).map fun l => a :: l := h
    obtain ⟨a, ha, hp⟩ := List.mem_flatMap.mp h'
    obtain ⟨l, hl, e⟩ := List.mem_map.mp hp
    rw [← e] at hx
    have := List.mem_range.mp ha
    rcases List.mem_cons.mp hx with z | z
    · omega
    · exact rows_low hl x z
theorem rows_snoc (k : Nat) : ∀ n : Nat, Uw42.rows k (n + 1) = (Uw42.rows k n).flatMap fun p => (List.range (k + 1)).map fun a => p ++ [a]
  | 0 => by
    show (List.range (k + 1)).flatMap (fun a => ([[]] : List (List Nat)).map fun l => a :: l) = ([[]] : List (List Nat)).flatMap fun p => (List.range (k + 1)).map fun a => p ++ [a]
    rw [List.flatMap_cons, List.flatMap_nil, List.append_nil]
    generalize List.range (k + 1) = r
    induction r with
    | nil => rfl
    | cons a r ih =>
      rw [List.flatMap_cons, ih]
      rfl
  | n + 1 => by
    have e : Uw42.rows k (n + 1 + 1) = (List.range (k + 1)).flatMap fun a => (Uw42.rows k (n + 1)).map fun l => a :: l := rfl
    have e2 : Uw42.rows k (n + 1) = (List.range (k + 1)).flatMap fun a => (Uw42.rows k n).map fun l => a :: l := rfl
    rw [e, rows_snoc k n]
    conv => rhs; rw [← rows_snoc k n, e2]
    rw [List.flatMap_assoc]
    congr 1
    funext a
    rw [List.map_flatMap, List.flatMap_map]
    congr 1
    funext p
    rw [List.map_map]
    rfl
def plansOf (n : Nat) (ms : List (List Nat)) : List (List Nat × List Nat) := ms.foldl (fun ps m => ps.flatMap fun x => (List.range (n + 1)).map fun k => (x.1 ++ [k], Uw42.add x.2 (share n k m))) [([], List.replicate n 0)]
theorem plansOf_snoc (n : Nat) (ms : List (List Nat)) (m : List Nat) : plansOf n (ms ++ [m]) = (plansOf n ms).flatMap fun x => (List.range (n + 1)).map fun k => (x.1 ++ [k], Uw42.add x.2 (share n k m)) := by
  unfold plansOf
  rw [List.foldl_append]
  rfl
theorem plansOf_take {n : Nat} {ms : List (List Nat)} : ∀ i, i ≤ ms.length → plansOf n (ms.take i) = (Uw42.rows n i).map fun p => (p, lever n (ms.take i) p)
  | 0, _ => rfl
  | i + 1, h => by
    have hi : i < ms.length := h
    have e : ms.take (i + 1) = ms.take i ++ [ms[i]] := by
      rw [List.take_add_one, List.getElem?_eq_getElem hi]
      rfl
    rw [e, plansOf_snoc, plansOf_take i (by omega), rows_snoc, List.flatMap_map, List.map_flatMap]
    have len : (ms.take i).length = i := by rw [List.length_take]; omega
    have : ∀ l : List (List Nat), (∀ p ∈ l, p.length = i) → l.flatMap (fun p => (List.range (n + 1)).map fun k => (p ++ [k], Uw42.add (lever n (ms.take i) p) (share n k ms[i]))) =
        l.flatMap fun p => ((List.range (n + 1)).map fun a => p ++ [a]).map fun p => (p, lever n (ms.take i ++ [ms[i]]) p) := by
      intro l
      induction l with
      | nil => intro _; rfl
      | cons p l ih =>
        intro hl
        rw [List.flatMap_cons, List.flatMap_cons, ih fun q hq => hl q (List.mem_cons_of_mem _ hq)]
        congr 1
        rw [List.map_map]
        refine List.map_congr_left fun k _ => ?_
        show _ = (p ++ [k], lever n (ms.take i ++ [ms[i]]) (p ++ [k]))
        rw [lever_snoc (by rw [len, hl p List.mem_cons_self])]
    exact this _ fun p hp => rows_length_of hp
theorem plansOf_all (n : Nat) (ms : List (List Nat)) : plansOf n ms = (Uw42.rows n ms.length).map fun p => (p, lever n ms p) := by
  have := plansOf_take (n := n) (ms := ms) ms.length (Nat.le_refl _)
  rw [List.take_length] at this
  exact this
theorem rows_count (k : Nat) : ∀ n, (Uw42.rows k n).length = (k + 1) ^ n
  | 0 => rfl
  | n + 1 => by
    have e2 : Uw42.rows k (n + 1) = (List.range (k + 1)).flatMap fun a => (Uw42.rows k n).map fun l => a :: l := rfl
    rw [e2, List.length_flatMap]
    have : ((List.range (k + 1)).map fun a => ((Uw42.rows k n).map fun l => a :: l).length) = List.replicate (k + 1) ((k + 1) ^ n) := by
      rw [List.eq_replicate_iff]
      refine ⟨by rw [List.length_map, List.length_range], fun b hb => ?_⟩
      obtain ⟨a, _, e⟩ := List.mem_map.mp hb
      rw [← e, List.length_map, rows_count k n]
    rw [this, List.sum_replicate_nat, Nat.pow_succ, Nat.mul_comm]
theorem rows_few {k n : Nat} (hk : k ≤ 8) (hn : n ≤ 4) : (Uw42.rows k n).length ≤ 6561 := by
  rw [rows_count]
  exact Nat.le_trans (Nat.pow_le_pow_left (by omega : k + 1 ≤ 9) n) (Nat.pow_le_pow_right (by decide) hn)
theorem plansOf_few {k : Nat} {ms : List (List Nat)} (hk : k ≤ 8) (hn : ms.length ≤ 4) : (plansOf k ms).length ≤ 6561 := by
  rw [plansOf_all, List.length_map]
  exact rows_few hk hn
/-- all stay in the box -/
theorem rows_idle (k : Nat) : ∀ n, List.replicate n k ∈ Uw42.rows k n
  | 0 => List.mem_singleton.mpr rfl
  | n + 1 => by
    show _ ∈ (List.range (k + 1)).flatMap fun a => (Uw42.rows k n).map fun l => a :: l
    refine List.mem_flatMap.mpr ⟨k, List.mem_range.mpr (by omega), List.mem_map.mpr ⟨List.replicate n k, rows_idle k n, ?_⟩⟩
    rw [List.replicate_succ]
theorem idle_fold {n : Nat} : ∀ (ms : List (List Nat)) (a : List Nat), (ms.zip (List.replicate ms.length n)).foldl (fun a x => if x.2 = n then a else Uw42.add a (Uw42.turned x.2 x.1)) a = a
  | [], a => rfl
  | m :: ms, a => by
    show (((m, n) :: ms.zip (List.replicate ms.length n)).foldl _ a) = a
    rw [List.foldl_cons, if_pos rfl]
    exact idle_fold ms a
theorem lever_idle {n : Nat} {ms : List (List Nat)} (h : ∀ m ∈ ms, m.length = n) : lever n ms (List.replicate ms.length n) = List.replicate n 0 :=
  (lever_fold _ _ List.length_replicate fun x hx => h x.1 (zip_fst hx)).1.trans (idle_fold ms _)
/-! ### How many cams a plan has, how much it is off -/
theorem used_int (b : Uw42.Box) : ∀ p : List Nat, ((p.length : Nat) : Int) - (((zs p).count ((b.places : Nat) : Int) : Nat) : Int) = ((Uw42.used b p : Nat) : Int)
  | [] => rfl
  | k :: p => by
    have ih := used_int b p
    unfold Uw42.used at ih ⊢
    show _ - (((((k : Nat) : Int) :: zs p).count _ : Nat) : Int) = _
    rw [List.count_cons, List.length_cons]
    by_cases c : k = b.places
    · have e1 : ((k != b.places) = false) := by rw [c]; exact bne_self_eq_false _
      rw [List.filter_cons_of_neg (p := fun k => k != b.places) (by rw [e1]; decide), if_pos (by rw [c]; exact beq_self_eq_true _)]
      omega
    · have e1 : ((k != b.places) = true) := bne_iff_ne.mpr c
      have e2 : ¬ ((((k : Nat) : Int) == ((b.places : Nat) : Int)) = true) := fun z => c (by have := beq_iff_eq.mp z; omega)
      rw [List.filter_cons_of_pos (p := fun k => k != b.places) e1, if_neg e2, List.length_cons]
      omega
theorem apart_comm (x y : Nat) : Uw42.apart x y = Uw42.apart y x := by
  unfold Uw42.apart
  omega
theorem apart_abs (x y : Nat) : (if ((x : Int) - (y : Int)) < 0 then -((x : Int) - (y : Int)) else ((x : Int) - (y : Int))) = ((Uw42.apart x y : Nat) : Int) := by
  unfold Uw42.apart
  split <;> omega
/-- how much the lever is off, place by place -/
def offs (l w : List Nat) : List Nat := l.zipWith Uw42.apart w
theorem offs_comm (l w : List Nat) : offs l w = w.zipWith Uw42.apart l := by
  unfold offs
  rw [List.zipWith_comm]
  congr 1
  funext a b
  exact apart_comm b a
theorem offs_length {n : Nat} {l w : List Nat} (hl : l.length = n) (hw : w.length = n) : (offs l w).length = n := by
  unfold offs
  rw [List.length_zipWith]
  omega
theorem off_total (l w : List Nat) : Uw42.off w l = Uw41.total (offs l w) := by
  rw [offs_comm]
  rfl
theorem off_worst (l w : List Nat) : Uw42.worst w l = (offs l w).foldl max 0 := by
  rw [offs_comm]
  rfl
end Cam
set_option Elab.async false
namespace Cam
open Uw44 (Show)
/-! ### The best of graded things -/
/-- how bad, how many cams, what else is told -/
abbrev Grade := Nat × Nat × List Nat
def pickStep (m : Option (Nat × Nat × Nat × List Nat)) (g : Grade) : Option (Nat × Nat × Nat × List Nat) := match m with
  | none => some (g.1, g.2.1, 1, g.2.2)
  | some x => if g.1 < x.1 ∨ (g.1 = x.1 ∧ g.2.1 < x.2.1) then some (g.1, g.2.1, 1, g.2.2) else if g.1 = x.1 ∧ g.2.1 = x.2.1 then some (x.1, x.2.1, x.2.2.1 + 1, x.2.2.2) else some x
def pick (l : List Grade) : Option (Nat × Nat × Nat × List Nat) := l.foldl pickStep none
abbrev key (g : Grade) : Nat × Nat := (g.1, g.2.1)
def lt2 (a b : Nat × Nat) : Prop := a.1 < b.1 ∨ (a.1 = b.1 ∧ a.2 < b.2)
/-- what is told of those with this key -/
def good (l : List Grade) (m : Nat × Nat) : List (List Nat) := (l.filter fun g => decide (key g = m)).map fun g => g.2.2
def IsLeast (l : List Grade) (m : Nat × Nat) : Prop := (∃ g ∈ l, key g = m) ∧ ∀ g ∈ l, ¬ lt2 (key g) m
theorem isLeast_unique {l : List Grade} {m k : Nat × Nat} (hm : IsLeast l m) (hk : IsLeast l k) : m = k := by
  obtain ⟨⟨g, gl, ge⟩, h1⟩ := hm
  obtain ⟨⟨f, fl, fe⟩, h2⟩ := hk
  have a := h1 f fl
  have b := h2 g gl
  rw [fe] at a
  rw [ge] at b
  unfold lt2 at a b
  have e1 : m.1 = k.1 := by omega
  have e2 : m.2 = k.2 := by omega
  exact Prod.ext e1 e2
theorem good_append (l r : List Grade) (m : Nat × Nat) : good (l ++ r) m = good l m ++ good r m := by
  unfold good
  rw [List.filter_append, List.map_append]
theorem good_none {l : List Grade} {m : Nat × Nat} (h : ∀ g ∈ l, key g ≠ m) : good l m = [] := by
  unfold good
  rw [List.filter_eq_nil_iff.mpr fun g hg => by rw [decide_eq_true_eq]; exact h g hg]
  rfl
theorem pick_snoc (l : List Grade) (g : Grade) : pick (l ++ [g]) = pickStep (pick l) g := by
  unfold pick
  rw [List.foldl_append]
  rfl
def Picked (l : List Grade) : Prop := ∃ m, IsLeast l m ∧ pick l = some (m.1, m.2, (good l m).length, (good l m).headD [])
theorem good_ne {l : List Grade} {m : Nat × Nat} (h : IsLeast l m) : good l m ≠ [] := by
  obtain ⟨⟨g, gl, ge⟩, _⟩ := h
  intro z
  have : g.2.2 ∈ good l m := List.mem_map.mpr ⟨g, List.mem_filter.mpr ⟨gl, decide_eq_true ge⟩, rfl⟩
  rw [z] at this
  cases this
theorem picked_snoc {l : List Grade} (g : Grade) (h : l = [] ∨ Picked l) : Picked (l ++ [g]) := by
  have one : good [g] (key g) = [g.2.2] := by
    unfold good
    rw [List.filter_cons_of_pos (p := fun f => decide (key f = key g)) (decide_eq_true rfl)]
    rfl
  rcases h with rfl | ⟨m, hm, e⟩
  · refine ⟨key g, ⟨⟨g, List.mem_singleton.mpr rfl, rfl⟩, fun f hf => ?_⟩, ?_⟩
    · rw [List.mem_singleton.mp hf]
      unfold lt2
      omega
    · show some (g.1, g.2.1, 1, g.2.2) = some (g.1, g.2.1, (good [g] (key g)).length, (good [g] (key g)).headD [])
      rw [one]
      rfl
  · rw [Picked]
    rw [pick_snoc, e]
    unfold pickStep
    dsimp only
    by_cases c1 : g.1 < m.1 ∨ (g.1 = m.1 ∧ g.2.1 < m.2)
    · rw [if_pos c1]
      have gn : good l (key g) = [] := good_none fun f hf z => by
        have := hm.2 f hf
        rw [z] at this
        exact this c1
      refine ⟨key g, ⟨⟨g, List.mem_append.mpr (.inr (List.mem_singleton.mpr rfl)), rfl⟩, fun f hf => ?_⟩, ?_⟩
      · rcases List.mem_append.mp hf with z | z
        · have := hm.2 f z
          unfold lt2 at this ⊢
          dsimp only at this ⊢
          omega
        · rw [List.mem_singleton.mp z]
          unfold lt2
          omega
      · rw [good_append, gn, one]
        rfl
    · rw [if_neg c1]
      by_cases c2 : g.1 = m.1 ∧ g.2.1 = m.2
      · rw [if_pos c2]
        have ek : key g = m := Prod.ext c2.1 c2.2
        rw [ek] at one
        refine ⟨m, ⟨⟨g, List.mem_append.mpr (.inr (List.mem_singleton.mpr rfl)), ek⟩, fun f hf => ?_⟩, ?_⟩
        · rcases List.mem_append.mp hf with z | z
          · exact hm.2 f z
          · rw [List.mem_singleton.mp z]
            exact c1
        · rw [good_append, one, List.length_append]
          cases q : good l m with
          | nil => exact absurd q (good_ne hm)
          | cons a r => rfl
      · rw [if_neg c2]
        obtain ⟨⟨f, fl, fe⟩, h2⟩ := id hm
        have gn : good [g] m = [] := good_none fun f hf z => by
          rw [List.mem_singleton.mp hf] at z
          exact c2 ⟨congrArg Prod.fst z, congrArg Prod.snd z⟩
        refine ⟨m, ⟨⟨f, List.mem_append.mpr (.inl fl), fe⟩, fun f hf => ?_⟩, ?_⟩
        · rcases List.mem_append.mp hf with z | z
          · exact h2 f z
          · rw [List.mem_singleton.mp z]
            exact c1
        · rw [good_append, gn, List.append_nil]
theorem picked_all {l : List Grade} (h : l ≠ []) : Picked l := by
  have : ∀ n, ∀ l : List Grade, l.length = n → l ≠ [] → Picked l := by
    intro n
    induction n with
    | zero => intro l hl h; exact absurd (List.eq_nil_of_length_eq_zero hl) h
    | succ n ih =>
      intro l hl h
      have e := List.dropLast_concat_getLast h
      rw [← e]
      refine picked_snoc _ ?_
      by_cases z : l.dropLast = []
      · exact .inl z
      · exact .inr (ih _ (by rw [List.length_dropLast]; omega) z)
  exact this _ l rfl h
/-- what is answered of graded things -/
def ansOf (l : List Grade) : List Nat := match pick l with
  | none => []
  | some x => x.1 :: x.2.1 :: x.2.2.1 :: x.2.2.2
theorem ansOf_is {l : List Grade} {m : Nat × Nat} (hm : IsLeast l m) : ∃ a r, good l m = a :: r ∧ ansOf l = m.1 :: m.2 :: (good l m).length :: a := by
  have hn : l ≠ [] := by
    obtain ⟨⟨g, gl, _⟩, _⟩ := hm
    intro z
    rw [z] at gl
    cases gl
  obtain ⟨k, hk, e⟩ := picked_all hn
  have ek := isLeast_unique hm hk
  subst ek
  cases q : good l m with
  | nil => exact absurd q (good_ne hm)
  | cons a r =>
    refine ⟨a, r, rfl, ?_⟩
    unfold ansOf
    rw [e, q]
    rfl
theorem pick_map (F : List Nat → List Nat) (l : List Grade) : pick (l.map fun g => (g.1, g.2.1, F g.2.2)) = (pick l).map fun x => (x.1, x.2.1, x.2.2.1, F x.2.2.2) := by
  have : ∀ (l : List Grade) (m : Option (Nat × Nat × Nat × List Nat)), (l.map fun g => ((g.1, g.2.1, F g.2.2) : Grade)).foldl pickStep (m.map fun x => (x.1, x.2.1, x.2.2.1, F x.2.2.2)) = (l.foldl pickStep m).map fun x => (x.1, x.2.1, x.2.2.1, F x.2.2.2) := by
    intro l
    induction l with
    | nil => intro m; rfl
    | cons g l ih =>
      intro m
      rw [List.map_cons, List.foldl_cons, List.foldl_cons, ← ih]
      congr 1
      cases m with
      | none => rfl
      | some x =>
        unfold pickStep
        dsimp only [Option.map_some]
        split
        · rfl
        · split <;> rfl
  exact this l none
/-! ### nearest -/
def near (s : Show) : List Grade := s.box.plans.map fun p => (Uw42.off s.moving.wish (s.moving.sum p), Uw42.used s.moving p, p)
theorem nearest_pick (s : Show) : s.moving.nearest = (pick (near s)).map fun x => ⟨x.1, x.2.1, x.2.2.1, x.2.2.2⟩ := by
  have hp : s.moving.plans = s.box.plans := by
    show Uw42.rows s.box.places (s.box.cams.map _).length = Uw42.rows s.box.places s.box.cams.length
    rw [List.length_map]
  unfold Uw42.Box.nearest Uw42.Box.bestBy pick near
  rw [hp]
  have : ∀ (l : List (List Nat)) (m : Option (Nat × Nat × Nat × List Nat)), l.foldl (fun (m : Option Uw42.Best) p => let n := Uw42.off s.moving.wish (s.moving.sum p)
      let u := Uw42.used s.moving p
      match m with
      | none => some ⟨n, u, 1, p⟩
      | some x => if n < x.first ∨ (n = x.first ∧ u < x.second) then some ⟨n, u, 1, p⟩ else if n = x.first ∧ u = x.second then some { x with many := x.many + 1 } else some x) (m.map fun x => (⟨x.1, x.2.1, x.2.2.1, x.2.2.2⟩ : Uw42.Best)) =
      ((l.map fun p => ((Uw42.off s.moving.wish (s.moving.sum p), Uw42.used s.moving p, p) : Grade)).foldl pickStep m).map fun x => ⟨x.1, x.2.1, x.2.2.1, x.2.2.2⟩ := by
    intro l
    induction l with
    | nil => intro m; rfl
    | cons p l ih =>
      intro m
      rw [List.map_cons, List.foldl_cons, List.foldl_cons, ← ih]
      congr 1
      cases m with
      | none => rfl
      | some x =>
        unfold pickStep
        dsimp only [Option.map_some]
        show (if _ then _ else _) = _
        split
        · rfl
        · split <;> rfl
  exact this _ none
theorem plans_ne (b : Uw42.Box) : b.plans ≠ [] := fun z => by
  have := rows_idle b.places b.cams.length
  have e : Uw42.rows b.places b.cams.length = [] := z
  rw [e] at this
  cases this
theorem outs_cons (a : Nat) (l : List Nat) : outs ⟨(a : Nat), l⟩ = zs (a :: l) := rfl
theorem nearest_out (s : Show) : outs (Uw44.step s .nearest).2 = zs (ansOf (near s)) := by
  have hn : near s ≠ [] := fun z => plans_ne s.box (List.map_eq_nil_iff.mp z)
  obtain ⟨m, hm, e⟩ := picked_all hn
  show outs (match s.moving.nearest with
    | none => Uw44.ok (-6)
    | some x => ⟨(x.first : Nat), x.second :: x.many :: x.plan⟩) = _
  rw [nearest_pick, e]
  unfold ansOf
  rw [e]
  rfl
/-! ### best -/
def may (l w : List Nat) : Bool := (l.zipWith (fun x y => decide (x ≤ y)) w).all id
def bests (s : Show) : List Grade := s.box.plans.filterMap fun p => (s.left p).map fun h => (Uw41.short s.foot h, Uw42.used s.box p, p ++ Uw41.cut s.foot h)
def bests0 (s : Show) : List Grade := s.box.plans.filterMap fun p => (s.lacks p).map fun n => (n, Uw42.used s.box p, p)
theorem best_pick (s : Show) : s.best = (pick (bests0 s)).map fun x => ⟨x.1, x.2.1, x.2.2.1, x.2.2.2⟩ := by
  unfold Uw44.Show.best pick bests0
  have : ∀ (l : List (List Nat)) (m : Option (Nat × Nat × Nat × List Nat)), l.foldl (fun (m : Option Uw44.Best) p => match s.lacks p, m with
      | none, m => m
      | some n, none => some ⟨n, Uw42.used s.box p, 1, p⟩
      | some n, some x => let u := Uw42.used s.box p
        if n < x.lacks ∨ (n = x.lacks ∧ u < x.used) then some ⟨n, u, 1, p⟩ else if n = x.lacks ∧ u = x.used then some { x with many := x.many + 1 } else some x) (m.map fun x => (⟨x.1, x.2.1, x.2.2.1, x.2.2.2⟩ : Uw44.Best)) =
      ((l.filterMap fun p => (s.lacks p).map fun n => ((n, Uw42.used s.box p, p) : Grade)).foldl pickStep m).map fun x => ⟨x.1, x.2.1, x.2.2.1, x.2.2.2⟩ := by
    intro l
    induction l with
    | nil => intro m; rfl
    | cons p l ih =>
      intro m
      rw [List.foldl_cons]
      cases q : s.lacks p with
      | none =>
        rw [List.filterMap_cons_none (by rw [q]; rfl), ← ih]
      | some n =>
        rw [List.filterMap_cons_some (by rw [q]; rfl), List.foldl_cons, ← ih]
        congr 1
        cases m with
        | none => rfl
        | some x =>
          unfold pickStep
          dsimp only [Option.map_some]
          show (if _ then _ else _) = _
          split
          · rfl
          · split <;> rfl
  exact this _ none
theorem bests_map (s : Show) : bests s = (bests0 s).map fun g => (g.1, g.2.1, g.2.2 ++ s.cut g.2.2) := by
  unfold bests bests0
  rw [List.map_filterMap]
  congr 1
  funext p
  unfold Uw44.Show.lacks Uw44.Show.cut
  cases q : s.left p with
  | none => rfl
  | some h =>
    show some _ = some (_, _, p ++ (match s.left p with
      | none => []
      | some h => Uw41.cut s.foot h))
    rw [q]
end Cam
set_option Elab.async false
namespace Cam
open Uw44 (Show)
theorem getD_eq {α : Type} {l : List α} {i : Nat} {d : α} (h : i < l.length) : l.getD i d = l[i] := by
  rw [List.getD_eq_getElem?_getD, List.getElem?_eq_getElem h]
  rfl
theorem zip_range {β : Type} (f : Nat → Nat → β) {n : Nat} {a b : List Nat} (ha : a.length = n) (hb : b.length = n) : a.zipWith f b = (List.range n).map fun t => f (a.getD t 0) (b.getD t 0) := by
  refine List.ext_getElem ?_ fun i h1 h2 => ?_
  · rw [List.length_zipWith, List.length_map, List.length_range]
    omega
  · rw [List.length_zipWith] at h1
    rw [List.getElem_zipWith, List.getElem_map, List.getElem_range, getD_eq (by omega), getD_eq (by omega)]
theorem may_range {n : Nat} {a b : List Nat} (ha : a.length = n) (hb : b.length = n) : ((List.range n).all fun t => decide (a.getD t 0 ≤ b.getD t 0)) = may a b := by
  unfold may
  rw [zip_range _ ha hb, List.all_map]
  rfl
theorem left_range {n : Nat} {a b : List Nat} (ha : a.length = n) (hb : b.length = n) (h : may a b = true) : ((List.range n).map fun t => b.getD t 0 - a.getD t 0) = offs a b := by
  unfold offs
  rw [zip_range _ ha hb]
  refine List.map_congr_left fun t ht => ?_
  rw [← may_range ha hb, List.all_eq_true] at h
  have := of_decide_eq_true (h t ht)
  unfold Uw42.apart
  omega
/-- the motions of the cams -/
abbrev Show.ms (s : Show) : List (List Nat) := s.moving.cams
theorem ms_length {s : Show} (f : Fine s) : ∀ m ∈ s.moving.cams, m.length = s.box.places := by
  intro m hm
  obtain ⟨r, hr, e⟩ := List.mem_map.mp hm
  rw [← e, motion_length]
  exact (f.cl r hr).1
theorem sum_lever {s : Show} (f : Fine s) (p : List Nat) : s.moving.sum p = lever s.box.places s.moving.cams p := (lever_sum s.moving (ms_length f) p).symm
theorem left_is {s : Show} (f : Fine s) (p : List Nat) : s.left p = if may (lever s.box.places s.moving.cams p) s.box.wish = true then some (offs (lever s.box.places s.moving.cams p) s.box.wish) else none := by
  have ll : (lever s.box.places s.moving.cams p).length = s.box.places := lever_length (ms_length f) p
  show (if ((List.range s.box.places).all fun t => decide ((s.moving.sum p).getD t 0 ≤ s.box.wish.getD t 0)) = true then some ((List.range s.box.places).map fun t => s.box.wish.getD t 0 - (s.moving.sum p).getD t 0) else none) = _
  rw [sum_lever f p, may_range ll f.wl]
  cases c : may (lever s.box.places s.moving.cams p) s.box.wish with
  | false => rfl
  | true =>
    rw [if_pos rfl, if_pos rfl, left_range ll f.wl c]
theorem moving_len (s : Show) : s.moving.cams.length = s.box.cams.length := List.length_map ..
/-- a plan and its lever, graded for nearest, for best -/
def gradeN (s : Show) (x : List Nat × List Nat) : Grade := (Uw41.total (offs x.2 s.box.wish), Uw42.used s.box x.1, x.1)
def gradeB (s : Show) (x : List Nat × List Nat) : Grade := (Uw41.short s.foot (offs x.2 s.box.wish), Uw42.used s.box x.1, x.1 ++ Uw41.cut s.foot (offs x.2 s.box.wish))
def gradesN (s : Show) (l : List (List Nat × List Nat)) : List Grade := l.map (gradeN s)
def gradesB (s : Show) (l : List (List Nat × List Nat)) : List Grade := (l.filter fun x => may x.2 s.box.wish).map (gradeB s)
theorem near_is {s : Show} (f : Fine s) : near s = gradesN s (plansOf s.box.places s.moving.cams) := by
  unfold near gradesN
  rw [plansOf_all, List.map_map, moving_len]
  show List.map _ (Uw42.rows s.box.places s.box.cams.length) = _
  refine List.map_congr_left fun p _ => ?_
  show (Uw42.off s.box.wish (s.moving.sum p), _, p) = (Uw41.total (offs (lever s.box.places s.moving.cams p) s.box.wish), _, p)
  rw [sum_lever f, off_total]
  rfl
theorem bests_is {s : Show} (f : Fine s) : bests s = gradesB s (plansOf s.box.places s.moving.cams) := by
  unfold bests gradesB
  rw [plansOf_all, moving_len]
  show List.filterMap _ (Uw42.rows s.box.places s.box.cams.length) = _
  generalize Uw42.rows s.box.places s.box.cams.length = l
  induction l with
  | nil => rfl
  | cons p l ih =>
    have e := left_is f p
    cases c : may (lever s.box.places s.moving.cams p) s.box.wish with
    | false =>
      rw [c, if_neg (by decide)] at e
      rw [List.filterMap_cons_none (by rw [e]; rfl), ih, List.map_cons, List.filter_cons_of_neg (by show ¬ may (lever s.box.places s.moving.cams p) s.box.wish = true; rw [c]; decide)]
    | true =>
      rw [c, if_pos rfl] at e
      rw [List.filterMap_cons_some (by rw [e]; rfl), ih, List.map_cons, List.filter_cons_of_pos (by show may (lever s.box.places s.moving.cams p) s.box.wish = true; exact c)]
      rfl
theorem bests_ne {s : Show} (f : Fine s) : bests s ≠ [] := by
  rw [bests_is f]
  intro z
  unfold gradesB at z
  have z := List.map_eq_nil_iff.mp z
  have hm : (List.replicate s.moving.cams.length s.box.places, lever s.box.places s.moving.cams (List.replicate s.moving.cams.length s.box.places)) ∈ plansOf s.box.places s.moving.cams := by
    rw [plansOf_all]
    exact List.mem_map.mpr ⟨_, rows_idle s.box.places s.moving.cams.length, rfl⟩
  rw [lever_idle (ms_length f)] at hm
  have : may (List.replicate s.box.places 0) s.box.wish = true := by
    rw [← may_range List.length_replicate f.wl, List.all_eq_true]
    intro t ht
    refine decide_eq_true ?_
    rw [getD_eq (by rw [List.length_replicate]; exact List.mem_range.mp ht), List.getElem_replicate]
    exact Nat.zero_le _
  have := List.mem_filter (p := fun x => may x.2 s.box.wish) |>.mpr ⟨hm, this⟩
  rw [z] at this
  cases this
theorem best_out {s : Show} (f : Fine s) : outs (Uw44.step s .best).2 = zs (ansOf (bests s)) := by
  obtain ⟨m, hm, e⟩ := picked_all (bests_ne f)
  show outs (match s.best with
    | none => Uw44.ok (-6)
    | some x => ⟨(x.lacks : Nat), x.used :: x.many :: (x.plan ++ s.cut x.plan)⟩) = _
  have e2 := e
  rw [bests_map, pick_map (fun p => p ++ s.cut p)] at e2
  unfold ansOf
  rw [bests_map, pick_map (fun p => p ++ s.cut p), best_pick]
  cases q : pick (bests0 s) with
  | none => rw [q] at e2; cases e2
  | some x => rfl
theorem nearest_out' {s : Show} (f : Fine s) : outs (Uw44.step s .nearest).2 = zs (ansOf (gradesN s (plansOf s.box.places s.moving.cams))) := by
  rw [nearest_out, near_is f]
theorem best_out' {s : Show} (f : Fine s) : outs (Uw44.step s .best).2 = zs (ansOf (gradesB s (plansOf s.box.places s.moving.cams))) := by
  rw [best_out f, bests_is f]
theorem gradesN_ne {s : Show} (f : Fine s) : gradesN s (plansOf s.box.places s.moving.cams) ≠ [] := by
  rw [← near_is f]
  exact fun z => plans_ne s.box (List.map_eq_nil_iff.mp z)
theorem gradesB_ne {s : Show} (f : Fine s) : gradesB s (plansOf s.box.places s.moving.cams) ≠ [] := by
  rw [← bests_is f]
  exact bests_ne f
/-! ### sum -/
theorem sum_no {s : Show} {p : List Nat} (h : fits p s.box.cams.length s.box.places = false) : Uw44.step s (.sum p) = (s, Uw44.ok (-1)) := by
  have e : s.moving.told p = false := by
    unfold Uw42.Box.told
    rw [moving_len]
    exact h
  show (if s.moving.told p = false then _ else _) = _
  rw [if_pos e]
theorem sum_yes {s : Show} (f : Fine s) {p : List Nat} (h : fits p s.box.cams.length s.box.places = true) :
    Uw44.step s (.sum p) = (s, ⟨(Uw41.total (offs (lever s.box.places s.moving.cams p) s.box.wish) : Nat), (offs (lever s.box.places s.moving.cams p) s.box.wish).foldl max 0 :: lever s.box.places s.moving.cams p⟩) := by
  have e : s.moving.told p = true := by
    unfold Uw42.Box.told
    rw [moving_len]
    exact h
  show (if s.moving.told p = false then _ else _) = _
  rw [if_neg (by rw [e]; decide)]
  show (s, (⟨((Uw42.off s.box.wish (s.moving.sum p) : Nat) : Int), Uw42.worst s.box.wish (s.moving.sum p) :: s.moving.sum p⟩ : Uw44.Ans)) = _
  rw [off_total, off_worst, sum_lever f]
end Cam
set_option Elab.async false
set_option maxRecDepth 100000
set_option maxHeartbeats 2000000
namespace Cam
open PySem PySem.Spec PyProof.Rows L2
open PySem.W (Codec)
/-! ### words about heaps and fields -/
theorem lk_here {k : Str} {v : V} {r : List (Str × V)} : List.lookup k ((k, v) :: r) = some v := by
  have e : (k == k) = true := beq_self_eq_true k
  simp only [List.lookup, e]
theorem lk_past {k g : Str} {v : V} {r : List (Str × V)} (h : (k == g) = false) : List.lookup k ((g, v) :: r) = List.lookup k r := by
  simp only [List.lookup, h]
theorem put_here {f : Str} {v x : V} {r : List (Str × V)} : putF f v ((f, x) :: r) = (f, v) :: r := if_pos rfl
theorem put_past {f g : Str} {v x : V} {r : List (Str × V)} (h : ¬ g = f) : putF f v ((g, x) :: r) = (g, x) :: putF f v r := if_neg h
theorem if_true_of {c : Bool} {A B : Prop} (hc : c = true) (h : A) : if c = true then A else B := by
  rw [if_pos hc]
  exact h
theorem if_false_of {c : Bool} {A B : Prop} (hc : c = false) (h : B) : if c = true then A else B := by
  rw [hc, if_neg Bool.false_ne_true]
  exact h
/-- a row of whole numbers, as it lies in a list -/
abbrev vz (l : List Int) : List V := l.map V.int
abbrev vn (l : List Nat) : List V := l.map fun (n : Nat) => V.int (n : Int)
/-- the i-th statement of the program -/
def top (i : Nat) : Stmt := PySem.Challenge.pw_camshow_s01_answers.main.body.getD i (.Pass ⟨0, 0, 0, 0⟩)
abbrev cR : Stmt := top 16
abbrev cS : Stmt := top 17
abbrev sRInit : Stmt := inClass cR 0
abbrev sMore : Stmt := inClass cR 1
abbrev sNumber : Stmt := inClass cR 2
abbrev sRow : Stmt := inClass cR 3
/-- the reader: the list's address, how far it has read -/
def rF (l : Addr) (i : Nat) : List (Str × V) := [("calls", .ref l), ("at", .int (i : Int))]
def RdAt (C : Addr) (H : Hp) (a l : Addr) (i : Nat) : Prop := ∃ dx, H a = some (.ins C dx (rF l i))
theorem rF_calls (l : Addr) (i : Nat) : (rF l i).lookup ("calls" : Str) = some (.ref l) := lk_here
theorem rF_at (l : Addr) (i : Nat) : (rF l i).lookup ("at" : Str) = some (.int (i : Int)) := (lk_past (by decide +kernel)).trans lk_here
theorem rF_no {k : Str} (h1 : (k == ("calls" : Str)) = false) (h2 : (k == ("at" : Str)) = false) (l : Addr) (i : Nat) : (rF l i).lookup k = none := (lk_past h1).trans ((lk_past h2).trans rfl)
theorem rF_put (l : Addr) (i j : Nat) : putF "at" (.int (j : Int)) (rF l i) = rF l j := (put_past (by decide +kernel)).trans (congrArg _ put_here)
theorem rF_new (l : Addr) : putF "at" (.int 0) (putF "calls" (.ref l) []) = rF l 0 := (put_past (by decide +kernel)).trans rfl
/-- what the top has written: the classes, the names -/
structure TxtR (K : PySem.W.Frag) (mg : Str → Option Value) (C : Addr) : Prop where
  cl : Cls K C
  nC : NoAttr K C "calls"
  nA : NoAttr K C "at"
  gC : mg "Reader" = some (.ref C)
  len : mg "len" = none
/-- but for the thing at a all stands as it was -/
abbrev But (a : Addr) (H H' : Hp) : Prop := ∀ b o, H b = some o → b ≠ a → H' b = some o
def spRInit (C : Addr) : Sp := fun vs H Q _ => ∃ (p dx l : Addr), vs = [.ref p, .ref l] ∧ H p = some (.ins C dx []) ∧
  ∀ H' : Hp, RdAt C H' p l 0 → But p H H' → Q .non H'
def spMore (K : PySem.W.Frag) (C : Addr) : Sp := fun vs H Q _ => ∃ (a l : Addr) (i : Nat) (ns : List Int), vs = [.ref a] ∧ RdAt C H a l i ∧ SqL K H l (vz ns) ∧
  Q (.bl (decide (i < ns.length))) H
def spNumber (K : PySem.W.Frag) (C : Addr) : Sp := fun vs H Q _ => ∃ (a l : Addr) (i : Nat) (ns : List Int) (z : Int), vs = [.ref a] ∧ RdAt C H a l i ∧ SqL K H l (vz ns) ∧ ns[i]? = some z ∧
  ∀ H' : Hp, RdAt C H' a l (i + 1) → But a H H' → Q (.int z) H'
/-- row: a new list of the next k numbers -/
def spRow (K : PySem.W.Frag) (C : Addr) : Sp := fun vs H Q _ => ∃ (a l : Addr) (i k : Nat) (ns r t : List Int), vs = [.ref a] ∧ RdAt C H a l i ∧ SqL K H l (vz ns) ∧ ns.drop i = (k : Int) :: (r ++ t) ∧ r.length = k ∧
  ∀ (H' : Hp) (p : Addr), RdAt C H' a l (i + 1 + k) → But a H H' → H p = none → H' p = some (.lst (vz r)) → Q (.ref p) H'
section
variable {P : Program} {w : World} {K : PySem.W.Frag} {mg : Str → Option Value} {base : Heap} {C : Addr}
theorem scRInit : FnScope ["self", "calls"] ["self", "calls"] (defScope sRInit) := ⟨rfl, rfl, rfl, by decide +kernel, rfl, by decide +kernel, by decide +kernel⟩
theorem ok_rinit {f : Addr} {fd : FuncData} (F : Fun K "__init__" "Reader.__init__" sRInit f fd) (T : TxtR K mg C) : FnOk P w K mg base CX0 1 f fd ["self", "calls"] (spRInit C) := by
  refine F.ok scRInit (fun vs H Q E h => ?_) (fun cdv A outer s H vs Q E hr h => ?_)
  · obtain ⟨p, dx, l, rfl, _⟩ := h
    rfl
  · obtain ⟨p, dx, l, rfl, hp, k⟩ := h
    refine ⟨_, pss_cons (ps_fld (pv 0) (pv 1) rfl) (pss_one (ps_fld (pv 0) pe_int rfl)), ?_⟩
    refine ⟨_, rfl, _, rfl, p, C, dx, [], rfl, hp, T.cl, T.nC, (by show 0 < 1000; decide), ?_⟩
    refine ⟨_, rfl, p, C, dx, _, rfl, upd_same, T.cl, T.nA, (by show 1 < 1000; decide), ?_⟩
    exact k _ ⟨dx, Eq.trans upd_same (congrArg (fun q => some (HO.ins C dx q)) (rF_new l))⟩ fun b o e hb => by
      rw [upd_ne hb, upd_ne hb]
      exact e
theorem scMore : FnScope ["self"] ["self"] (defScope sMore) := ⟨rfl, rfl, rfl, by decide +kernel, rfl, by decide +kernel, by decide +kernel⟩
theorem ok_more {f : Addr} {fd : FuncData} (F : Fun K "has_more" "Reader.has_more" sMore f fd) (T : TxtR K mg C) : FnOk P w K mg base CX0 1 f fd ["self"] (spMore K C) := by
  refine F.ok scMore (fun vs H Q E h => ?_) (fun cdv A outer s H vs Q E hr h => ?_)
  · obtain ⟨a, l, i, ns, rfl, _⟩ := h
    rfl
  · obtain ⟨a, l, i, ns, rfl, ⟨dx, ha⟩, hl, k⟩ := h
    refine ⟨_, pss_one (ps_ret (pe_cmpR op_lt (pe_fld (pv 0) rfl) (pe_callB call_len_seq (by rfl) T.len PySem.boot_len (pa_cons (pe_fld (pv 0) rfl) pa_nil)) (nomark _))), ?_⟩
    refine ⟨_, rfl, a, C, dx, _, _, rfl, ha, T.cl, T.nA, rF_at l i, ?_⟩
    refine ⟨_, rfl, a, C, dx, _, _, rfl, ha, T.cl, T.nC, rF_calls l i, l, _, rfl, .inl hl, _, _, rfl, rfl, ?_⟩
    have e : decide ((i : Int) < ((vz ns).length : Int)) = decide (i < ns.length) := by
      rw [List.length_map]
      exact decide_eq_decide.mpr (by omega)
    show Q (V.bl (decide ((i : Int) < ((vz ns).length : Int)))) H
    rw [e]
    exact k
theorem scNumber : FnScope ["self", "taken"] ["self"] (defScope sNumber) := ⟨rfl, rfl, rfl, by decide +kernel, rfl, by decide +kernel, by decide +kernel⟩
theorem ok_number {f : Addr} {fd : FuncData} (F : Fun K "number" "Reader.number" sNumber f fd) (T : TxtR K mg C) : FnOk P w K mg base CX0 1 f fd ["self"] (spNumber K C) := by
  refine F.ok scNumber (fun vs H Q E h => ?_) (fun cdv A outer s H vs Q E hr h => ?_)
  · obtain ⟨a, l, i, ns, z, rfl, _⟩ := h
    rfl
  · obtain ⟨a, l, i, ns, z, rfl, ⟨dx, ha⟩, hl, hz, k⟩ := h
    refine ⟨_, pss_cons (ps_set (i := 1) scNumber.nd rfl (Or.inl rfl) (pe_ix ix_list (pe_fld (pv 0) rfl) (pe_fld (pv 0) rfl) (fun _ _ => rfl)))
      (pss_cons (ps_fld (pv 0) (pe_op op_add (pe_fld (pv 0) rfl) pe_int) rfl)
      (pss_one (ps_ret (pv 1)))), ?_⟩
    refine ⟨_, rfl, a, C, dx, _, _, rfl, ha, T.cl, T.nC, rF_calls l i, ?_⟩
    refine ⟨_, rfl, a, C, dx, _, _, rfl, ha, T.cl, T.nA, rF_at l i, ?_⟩
    refine ⟨l, vz ns, i, .int z, rfl, rfl, hl, atI_nat (by rw [List.getElem?_map, hz]; rfl), ?_⟩
    refine ⟨_, rfl, a, C, dx, _, _, rfl, ha, T.cl, T.nA, rF_at l i, _, _, rfl, rfl, _, rfl, a, C, dx, _, rfl, ha, T.cl, T.nA, (by show 2 < 1000; decide), ?_⟩
    refine ⟨_, rfl, ?_⟩
    exact k _ ⟨dx, Eq.trans upd_same (congrArg (fun q => some (HO.ins C dx q)) (rF_put l i (i + 1)))⟩ fun b o e hb => by
      rw [upd_ne hb]
      exact e
theorem cut_row {ns r t : List Int} {i j k : Nat} (h : ns.drop i = (k : Int) :: (r ++ t)) (hk : r.length = k) (hj : j = i + 1) : cutV (vz ns) (some (j : Int)) (some ((j : Int) + (k : Int))) = vz r := by
  have hd : ns.drop (i + 1) = r ++ t := by
    rw [← List.drop_drop, h]
    rfl
  have hl : (ns.drop (i + 1)).length = r.length + t.length := by rw [hd, List.length_append]
  rw [List.length_drop] at hl
  have hi : i < ns.length := by
    have := congrArg List.length h
    rw [List.length_drop, List.length_cons] at this
    omega
  subst hj
  unfold cutV
  have e : (((i + 1 : Nat) : Int) + (k : Int)) = ((i + 1 + k : Nat) : Int) := by omega
  rw [e, HT.sIx_nat, HT.sIx_nat, List.length_map, ← List.map_drop, ← List.map_take]
  have e1 : min (i + 1) ns.length = i + 1 := by omega
  have e2 : min (i + 1 + k) ns.length = i + 1 + k := by omega
  rw [e1, e2, hd]
  have e3 : i + 1 + k - (i + 1) = r.length := by omega
  rw [e3, List.take_left]
theorem scRow : FnScope ["self", "length", "start"] ["self"] (defScope sRow) := ⟨rfl, rfl, rfl, by decide +kernel, rfl, by decide +kernel, by decide +kernel⟩
theorem ok_row {f fN : Addr} {fd fdN : FuncData} (F : Fun K "row" "Reader.row" sRow f fd) (T : TxtR K mg C) (FN : Fun K "number" "Reader.number" sNumber fN fdN) (bN : Binds K fdN ["self"] []) (mN : Meth K C "number" fN) : FnOk P w K mg base CX0 2 f fd ["self"] (spRow K C) := by
  have GN : FnOk P w K mg base CX0 1 fN fdN ["self"] (spNumber K C) := ok_number FN T
  refine F.ok scRow (fun vs H Q E h => ?_) (fun cdv A outer s H vs Q E hr h => ?_)
  · obtain ⟨a, l, i, k, ns, r, t, rfl, _⟩ := h
    rfl
  · obtain ⟨a, l, i, k, ns, r, t, rfl, ⟨dx, ha⟩, hl, hd, hk, q⟩ := h
    refine ⟨_, pss_cons (ps_set (i := 1) scRow.nd rfl (Or.inl rfl) (pe_meth0 (pv 0) T.cl mN GN hr bN .nil pass0))
      (pss_cons (ps_set (i := 2) scRow.nd rfl (Or.inl rfl) (pe_fld (pv 0) rfl))
      (pss_cons (ps_fld (pv 0) (pe_op op_add (pv 2) (pv 1)) rfl)
      (pss_one (ps_ret (pe_slice sl_list (pe_fld (pv 0) rfl) (po_some (pv 2)) (po_some (pe_fld (pv 0) rfl))))))), ?_⟩
    have hz : ns[i]? = some (k : Int) := by
      have := congrArg (fun q => q[0]?) hd
      simpa using this
    refine ⟨_, rfl, a, dx, _, rfl, ha, rF_no (by decide +kernel) (by decide +kernel) l i, ?_⟩
    refine ⟨a, l, i, ns, (k : Int), rfl, ⟨dx, ha⟩, hl, hz, fun H1 ⟨d1, h1⟩ k1 => ?_⟩
    have s1 : SqL K H1 l (vz ns) := by
      rcases hl with (hl | ⟨o, hl⟩) | hl
      · exact .inl (.inl (k1 _ _ hl (ne_of hl ha (by intro z; cases z))))
      · exact .inl (.inr ⟨o, k1 _ _ hl (ne_of hl ha (by intro z; cases z))⟩)
      · exact .inr hl
    refine ⟨_, rfl, a, C, d1, _, _, rfl, h1, T.cl, T.nA, rF_at l (i + 1), ?_⟩
    refine ⟨_, rfl, _, rfl, _, _, rfl, rfl, _, rfl, a, C, d1, _, rfl, h1, T.cl, T.nA, (by show 2 < 1000; decide), ?_⟩
    have e : putF "at" (.int (((i + 1 : Nat) : Int) + (k : Int))) (rF l (i + 1)) = rF l (i + 1 + k) := by
      have z : (((i + 1 : Nat) : Int) + (k : Int)) = ((i + 1 + k : Nat) : Int) := by omega
      rw [z, rF_put]
    have h2 : upd H1 a (HO.ins C d1 (putF "at" (.int (((i + 1 : Nat) : Int) + (k : Int))) (rF l (i + 1)))) a = some (.ins C d1 (rF l (i + 1 + k))) := by
      rw [upd_same, e]
    have s2 : SqL K (upd H1 a (HO.ins C d1 (putF "at" (.int (((i + 1 : Nat) : Int) + (k : Int))) (rF l (i + 1))))) l (vz ns) := by
      rcases s1 with (hl | ⟨o, hl⟩) | hl
      · exact .inl (.inl (by rw [upd_ne (ne_of hl h1 (by intro z; cases z))]; exact hl))
      · exact .inl (.inr ⟨o, by rw [upd_ne (ne_of hl h1 (by intro z; cases z))]; exact hl⟩)
      · exact .inr hl
    refine ⟨_, rfl, a, C, d1, _, _, rfl, h2, T.cl, T.nC, rF_calls l _, _, rfl, _, rfl, ?_⟩
    refine ⟨_, rfl, a, C, d1, _, _, rfl, h2, T.cl, T.nA, rF_at l _, _, rfl, l, vz ns, rfl, s2, fun p hp => ?_⟩
    have np : p ≠ a := fun z => by rw [z, h2] at hp; cases hp
    have ec : cutV (vz ns) (some ((i + 1 : Nat) : Int)) (some ((i + 1 + k : Nat) : Int)) = vz r := by
      have z : ((i + 1 + k : Nat) : Int) = (((i + 1 : Nat) : Int) + (k : Int)) := by omega
      rw [z]
      exact cut_row hd hk rfl
    refine q _ p ⟨d1, ?_⟩ (fun b o hb nb => ?_) ?_ ?_
    · rw [upd_ne (Ne.symm np)]
      exact h2
    · have hb1 := k1 b o hb nb
      have nbp : b ≠ p := fun z => by
        subst z
        rw [upd_ne nb, hb1] at hp
        cases hp
      rw [upd_ne nbp, upd_ne nb]
      exact hb1
    · cases z : H p with
      | none => rfl
      | some o =>
        rw [upd_ne np, k1 p o z np] at hp
        cases hp
    · rw [upd_same]
      exact congrArg (fun z => some (HO.lst z)) ec
end
end Cam
set_option Elab.async false
set_option maxRecDepth 100000
set_option maxHeartbeats 2000000
namespace Cam
open PySem PySem.Spec PyProof.Rows L2
theorem same_new {H : Hp} {p : Addr} {o : HO} (h : H p = none) : Same H (upd H p o) := fun b u e => by
  rw [upd_ne (ne_of_none e h)]
  exact e
theorem same_upd {H H' : Hp} {p : Addr} {o : HO} (s : Same H H') (h : H p = none) : Same H (upd H' p o) := fun b u e => by
  rw [upd_ne (ne_of_none e h)]
  exact s b u e
theorem vn_get {l : List Nat} {i : Nat} {x : V} (h : (vn l)[i]? = some x) : ∃ n, l[i]? = some n ∧ x = V.int (n : Int) := by
  rw [List.getElem?_map] at h
  cases e : l[i]? with
  | none => rw [e] at h; cases h
  | some n => rw [e] at h; exact ⟨n, rfl, (Option.some.inj h).symm⟩
theorem vn_at {l : List Nat} {i : Nat} {n : Nat} (h : l[i]? = some n) : (vn l)[i]? = some (V.int (n : Int)) := by
  rw [List.getElem?_map, h]
  rfl
theorem take_more {α : Type} {l : List α} {i : Nat} {x : α} (h : l[i]? = some x) : l.take (i + 1) = l.take i ++ [x] := by
  rw [List.take_add_one, h]
  rfl
theorem small12 {n : Nat} (h : n ≤ 12) : n < sizeLine := Nat.lt_of_le_of_lt h (by decide)
/-- a comprehension without a test keeps every item -/
theorem lc_yes {σ : L2.St} {H : Hp} {A B : Hp → Prop} (h : A H) : tYes σ H (fun b H3 => if b = true then A H3 else B H3) := iteT (A := A H) (B := B H) h
abbrev sNone : Stmt := top 18
abbrev sIsFoot : Stmt := top 19
abbrev sFits : Stmt := top 20
abbrev sReach : Stmt := top 21
abbrev sHeight : Stmt := top 22
abbrev sMotion : Stmt := top 23
abbrev sRadius : Stmt := top 24
abbrev sCut : Stmt := top 25
abbrev sShare : Stmt := top 26
abbrev sTogether : Stmt := top 27
abbrev sOff : Stmt := top 28
abbrev sNowhere : Stmt := top 29
abbrev sCamsOn : Stmt := top 30
abbrev sEvery : Stmt := top 31
abbrev sAnsOf : Stmt := top 32
/-- the names that the rows' helpers read -/
structure TxtG (mg : Str → Option Value) : Prop where
  all : mg "all" = none
  len : mg "len" = none
  max : mg "max" = none
  range : mg "range" = none
  enum : mg "enumerate" = none
  min : mg "min" = none
  sum : mg "sum" = none
  abs : mg "abs" = none
  zip : mg "zip" = none
  list : mg "list" = none
  foot4 : ∃ t, mg "LONGEST_FOOT" = some (.int 4 t)
  lift : ∃ t, mg "GREATEST_LIFT" = some (.int 100 t)
/-- none_above: is no number of the row above m? -/
def spNone (K : PySem.W.Frag) : Sp := fun vs H Q _ => ∃ (a : Addr) (l : List Nat) (m : Nat), vs = [.ref a, .int (m : Int)] ∧ SqL K H a (vn l) ∧ l.length ≤ 12 ∧
  ∀ H' : Hp, Same H H' → Q (.bl (Low m l)) H'
def spFits (K : PySem.W.Frag) : Sp := fun vs H Q _ => ∃ (a : Addr) (l : List Nat) (n m : Nat), vs = [.ref a, .int (n : Int), .int (m : Int)] ∧ SqL K H a (vn l) ∧ l.length ≤ 12 ∧
  ∀ H' : Hp, Same H H' → Q (.bl (fits l n m)) H'
instance : DecidablePred footOk := fun f => by unfold footOk; exact inferInstance
def spIsFoot (K : PySem.W.Frag) : Sp := fun vs H Q _ => ∃ (a : Addr) (l : List Nat), vs = [.ref a] ∧ SqL K H a (vn l) ∧ l.length ≤ 12 ∧
  ∀ H' : Hp, Same H H' → Q (.bl (decide (footOk l))) H'
section
variable {P : Program} {w : World} {K : PySem.W.Frag} {mg : Str → Option Value} {base : Heap}
theorem scNone : FnScope ["numbers", "greatest", "number"] ["numbers", "greatest"] (defScope sNone) := ⟨rfl, rfl, rfl, by decide +kernel, rfl, by decide +kernel, by decide +kernel⟩
theorem ok_none {f : Addr} {fd : FuncData} (F : Fun K "none_above" "none_above" sNone f fd) (T : TxtG mg) : FnOk P w K mg base CX0 1 f fd ["numbers", "greatest"] (spNone K) := by
  refine F.ok scNone (fun vs H Q E h => ?_) (fun cdv A outer s H vs Q E hr h => ?_)
  · obtain ⟨a, l, m, rfl, _⟩ := h
    rfl
  · obtain ⟨a, l, m, rfl, hl, hs, k⟩ := h
    refine ⟨_, pss_one (ps_ret (pe_callB (cr_all rfl) (by rfl) T.all (by decide +kernel) (pa_cons
      (pe_lc (own := [("number", 2)]) (g := gName 2) (tt := tYes) rfl scNone.nd (pi_list (pv 0)) (blkOk_by (N := ["numbers", "greatest", "number"]) (sc := defScope sNone) (by decide +kernel))
        (fun _ _ _ _ _ => pg_name (i := 2) scNone.nd rfl (Or.inl rfl)) (fun _ _ _ _ _ => pts_nil) (fun _ _ _ _ _ => pe_cmpR op_le (pv 2) (pv 1) (nomark _))) pa_nil))), ?_⟩
    refine ⟨_, rfl, a, rfl, ⟨_, hl⟩, fun D hD => lc_list (K := K) (a := a) (xs := vn l) (fun i H' => Same H H' ∧ H' D = some (.lst (((l.take i).map fun n => decide (n ≤ m)).map V.bl))) ⟨same_new hD, upd_same⟩ (fun i H' _ ⟨s, _⟩ => s.seq hl) ?_ ?_⟩
    · rintro i x H' hx ⟨s, hd⟩
      obtain ⟨n, hn, rfl⟩ := vn_get hx
      refine ⟨rfl, lc_yes ?_⟩
      refine ⟨_, rfl, _, rfl, _, _, rfl, rfl, _, hd, ?_, same_upd s hD, ?_⟩
      · rw [List.length_map, List.length_map, List.length_take]
        exact small12 (by omega)
      · rw [upd_same, take_more hn, List.map_append, List.map_append]
        have e : decide ((n : Int) ≤ (m : Int)) = decide (n ≤ m) := decide_eq_decide.mpr (by omega)
        show some (HO.lst (_ ++ [V.bl (decide ((n : Int) ≤ (m : Int)))])) = _
        rw [e]
        rfl
    · rintro H' ⟨s, hd⟩
      have e : (vn l).length = l.length := List.length_map ..
      rw [e, List.take_length] at hd
      refine ⟨D, _, rfl, SqL.of hd, ?_⟩
      have q : ((l.map fun n => decide (n ≤ m)).all id) = Low m l := by
        rw [List.all_map]
        rfl
      rw [q]
      exact k H' s
end
end Cam
set_option Elab.async false
set_option maxRecDepth 100000
set_option maxHeartbeats 2000000
namespace Cam
open PySem PySem.Spec PyProof.Rows L2
theorem rel_int {n : Int} {t : Tok} : RelV (.int n) (.int n t) := ⟨t, rfl⟩
theorem head_zero {l : List Nat} : (∃ n, l[0]? = some n ∧ n = 0) ↔ l.head? = some 0 := by
  cases l with
  | nil => exact ⟨fun ⟨_, h, _⟩ => (nomatch h), fun h => nomatch h⟩
  | cons a r =>
    constructor
    · rintro ⟨n, h, e⟩
      cases h
      subst e
      rfl
    · intro h
      cases h
      exact ⟨0, rfl, rfl⟩
theorem max3 (a b c : Int) : nuMax3 (.int a) (.int b) (.int c) = some (.int (max (max a b) c)) := by
  have m2 : ∀ x y : Int, nuMax2 (.int x) (.int y) = some (.int (max x y)) := fun x y => by
    show (some (decide (x < y))).map (fun c => if c = true then V.int y else V.int x) = _
    by_cases h : x < y
    · rw [decide_eq_true h]
      show some (V.int y) = _
      rw [Int.max_eq_right (Int.le_of_lt h)]
    · rw [decide_eq_false h]
      show some (V.int x) = _
      rw [Int.max_eq_left (by omega)]
  unfold nuMax3
  rw [m2]
  show nuMax2 _ _ = _
  rw [m2]
section
variable {P : Program} {w : World} {K : PySem.W.Frag} {mg : Str → Option Value} {base : Heap}
theorem scIsFoot : FnScope ["numbers"] ["numbers"] (defScope sIsFoot) := ⟨rfl, rfl, rfl, by decide +kernel, rfl, by decide +kernel, by decide +kernel⟩
theorem ok_isfoot {f fN : Addr} {fd fdN : FuncData} (F : Fun K "is_foot" "is_foot" sIsFoot f fd) (T : TxtG mg) (FN : Fun K "none_above" "none_above" sNone fN fdN) (bN : Binds K fdN ["numbers", "greatest"] []) (gN : mg "none_above" = some (.ref fN)) :
    FnOk P w K mg base CX0 2 f fd ["numbers"] (spIsFoot K) := by
  have GN : FnOk P w K mg base CX0 1 fN fdN ["numbers", "greatest"] (spNone K) := ok_none FN T
  obtain ⟨t4, g4⟩ := T.foot4
  obtain ⟨tL, gL⟩ := T.lift
  refine F.ok scIsFoot (fun vs H Q E h => ?_) (fun cdv A outer s H vs Q E hr h => ?_)
  · obtain ⟨a, l, rfl, _⟩ := h
    rfl
  · obtain ⟨a, l, rfl, hl, hs, k⟩ := h
    refine ⟨_, pss_cons (ps_if (pt_not (pt_chain op_le op_le pe_int (pe_callB call_len_seq (by rfl) T.len PySem.boot_len (pa_cons (pv 0) pa_nil)) (pe_glob rfl g4 rel_int))) (pss_one (ps_ret pe_bl)) pss_nil)
      (pss_one (ps_ret (pe_and (pe_cmpR op_eq (pe_ix ix_list (pv 0) pe_int (fun _ _ => rfl)) pe_int (nomark _)) (pe_one (pe_call GN hr rfl gN FN.kp bN .nil pass0 (pa_cons (pv 0) (pa_cons (pe_glob rfl gL rel_int) pa_nil))))))), ?_⟩
    have el : (vn l).length = l.length := List.length_map ..
    refine ⟨_, rfl, a, _, rfl, .inl hl, _, _, rfl, rfl, _, rfl, ?_⟩
    rw [el]
    by_cases c1 : (1 : Int) ≤ (l.length : Int)
    · refine if_true_of (decide_eq_true c1) ⟨_, _, rfl, rfl, _, rfl, ?_⟩
      by_cases c2 : (l.length : Int) ≤ 4
      · refine if_false_of (by rw [decide_eq_true c2]; rfl) ?_
        cases l with
        | nil => exact absurd c1 (by decide)
        | cons n r =>
          refine ⟨_, rfl, a, _, 0, .int (n : Int), rfl, rfl, hl, atI_nat (j := 0) rfl, rfl, _, rfl, ?_⟩
          by_cases c3 : n = 0
          · refine if_true_of (decide_eq_true (by rw [c3]; rfl)) ?_
            refine ⟨_, rfl, a, n :: r, 100, rfl, hl, hs, fun H' s => ?_⟩
            have e : Low 100 (n :: r) = decide (footOk (n :: r)) := by
              cases q : Low 100 (n :: r) with
              | true => exact (decide_eq_true ⟨by rw [c3]; rfl, by omega, q⟩).symm
              | false => exact (decide_eq_false fun z => by rw [z.2.2] at q; cases q).symm
            rw [e]
            exact k H' s
          · refine if_false_of (decide_eq_false fun z => c3 (by injection z with z; omega)) ?_
            have e : decide (footOk (n :: r)) = false := decide_eq_false fun z => c3 (Option.some.inj z.1)
            rw [← e]
            exact k H (Same.refl H)
      · refine if_true_of (by rw [decide_eq_false c2]; rfl) ?_
        have e : decide (footOk l) = false := decide_eq_false fun z => c2 (by have := z.2.1; omega)
        rw [← e]
        exact k H (Same.refl H)
    · refine if_false_of (decide_eq_false c1) ⟨_, rfl, ?_⟩
      refine if_true_of rfl ?_
      have e : decide (footOk l) = false := decide_eq_false fun z => by
        have := z.1
        cases l with
        | nil => cases this
        | cons _ _ => exact c1 (by rw [List.length_cons]; omega)
      rw [← e]
      exact k H (Same.refl H)
theorem scFits : FnScope ["numbers", "length", "greatest"] ["numbers", "length", "greatest"] (defScope sFits) := ⟨rfl, rfl, rfl, by decide +kernel, rfl, by decide +kernel, by decide +kernel⟩
theorem ok_fits {f fN : Addr} {fd fdN : FuncData} (F : Fun K "fits" "fits" sFits f fd) (T : TxtG mg) (FN : Fun K "none_above" "none_above" sNone fN fdN) (bN : Binds K fdN ["numbers", "greatest"] []) (gN : mg "none_above" = some (.ref fN)) :
    FnOk P w K mg base CX0 2 f fd ["numbers", "length", "greatest"] (spFits K) := by
  have GN : FnOk P w K mg base CX0 1 fN fdN ["numbers", "greatest"] (spNone K) := ok_none FN T
  refine F.ok scFits (fun vs H Q E h => ?_) (fun cdv A outer s H vs Q E hr h => ?_)
  · obtain ⟨a, l, n, m, rfl, _⟩ := h
    rfl
  · obtain ⟨a, l, n, m, rfl, hl, hs, k⟩ := h
    refine ⟨_, pss_one (ps_ret (pe_and (pe_cmpR op_eq (pe_callB call_len_seq (by rfl) T.len PySem.boot_len (pa_cons (pv 0) pa_nil)) (pv 1) (nomark _)) (pe_one (pe_call GN hr rfl gN FN.kp bN .nil pass0 (pa_cons (pv 0) (pa_cons (pv 2) pa_nil)))))), ?_⟩
    have el : (vn l).length = l.length := List.length_map ..
    refine ⟨_, rfl, a, _, rfl, .inl hl, _, rfl, rfl, _, rfl, ?_⟩
    rw [el]
    by_cases c : l.length = n
    · refine if_true_of (decide_eq_true (by rw [c])) ?_
      refine ⟨_, rfl, _, rfl, a, l, m, rfl, hl, hs, fun H' s => ?_⟩
      have e : Low m l = fits l n m := by
        unfold fits
        rw [beq_iff_eq.mpr c, Bool.true_and]
      rw [e]
      exact k H' s
    · refine if_false_of (decide_eq_false fun z => c (by injection z with z; omega)) ?_
      have e : fits l n m = false := by
        unfold fits
        rw [beq_eq_false_iff_ne.mpr c, Bool.false_and]
      rw [← e]
      exact k H (Same.refl H)
end
end Cam
set_option Elab.async false
set_option maxRecDepth 100000
set_option maxHeartbeats 2000000
namespace Cam
open PySem PySem.Spec PyProof.Rows L2
/-! ### parts of a heap -/
open Classical in
/-- the heap as far as S goes -/
noncomputable def only (S : Addr → Prop) (H : Hp) : Hp := fun b => if S b then H b else none
theorem only_some {S : Addr → Prop} {H : Hp} {b : Addr} {o : HO} : only S H b = some o ↔ S b ∧ H b = some o := by
  unfold only
  by_cases h : S b
  · rw [if_pos h]
    exact ⟨fun z => ⟨h, z⟩, fun z => z.2⟩
  · rw [if_neg h]
    exact ⟨fun (z : none = some o) => (nomatch z), fun (z : S b ∧ H b = some o) => absurd z.1 h⟩
theorem same_only {S S' : Addr → Prop} {H H' : Hp} (h : ∀ b o, S b → H b = some o → S' b ∧ H' b = some o) : Same (only S H) (only S' H') := fun b o e =>
  only_some.mpr (h b o (only_some.mp e).1 (only_some.mp e).2)
theorem only_same (S : Addr → Prop) (H : Hp) : Same (only S H) H := fun _ _ e => (only_some.mp e).2
theorem same_onlyK {S : Addr → Prop} {H H' : Hp} (s : Same H H') : Same (only S H) (only S H') := same_only fun b o h e => ⟨h, s b o e⟩
/-- what is new in H' -/
noncomputable abbrev frs (H H' : Hp) : Hp := only (fun b => H b = none) H'
def Mono {α : Type} (P : Hp → Addr → α → Prop) : Prop := ∀ (H H' : Hp) (a : Addr) (x : α), Same H H' → P H a x → P H' a x
/-- a list of such things -/
def ListOf {α : Type} (P : Hp → Addr → α → Prop) (H : Hp) (p : Addr) (xs : List α) : Prop := ∃ ts : List Addr, H p = some (.lst (ts.map V.ref)) ∧ Paired (P H) ts xs
theorem ListOf.mono {α : Type} {P : Hp → Addr → α → Prop} (m : Mono P) : Mono (ListOf P) := fun _ _ _ _ s ⟨ts, h1, h2⟩ => ⟨ts, s _ _ h1, h2.mono (fun _ _ z => m _ _ _ _ s z)⟩
/-- a list that grows at D, its things within S, none of them at D -/
def Acc {α : Type} (P : Hp → Addr → α → Prop) (S : Addr → Prop) (H : Hp) (D : Addr) (xs : List α) : Prop := ∃ ts : List Addr, H D = some (.lst (ts.map V.ref)) ∧ Paired (P (only (fun b => S b ∧ b ≠ D) H)) ts xs
section
variable {α : Type} {P : Hp → Addr → α → Prop} {S : Addr → Prop} {H H2 : Hp} {D : Addr} {xs : List α}
theorem Acc.start (h : H D = some (.lst [])) : Acc P S H D [] := ⟨[], h, .nil⟩
theorem Acc.keep (m : Mono P) (h : Acc P S H D xs) (s : Same H H2) : Acc P S H2 D xs := by
  obtain ⟨ts, h1, h2⟩ := h
  exact ⟨ts, s _ _ h1, h2.mono (fun _ _ z => m _ _ _ _ (same_onlyK s) z)⟩
theorem Acc.push (m : Mono P) (h : Acc P S H D xs) {t : Addr} {x : α} (ht : P (only (fun b => S b ∧ b ≠ D) H) t x) :
    ∃ acc, H D = some (.lst acc) ∧ acc.length = xs.length ∧ Acc P S (upd H D (.lst (acc ++ [V.ref t]))) D (xs ++ [x]) := by
  obtain ⟨ts, h1, h2⟩ := h
  have k : ∀ o, Same (only (fun b => S b ∧ b ≠ D) H) (only (fun b => S b ∧ b ≠ D) (upd H D o)) := fun o => same_only fun b u h e => ⟨h, (upd_ne h.2).trans e⟩
  refine ⟨ts.map V.ref, h1, by rw [List.length_map, h2.length], ts ++ [t], ?_, ?_⟩
  · rw [upd_same, List.map_append]
    rfl
  · exact (h2.mono (fun _ _ z => m _ _ _ _ (k _) z)).snoc (m _ _ _ _ (k _) ht)
theorem Acc.done (m : Mono P) (h : Acc P S H D xs) (hD : S D) : ListOf P (only S H) D xs := by
  obtain ⟨ts, h1, h2⟩ := h
  exact ⟨ts, only_some.mpr ⟨hD, h1⟩, h2.mono (fun _ _ z => m _ _ _ _ (same_only fun b o g e => ⟨g.1, e⟩) z)⟩
/-- what a call has made anew lies within S and not at D -/
theorem made_in {H1 : Hp} (hS : ∀ b, H1 b = none → S b) {o : HO} (hD : H1 D = some o) : Same (frs H1 H2) (only (fun b => S b ∧ b ≠ D) H2) := same_only fun b u g e => ⟨⟨hS b g, fun z => by rw [z, hD] at g; cases g⟩, e⟩
end
theorem paired_get' {α β : Type} {G : α → β → Prop} : ∀ {l : List α} {r : List β}, Paired G l r → ∀ {i : Nat} {b : β}, r[i]? = some b → ∃ a, l[i]? = some a ∧ G a b
  | _, _, .nil, i, b, h => by cases h
  | _, _, .cons g _, 0, b, h => ⟨_, rfl, by cases h; exact g⟩
  | _, _, .cons _ t, i + 1, b, h => paired_get' t h
theorem ListOf.at {α : Type} {P : Hp → Addr → α → Prop} {H : Hp} {p : Addr} {xs : List α} (h : ListOf P H p xs) : ∃ ts : List Addr, H p = some (.lst (ts.map V.ref)) ∧ ts.length = xs.length ∧ ∀ (i : Nat) (x : α), xs[i]? = some x → ∃ t, ts[i]? = some t ∧ P H t x := by
  obtain ⟨ts, h1, h2⟩ := h
  exact ⟨ts, h1, h2.length, fun i x e => paired_get' h2 e⟩
/-- a row of whole numbers at p -/
def RowAt (H : Hp) (p : Addr) (l : List Nat) : Prop := H p = some (.lst (vn l))
theorem RowAt.mono : Mono RowAt := fun _ _ _ _ s h => s _ _ h
/-- a pair of whole numbers at t -/
def DuoAt (H : Hp) (t : Addr) (q : Nat × Nat) : Prop := H t = some (.tup [.int (q.1 : Int), .int (q.2 : Int)])
theorem DuoAt.mono : Mono DuoAt := fun _ _ _ _ s h => s _ _ h
/-- what the foot reaches from a place -/
def ReachAt (n : Nat) (foot : List Nat) (H : Hp) (p : Addr) (t : Nat) : Prop := ∃ kn, Reach n t foot kn ∧ ListOf DuoAt H p kn
theorem ReachAt.mono {n : Nat} {foot : List Nat} : Mono (ReachAt n foot) := fun _ _ _ _ s ⟨kn, h1, h2⟩ => ⟨kn, h1, ListOf.mono DuoAt.mono _ _ _ _ s h2⟩
theorem frs_same (H H' : Hp) : Same (frs H H') H' := only_same _ _
theorem frs_step {H H1 H2 : Hp} (s : Same H H1) : Same (frs H1 H2) (frs H H2) := same_only fun _ _ h e => ⟨s.free h, e⟩
theorem frs_keep {H H1 H2 : Hp} (s : Same H1 H2) : Same (frs H H1) (frs H H2) := same_onlyK s
theorem ref_get {ts : List Addr} {i : Nat} {x : V} (h : (ts.map V.ref)[i]? = some x) : ∃ t, ts[i]? = some t ∧ x = V.ref t := by
  rw [List.getElem?_map] at h
  cases e : ts[i]? with
  | none => rw [e] at h; cases h
  | some n => rw [e] at h; exact ⟨n, rfl, (Option.some.inj h).symm⟩
end Cam
set_option Elab.async false
set_option maxRecDepth 100000
set_option maxHeartbeats 2000000
namespace Cam
open PySem PySem.Spec PyProof.Rows L2
theorem getD_at {r : List Nat} {j : Nat} (h : j < r.length) : r[j]? = some (r.getD j 0) := by
  rw [List.getD_eq_getElem?_getD, List.getElem?_eq_getElem h]
  rfl
theorem fmod_on {n : Nat} (hn : 0 < n) (t d : Nat) : Int.fmod ((t : Int) + (d : Int)) (n : Int) = ((Uw41.on n t d : Nat) : Int) := by
  rw [Int.fmod_eq_emod_of_nonneg _ (by omega)]
  exact on_emod n t d
theorem fmod_back {n : Nat} (hn : 0 < n) (t d : Nat) : Int.fmod ((t : Int) - (d : Int)) (n : Int) = ((Uw41.back n t d : Nat) : Int) := by
  rw [Int.fmod_eq_emod_of_nonneg _ (by omega)]
  exact back_emod hn t d
/-! ### the dict of the places reached -/
abbrev Kvs := List (Key × V)
theorem mem_put {kvs : Kvs} {k : Key} {v : V} {p : Key × V} (h : p ∈ putK kvs k v) : p ∈ kvs ∨ p = (k, v) := by
  unfold putK at h
  split at h
  · obtain ⟨q, hq, e⟩ := List.mem_map.mp h
    split at e
    · rename_i c
      exact .inr (by rw [← e, c])
    · exact .inl (by rw [← e]; exact hq)
  · rcases List.mem_append.mp h with z | z
    · exact .inl z
    · exact .inr (List.mem_singleton.mp z)
theorem put_len (kvs : Kvs) (k : Key) (v : V) : (putK kvs k v).length ≤ kvs.length + 1 := by
  unfold putK
  split
  · rw [List.length_map]
    exact Nat.le_succ _
  · rw [List.length_append]
    exact Nat.le_refl _
theorem val_mem {kvs : Kvs} {k : Key} {v : V} (h : valV kvs k = some v) : (k, v) ∈ kvs := by
  induction kvs with
  | nil => cases h
  | cons p r ih =>
    by_cases e : p.1 = k
    · rw [valV_pos e] at h
      cases h
      rw [← e]
      exact List.mem_cons_self
    · rw [valV_neg e] at h
      exact List.mem_cons_of_mem _ (ih h)
abbrev nk (q : Nat) : Key := Sum.inl (q : Int)
/-- the entries are of the foot's first j numbers (aside) -/
def From (n t : Nat) (foot : List Nat) (kvs : Kvs) : Prop := ∀ p ∈ kvs, ∃ d l q : Nat, foot[d]? = some l ∧ (q = Uw41.on n t d ∨ q = Uw41.back n t d) ∧ p = (nk q, V.int (l : Int))
/-- the entry at q is at most f -/
def Low1 (kvs : Kvs) (q f : Nat) : Prop := ∃ l : Nat, l ≤ f ∧ valV kvs (nk q) = some (V.int (l : Int))
theorem low_step {n t : Nat} {foot : List Nat} {kvs : Kvs} (F : From n t foot kvs) {q d f : Nat} (hf : foot[d]? = some f) (hq : q = Uw41.on n t d ∨ q = Uw41.back n t d) :
    ∃ l : Nat, ((valV kvs (nk q)).getD (.int (f : Int)) = .int (l : Int)) ∧ From n t foot (putK kvs (nk q) (.int (if (l : Int) < (f : Int) then (l : Int) else (f : Int)))) ∧
      (∀ q' f', Low1 kvs q' f' → Low1 (putK kvs (nk q) (.int (if (l : Int) < (f : Int) then (l : Int) else (f : Int)))) q' f') ∧ Low1 (putK kvs (nk q) (.int (if (l : Int) < (f : Int) then (l : Int) else (f : Int)))) q f := by
  have key : ∃ l : Nat, ((valV kvs (nk q)).getD (.int (f : Int)) = .int (l : Int)) ∧ (∀ v, valV kvs (nk q) = some v → v = .int (l : Int)) ∧ ∃ d', foot[d']? = some l ∧ (q = Uw41.on n t d' ∨ q = Uw41.back n t d') := by
    cases e : valV kvs (nk q) with
    | none => exact ⟨f, rfl, (fun v z => by cases z), d, hf, hq⟩
    | some v =>
      obtain ⟨d', l, q', h1, h2, h3⟩ := F _ (val_mem e)
      injection h3 with h4 h5
      have eq : q = q' := by
        injection h4 with h4
        omega
      subst eq
      exact ⟨l, by rw [h5]; rfl, (fun w z => by cases z; exact h5), d', h1, h2⟩
  obtain ⟨l, h1, h2, d', h3, h4⟩ := key
  obtain ⟨m, hm, hml, hmf, hmd⟩ : ∃ m : Nat, (if (l : Int) < (f : Int) then (l : Int) else (f : Int)) = (m : Int) ∧ m ≤ l ∧ m ≤ f ∧ ∃ d', foot[d']? = some m ∧ (q = Uw41.on n t d' ∨ q = Uw41.back n t d') := by
    by_cases c : (l : Int) < (f : Int)
    · exact ⟨l, if_pos c, Nat.le_refl _, by omega, d', h3, h4⟩
    · exact ⟨f, if_neg c, by omega, Nat.le_refl _, d, hf, hq⟩
  refine ⟨l, h1, ?_⟩
  rw [hm]
  refine ⟨fun p hp => ?_, fun q' f' ⟨x, x1, x2⟩ => ?_, m, hmf, ?_⟩
  · rcases mem_put hp with z | z
    · exact F p z
    · obtain ⟨d2, g1, g2⟩ := hmd
      exact ⟨d2, m, q, g1, g2, z⟩
  · by_cases c : q' = q
    · subst c
      have := h2 _ x2
      injection this with this
      exact ⟨m, by omega, by rw [valV_put, if_pos rfl]⟩
    · refine ⟨x, x1, ?_⟩
      rw [valV_put, if_neg (fun z => c (by injection z with z; omega))]
      exact x2
  · rw [valV_put, if_pos rfl]
/-- the dict behind the foot's first i numbers -/
structure RInv (n t : Nat) (foot : List Nat) (i : Nat) (kvs : Kvs) : Prop where
  len : kvs.length ≤ 2 * i
  of : From n t foot kvs
  low : ∀ d f, d < i → foot[d]? = some f → Low1 kvs (Uw41.on n t d) f ∧ Low1 kvs (Uw41.back n t d) f
theorem RInv.reach {n t : Nat} {foot : List Nat} {kvs : Kvs} (h : RInv n t foot foot.length kvs) : ∃ kn : List (Nat × Nat), Reach n t foot kn ∧ kvs = kn.map fun q => (nk q.1, V.int (q.2 : Int)) := by
  obtain ⟨kn, e⟩ : ∃ kn : List (Nat × Nat), kvs = kn.map fun q => (nk q.1, V.int (q.2 : Int)) := by
    have F := h.of
    clear h
    induction kvs with
    | nil => exact ⟨[], rfl⟩
    | cons p r ih =>
      obtain ⟨kn, e⟩ := ih fun x hx => F x (List.mem_cons_of_mem _ hx)
      obtain ⟨d, l, q, _, _, e2⟩ := F p List.mem_cons_self
      exact ⟨(q, l) :: kn, by rw [e2, e]; rfl⟩
  have inv : ∀ q l : Nat, (nk q, V.int (l : Int)) ∈ kvs → (q, l) ∈ kn := fun q l z => by
    rw [e] at z
    obtain ⟨⟨a, b⟩, h1, h2⟩ := List.mem_map.mp z
    injection h2 with h3 h4
    injection h3 with h3
    injection h4 with h4
    have e1 : a = q := by
      have h3' : ((a : Nat) : Int) = (q : Int) := h3
      omega
    have e2 : b = l := by
      have h4' : ((b : Nat) : Int) = (l : Int) := h4
      omega
    rw [← e1, ← e2]
    exact h1
  refine ⟨kn, ⟨?_, fun q l z => ?_, fun d f hf => ?_, fun d f hf => ?_⟩, e⟩
  · have := h.len
    rw [e, List.length_map] at this
    exact this
  · obtain ⟨d, l', q', h1, h2, h3⟩ := h.of (nk q, V.int (l : Int)) (by rw [e]; exact List.mem_map.mpr ⟨(q, l), z, rfl⟩)
    injection h3 with h3 h4
    injection h3 with h3
    injection h4 with h4
    have e1 : q = q' := by omega
    have e2 : l = l' := by omega
    subst e1 e2
    exact ⟨d, h1, h2⟩
  · obtain ⟨⟨l, h1, h2⟩, _⟩ := h.low d f (get_lt hf) hf
    exact ⟨l, h1, inv _ _ (val_mem h2)⟩
  · obtain ⟨_, ⟨l, h1, h2⟩⟩ := h.low d f (get_lt hf) hf
    exact ⟨l, h1, inv _ _ (val_mem h2)⟩
end Cam
set_option Elab.async false
set_option maxRecDepth 100000
set_option maxHeartbeats 2000000
namespace Cam
open PySem PySem.Spec PyProof.Rows L2
/-- reach_from: a new list of pairs, what the foot reaches -/
def spReach (K : PySem.W.Frag) : Sp := fun vs H Q _ => ∃ (a : Addr) (t n : Nat) (foot : List Nat), vs = [.int (t : Int), .int (n : Int), .ref a] ∧ SqL K H a (vn foot) ∧ 0 < n ∧ foot.length ≤ 4 ∧
  ∀ (H' : Hp) (p : Addr), Same H H' → ReachAt n foot (frs H H') p t → Q (.ref p) H'
/-- the dict within a turn: j of the two places are done -/
structure RMid (n t : Nat) (foot : List Nat) (i f j : Nat) (kvs : Kvs) : Prop where
  len : kvs.length ≤ 2 * i + j
  of : From n t foot kvs
  low : ∀ d f, d < i → foot[d]? = some f → Low1 kvs (Uw41.on n t d) f ∧ Low1 kvs (Uw41.back n t d) f
  one : 1 ≤ j → Low1 kvs (Uw41.on n t i) f
  two : 2 ≤ j → Low1 kvs (Uw41.back n t i) f
/-- the place asked at turn j -/
def place2 (n t i j : Nat) : Nat := if j = 0 then Uw41.on n t i else Uw41.back n t i
theorem RMid.step {n t i f j : Nat} {foot : List Nat} {kvs : Kvs} (h : RMid n t foot i f j kvs) (hf : foot[i]? = some f) (hj : j < 2) :
    ∃ l : Nat, ((valV kvs (nk (place2 n t i j))).getD (.int (f : Int)) = .int (l : Int)) ∧ RMid n t foot i f (j + 1) (putK kvs (nk (place2 n t i j)) (.int (if (l : Int) < (f : Int) then (l : Int) else (f : Int)))) := by
  obtain ⟨l, h1, h2, h3, h4⟩ := low_step h.of hf (q := place2 n t i j) (by unfold place2; split; exact .inl rfl; exact .inr rfl)
  refine ⟨l, h1, ?_, h2, fun d f' hd hf' => ⟨h3 _ _ (h.low d f' hd hf').1, h3 _ _ (h.low d f' hd hf').2⟩, fun _ => ?_, fun c => ?_⟩
  · have := put_len kvs (nk (place2 n t i j)) (.int (if (l : Int) < (f : Int) then (l : Int) else (f : Int)))
    have := h.len
    omega
  · by_cases c : j = 0
    · have e : place2 n t i j = Uw41.on n t i := if_pos c
      rw [e] at h4 ⊢
      exact h4
    · exact h3 _ _ (h.one (by omega))
  · have e : place2 n t i j = Uw41.back n t i := if_neg (by omega)
    rw [e] at h4 ⊢
    exact h4
theorem tup2_get {x y z : V} {j : Nat} (h : [x, y][j]? = some z) : (j = 0 ∧ z = x) ∨ (j = 1 ∧ z = y) := by
  cases j with
  | zero => exact .inl ⟨rfl, (Option.some.inj h).symm⟩
  | succ j => cases j with
    | zero => exact .inr ⟨rfl, (Option.some.inj h).symm⟩
    | succ j => cases h
abbrev mOn (n t i : Nat) : Int := Int.fmod ((t : Int) + (i : Int)) (n : Int)
abbrev mBack (n t i : Nat) : Int := Int.fmod ((t : Int) - (i : Int)) (n : Int)
section
variable {P : Program} {w : World} {K : PySem.W.Frag} {mg : Str → Option Value} {base : Heap}
theorem scReach : FnScope ["place", "places", "foot", "lifts", "aside", "lift", "other"] ["place", "places", "foot"] (defScope sReach) := ⟨rfl, rfl, rfl, by decide +kernel, rfl, by decide +kernel, by decide +kernel⟩
theorem ok_reach {f : Addr} {fd : FuncData} (F : Fun K "reach_from" "reach_from" sReach f fd) (T : TxtG mg) : FnOk P w K mg base CX0 1 f fd ["place", "places", "foot"] (spReach K) := by
  refine F.ok scReach (fun vs H Q E h => ?_) (fun cdv A outer s H vs Q E hr h => ?_)
  · obtain ⟨a, t, n, foot, rfl, _⟩ := h
    rfl
  · obtain ⟨a, t, n, foot, rfl, ha, hn, hs, k⟩ := h
    have hu := hu_of hr
    refine ⟨_, pss_cons (ps_set (i := 3) scReach.nd rfl (Or.inl rfl) pe_dnewK)
      (pss_cons (ps_for PassesOwn.never rfl (pi_enum (by rfl) T.enum (pa_cons (pv 2) pa_nil)) (pg_tup rfl (pgs_cons (pg_name (i := 4) scReach.nd rfl (Or.inl rfl)) (pgs_cons (pg_name (i := 5) scReach.nd rfl (Or.inl rfl)) pgs_nil)))
        (pss_one (ps_for PassesOwn.never rfl (pi_tup (pe_tup (pa_cons (pe_op op_modN (pe_op op_add (pv 0) (pv 4)) (pv 1)) (pa_cons (pe_op op_modN (pe_op op_sub (pv 0) (pv 4)) (pv 1)) pa_nil)))) (pg_name (i := 6) scReach.nd rfl (Or.inl rfl))
          (pss_one (ps_dput hu (pv 3) (pv 6) (pe_callB (call_min2 rfl) (by rfl) T.min (by decide +kernel) (pa_cons (pv 5) (pa_cons (pe_dget2 hu (pv 3) (pv 6) (pv 5) ⟨rfl, rfl, rfl, rfl⟩) pa_nil))) rfl)))))
      (pss_one (ps_ret (LiI.pe_listItems rfl (pv 3) (by rfl) T.list (by decide +kernel))))), ?_⟩
    have ef : (vn foot).length = foot.length := List.length_map ..
    intro D hD
    refine ⟨_, rfl, a, _, rfl, (same_new hD).seq ha, for_it (walk_enum (K := K) (a := a) (xs := vn foot)) (fun i σ H' => ∃ (v4 v5 v6 : Option V) (kvs : Kvs), σ = [some (.int (t : Int)), some (.int (n : Int)), some (.ref a), some (.ref D), v4, v5, v6] ∧ Same H H' ∧ H' D = some (.dK kvs) ∧ RInv n t foot i kvs)
      ⟨none, none, none, [], rfl, same_new hD, upd_same, Nat.zero_le _, (fun p hp => nomatch hp), fun d f hd => absurd hd (Nat.not_lt_zero _)⟩ (fun i σ H' _ ⟨_, _, _, _, _, s, _⟩ => s.seq ha) ?_ ?_⟩
    · rintro i x σ H0 H1 hi ⟨v4, v5, v6, kvs, rfl, s0, hd, R⟩ ⟨p, y, z, rfl, hp, rfl, hy, hz⟩
      cases hy
      obtain ⟨l, hl, rfl⟩ := vn_get hz
      have s1 : Same H (upd H0 p (.tup [.int (i : Nat), .int (l : Int)])) := same_upd s0 (s0.free hp)
      have hd1 : upd H0 p (.tup [.int (i : Nat), .int (l : Int)]) D = some (.dK kvs) := same_new hp _ _ hd
      refine ⟨p, _, rfl, SqT.of upd_same, rfl, _, _, rfl, _, _, rfl, rfl, ?_⟩
      refine ⟨_, rfl, _, rfl, _, _, rfl, rfl, _, rfl, _, _, rfl, rfl, (by omega), ?_⟩
      refine ⟨_, rfl, _, rfl, _, _, rfl, rfl, _, rfl, _, _, rfl, rfl, (by omega), ?_⟩
      refine ⟨(by show 2 ≤ sizeLine; decide), fun tp htp => ⟨tp, rfl, ⟨_, SqT.of upd_same⟩, ?_⟩⟩
      have s2 := same_upd (o := .tup [.int (mOn n t i), .int (mBack n t i)]) s1 (s1.free htp)
      have ntD : tp ≠ D := fun z => by rw [z, hd1] at htp; cases htp
      refine for_it (walk_tup (K := K) (a := tp) (xs := [.int (mOn n t i), .int (mBack n t i)])) (fun j σ H' => ∃ (v6 : Option V) (kvs : Kvs), σ = [some (.int (t : Int)), some (.int (n : Int)), some (.ref a), some (.ref D), some (.int (i : Int)), some (.int (l : Int)), v6] ∧ Same H H' ∧ H' tp = some (.tup [.int (mOn n t i), .int (mBack n t i)]) ∧ H' D = some (.dK kvs) ∧ RMid n t foot i l j kvs)
        ⟨v6, kvs, rfl, s2, upd_same, (upd_ne (Ne.symm ntD)).trans hd1, R.len, R.of, R.low, fun z => absurd z (by decide), fun z => absurd z (by decide)⟩ (fun j σ H' _ ⟨_, _, _, _, h, _⟩ => SqT.of h) ?_ ?_
      · rintro j x σ H3 H3' hj ⟨v6, kvs3, rfl, s3, ht3, hd3, M⟩ ⟨rfl, hx⟩
        have hx' : x = .int ((place2 n t i j : Nat) : Int) := by
          rcases tup2_get hx with ⟨e1, e2⟩ | ⟨e1, e2⟩
          · rw [e2, e1, mOn, fmod_on hn]; rfl
          · rw [e2, e1, mBack, fmod_back hn]; rfl
        subst hx'
        obtain ⟨m, m1, m2⟩ := M.step hl hj
        have hlen := M.len
        refine ⟨_, rfl, _, rfl, D, rfl, .inl ⟨_, .inl hd3⟩, _, rfl, _, rfl, _, DGet.k (k := nk (place2 n t i j)) hd3, _, _, congrArg (fun z => [V.int (l : Int), z]) m1, ?_⟩
        refine ⟨_, rfl, _, rfl, D, _, rfl, DPut.k (k := nk (place2 n t i j)) hd3 ?_, ?_⟩
        · have hj2 : j < 2 := hj
          rw [ef] at hi
          exact small12 (by omega)
        · exact ⟨_, _, rfl, same_upd s3 hD, (upd_ne ntD).trans ht3, upd_same, m2⟩
      · rintro σ H3 ⟨v6, kvs3, rfl, s3, ht3, hd3, M⟩
        have M' : RMid n t foot i l 2 kvs3 := M
        refine ⟨_, _, _, kvs3, rfl, s3, hd3, M'.len, M'.of, fun d f hd hf => ?_⟩
        by_cases c : d < i
        · exact M'.low d f c hf
        · have e : d = i := by omega
          subst e
          rw [hl] at hf
          cases hf
          exact ⟨M'.one (by decide), M'.two (by decide)⟩
    · rintro σ H' ⟨v4, v5, v6, kvs, rfl, s', hd, R⟩
      rw [ef] at R
      obtain ⟨kn, hR, e⟩ := R.reach
      refine ⟨_, rfl, D, kvs, rfl, hd, fun H2 p ts k2 hp hts hpt h2 hpair => ?_⟩
      have s2 : Same H' H2 := k2
      refine k H2 p (s'.trans s2) ⟨kn, hR, ts, only_some.mpr ⟨s'.free hp, h2⟩, ?_⟩
      have f1 : ∀ t ∈ ts, H t = none := fun t ht => s'.free (hts t ht)
      rw [e] at hpair
      clear R hR h2 hpt hts e
      generalize hP : (fun (t : Addr) (q : Key × V) => H2 t = some (HO.tup [kV q.1, q.2])) = G at hpair
      generalize hm : (kn.map fun q => ((nk q.1, V.int (q.2 : Int)) : Key × V)) = ks at hpair
      induction hpair generalizing kn with
      | nil =>
        cases kn with
        | nil => exact .nil
        | cons _ _ => cases hm
      | cons g _ ih =>
        cases kn with
        | nil => cases hm
        | cons q kn =>
          injection hm with h1 h2
          subst hP h1
          exact .cons (only_some.mpr ⟨f1 _ List.mem_cons_self, g⟩) (ih kn (fun t ht => f1 t (List.mem_cons_of_mem _ ht)) h2)
end
end Cam
set_option Elab.async false
set_option maxRecDepth 100000
set_option maxHeartbeats 2000000
namespace Cam
open PySem PySem.Spec PyProof.Rows L2
def spHeight (K : PySem.W.Frag) : Sp := fun vs H Q _ => ∃ (a b : Addr) (n t : Nat) (r foot : List Nat), vs = [.ref a, .ref b] ∧ SqL K H a (vn r) ∧ ReachAt n foot H b t ∧ r.length = n ∧ 0 < n ∧ foot.length ≤ 4 ∧ foot.head? = some 0 ∧
  ∀ H' : Hp, Same H H' → Q (.int (Uw41.height foot r t : Nat)) H'
def spRadius (K : PySem.W.Frag) : Sp := fun vs H Q _ => ∃ (a b : Addr) (n t : Nat) (r foot : List Nat), vs = [.ref a, .ref b] ∧ SqL K H a (vn r) ∧ ReachAt n foot H b t ∧ r.length = n ∧ 0 < n ∧ foot.length ≤ 4 ∧ foot.head? = some 0 ∧
  ∀ H' : Hp, Same H H' → Q (.int (radius foot r t : Nat)) H'
/-- the list of what is reached, place by place -/
def ReachesAt (n : Nat) (foot : List Nat) (H : Hp) (p : Addr) : Prop := ListOf (ReachAt n foot) H p (List.range n)
def spMotion (K : PySem.W.Frag) : Sp := fun vs H Q _ => ∃ (a b : Addr) (n : Nat) (r foot : List Nat), vs = [.ref a, .ref b] ∧ SqL K H a (vn r) ∧ ReachesAt n foot H b ∧ r.length = n ∧ 0 < n ∧ n ≤ 8 ∧ foot.length ≤ 4 ∧ foot.head? = some 0 ∧
  ∀ (H' : Hp) (p : Addr), Same H H' → H p = none → H' p = some (.lst (vn (Uw41.motion foot r))) → Q (.ref p) H'
def spCut (K : PySem.W.Frag) : Sp := fun vs H Q _ => ∃ (a b : Addr) (n : Nat) (r foot : List Nat), vs = [.ref a, .ref b] ∧ SqL K H a (vn r) ∧ ReachesAt n foot H b ∧ r.length = n ∧ 0 < n ∧ n ≤ 8 ∧ foot.length ≤ 4 ∧ foot.head? = some 0 ∧
  ∀ (H' : Hp) (p : Addr), Same H H' → H p = none → H' p = some (.lst (vn (Uw41.cut foot r))) → Q (.ref p) H'
theorem vz_append (a b : List Int) : vz (a ++ b) = vz a ++ vz b := List.map_append ..
theorem vn_append (a b : List Nat) : vn (a ++ b) = vn a ++ vn b := List.map_append ..
section
variable {P : Program} {w : World} {K : PySem.W.Frag} {mg : Str → Option Value} {base : Heap}
theorem scHeight : FnScope ["radii", "reach", "place", "lift"] ["radii", "reach"] (defScope sHeight) := ⟨rfl, rfl, rfl, by decide +kernel, rfl, by decide +kernel, by decide +kernel⟩
theorem ok_height {f : Addr} {fd : FuncData} (F : Fun K "height_over" "height_over" sHeight f fd) (T : TxtG mg) : FnOk P w K mg base CX0 1 f fd ["radii", "reach"] (spHeight K) := by
  refine F.ok scHeight (fun vs H Q E h => ?_) (fun cdv A outer s H vs Q E hr h => ?_)
  · obtain ⟨a, b, n, t, r, foot, rfl, _⟩ := h
    rfl
  · obtain ⟨a, b, n, t, r, foot, rfl, ha, hb, hn, h0, h4, f0, k⟩ := h
    obtain ⟨kn, hR, hL⟩ := hb
    obtain ⟨ts, hts, hlen, hat⟩ := hL.at
    refine ⟨_, pss_one (ps_ret (pe_callB (cr_max rfl) (by rfl) T.max (by decide +kernel) (pa_cons
      (pe_lc (own := [("place", 2), ("lift", 3)]) (g := gTup K 2 (gCons (gName 2) (gCons (gName 3) gNil))) (tt := tYes) (te := tOp (rI0 fun i j => .int (i - j)) (tOp (rIxL K) (tVar 0) (tVar 2)) (tVar 3)) rfl scHeight.nd (pi_list (pv 1)) (blkOk_by (N := ["radii", "reach", "place", "lift"]) (sc := defScope sHeight) (by decide +kernel))
        (fun _ _ _ _ _ => pg_tup rfl (pgs_cons (pg_name (i := 2) scHeight.nd rfl (Or.inl rfl)) (pgs_cons (pg_name (i := 3) scHeight.nd rfl (Or.inl rfl)) pgs_nil))) (fun _ _ _ _ _ => pts_nil) (fun _ _ _ _ _ => pe_op op_sub (pe_ix ix_list (pv 0) (pv 2) (fun _ _ => rfl)) (pv 3))) pa_nil))), ?_⟩
    have er : (ts.map V.ref).length = kn.length := by rw [List.length_map, hlen]
    have sm := hR.small
    refine ⟨_, rfl, b, rfl, ⟨_, SqL.of hts⟩, fun D hD => lc_list (K := K) (a := b) (xs := ts.map V.ref) (fun i H' => Same H H' ∧ H' D = some (.lst (vz (overs r (kn.take i))))) ⟨same_new hD, upd_same⟩ (fun i H' _ ⟨s, _⟩ => SqL.of (s _ _ hts)) ?_ ?_⟩
    · rintro i x H' hx ⟨s, hd⟩
      obtain ⟨t', ht', rfl⟩ := ref_get hx
      have hi : i < kn.length := by rw [← hlen]; exact get_lt ht'
      obtain ⟨t2, e2, hq⟩ := hat i kn[i] (List.getElem?_eq_getElem hi)
      rw [ht'] at e2
      cases e2
      have hm : (kn[i].1, kn[i].2) ∈ kn := List.getElem_mem hi
      have hlt := hR.lt h0 hm
      refine ⟨t', _, rfl, SqT.of (s _ _ hq), rfl, _, _, rfl, _, _, rfl, rfl, rfl, lc_yes ?_⟩
      refine ⟨_, rfl, _, rfl, a, vn r, _, .int (r.getD kn[i].1 0 : Nat), rfl, rfl, s.seq ha, atI_nat (vn_at (getD_at (by omega))), _, rfl, _, _, rfl, rfl, _, hd, ?_, same_upd s hD, ?_⟩
      · rw [List.length_map, List.length_map, List.length_take]
        exact small12 (by omega)
      · rw [upd_same, take_more (List.getElem?_eq_getElem hi)]
        show _ = some (HO.lst (vz ((kn.take i ++ [kn[i]]).map _)))
        rw [List.map_append, vz_append]
        rfl
    · rintro H' ⟨s, hd⟩
      rw [er, List.take_length] at hd
      refine ⟨D, overs r kn, rfl, SqL.of hd, (by rw [List.length_map]; exact hR.some f0), fun m hm hx => ?_⟩
      rw [over_is hR hn f0 hm hx]
      exact k H' s
theorem scRadius : FnScope ["left", "reach", "place", "lift"] ["left", "reach"] (defScope sRadius) := ⟨rfl, rfl, rfl, by decide +kernel, rfl, by decide +kernel, by decide +kernel⟩
theorem ok_radius {f : Addr} {fd : FuncData} (F : Fun K "radius_under" "radius_under" sRadius f fd) (T : TxtG mg) : FnOk P w K mg base CX0 1 f fd ["left", "reach"] (spRadius K) := by
  refine F.ok scRadius (fun vs H Q E h => ?_) (fun cdv A outer s H vs Q E hr h => ?_)
  · obtain ⟨a, b, n, t, r, foot, rfl, _⟩ := h
    rfl
  · obtain ⟨a, b, n, t, r, foot, rfl, ha, hb, hn, h0, h4, f0, k⟩ := h
    obtain ⟨kn, hR, hL⟩ := hb
    obtain ⟨ts, hts, hlen, hat⟩ := hL.at
    refine ⟨_, pss_one (ps_ret (pe_callB (cr_min rfl) (by rfl) T.min (by decide +kernel) (pa_cons
      (pe_lc (own := [("place", 2), ("lift", 3)]) (g := gTup K 2 (gCons (gName 2) (gCons (gName 3) gNil))) (tt := tYes) (te := tOp (rI0 fun i j => .int (i + j)) (tOp (rIxL K) (tVar 0) (tVar 2)) (tVar 3)) rfl scRadius.nd (pi_list (pv 1)) (blkOk_by (N := ["left", "reach", "place", "lift"]) (sc := defScope sRadius) (by decide +kernel))
        (fun _ _ _ _ _ => pg_tup rfl (pgs_cons (pg_name (i := 2) scRadius.nd rfl (Or.inl rfl)) (pgs_cons (pg_name (i := 3) scRadius.nd rfl (Or.inl rfl)) pgs_nil))) (fun _ _ _ _ _ => pts_nil) (fun _ _ _ _ _ => pe_op op_add (pe_ix ix_list (pv 0) (pv 2) (fun _ _ => rfl)) (pv 3))) pa_nil))), ?_⟩
    have er : (ts.map V.ref).length = kn.length := by rw [List.length_map, hlen]
    have sm := hR.small
    refine ⟨_, rfl, b, rfl, ⟨_, SqL.of hts⟩, fun D hD => lc_list (K := K) (a := b) (xs := ts.map V.ref) (fun i H' => Same H H' ∧ H' D = some (.lst (vz (unders r (kn.take i))))) ⟨same_new hD, upd_same⟩ (fun i H' _ ⟨s, _⟩ => SqL.of (s _ _ hts)) ?_ ?_⟩
    · rintro i x H' hx ⟨s, hd⟩
      obtain ⟨t', ht', rfl⟩ := ref_get hx
      have hi : i < kn.length := by rw [← hlen]; exact get_lt ht'
      obtain ⟨t2, e2, hq⟩ := hat i kn[i] (List.getElem?_eq_getElem hi)
      rw [ht'] at e2
      cases e2
      have hm : (kn[i].1, kn[i].2) ∈ kn := List.getElem_mem hi
      have hlt := hR.lt h0 hm
      refine ⟨t', _, rfl, SqT.of (s _ _ hq), rfl, _, _, rfl, _, _, rfl, rfl, rfl, lc_yes ?_⟩
      refine ⟨_, rfl, _, rfl, a, vn r, _, .int (r.getD kn[i].1 0 : Nat), rfl, rfl, s.seq ha, atI_nat (vn_at (getD_at (by omega))), _, rfl, _, _, rfl, rfl, _, hd, ?_, same_upd s hD, ?_⟩
      · rw [List.length_map, List.length_map, List.length_take]
        exact small12 (by omega)
      · rw [upd_same, take_more (List.getElem?_eq_getElem hi)]
        show _ = some (HO.lst (vz ((kn.take i ++ [kn[i]]).map _)))
        rw [List.map_append, vz_append]
        rfl
    · rintro H' ⟨s, hd⟩
      rw [er, List.take_length] at hd
      refine ⟨D, unders r kn, rfl, SqL.of hd, (by rw [List.length_map]; exact hR.some f0), fun m hm hx => ?_⟩
      rw [under_is hR hn hm hx]
      exact k H' s
theorem scMotion : FnScope ["radii", "reaches", "reach"] ["radii", "reaches"] (defScope sMotion) := ⟨rfl, rfl, rfl, by decide +kernel, rfl, by decide +kernel, by decide +kernel⟩
theorem ok_motion {f fN : Addr} {fd fdN : FuncData} (F : Fun K "motion_of" "motion_of" sMotion f fd) (T : TxtG mg) (FN : Fun K "height_over" "height_over" sHeight fN fdN) (bN : Binds K fdN ["radii", "reach"] []) (gN : mg "height_over" = some (.ref fN)) :
    FnOk P w K mg base CX0 2 f fd ["radii", "reaches"] (spMotion K) := by
  have GN : ∀ base : Heap, FnOk P w K mg base CX0 1 fN fdN ["radii", "reach"] (spHeight K) := fun base => ok_height FN T
  refine F.ok scMotion (fun vs H Q E h => ?_) (fun cdv A outer s H vs Q E hr h => ?_)
  · obtain ⟨a, b, n, r, foot, rfl, _⟩ := h
    rfl
  · obtain ⟨a, b, n, r, foot, rfl, ha, hb, hn, h0, h8, h4, f0, k⟩ := h
    obtain ⟨ts, hts, hlen, hat⟩ := ListOf.at hb
    rw [List.length_range] at hlen
    refine ⟨_, pss_one (ps_ret (pe_lc (own := [("reach", 2)]) (g := gName 2) (tt := tYes) rfl scMotion.nd (pi_list (pv 1)) (blkOk_by (N := ["radii", "reaches", "reach"]) (sc := defScope sMotion) (by decide +kernel))
        (fun _ _ _ _ _ => pg_name (i := 2) scMotion.nd rfl (Or.inl rfl)) (fun _ _ _ _ _ => pts_nil) (fun _ _ _ _ _ => pe_call (GN _) hr rfl gN FN.kp bN .nil pass0 (pa_cons (pv 0) (pa_cons (pv 2) pa_nil))))), ?_⟩
    have er : (ts.map V.ref).length = n := by rw [List.length_map, hlen]
    refine ⟨_, rfl, b, rfl, ⟨_, SqL.of hts⟩, fun D hD => lc_list (K := K) (a := b) (xs := ts.map V.ref) (fun i H' => Same H H' ∧ H' D = some (.lst (vn ((List.range i).map (Uw41.height foot r))))) ⟨same_new hD, upd_same⟩ (fun i H' _ ⟨s, _⟩ => SqL.of (s _ _ hts)) ?_ ?_⟩
    · rintro i x H' hx ⟨s, hd⟩
      obtain ⟨t', ht', rfl⟩ := ref_get hx
      have hi : i < n := by rw [← hlen]; exact get_lt ht'
      obtain ⟨t2, e2, hq⟩ := hat i i (List.getElem?_range hi)
      rw [ht'] at e2
      cases e2
      refine ⟨rfl, lc_yes ?_⟩
      refine ⟨_, rfl, _, rfl, a, t', n, i, r, foot, rfl, s.seq ha, ReachAt.mono _ _ _ _ s hq, hn, h0, h4, f0, fun H2 s2 => ⟨_, s2 _ _ hd, ?_, same_upd (s.trans s2) hD, ?_⟩⟩
      · rw [List.length_map, List.length_map, List.length_range]
        exact small12 (by omega)
      · rw [upd_same, List.range_succ, List.map_append, vn_append]
        rfl
    · rintro H' ⟨s, hd⟩
      rw [er] at hd
      refine k H' D s hD ?_
      rw [hd]
      unfold Uw41.motion
      rw [hn]
theorem scCut : FnScope ["left", "reaches", "reach"] ["left", "reaches"] (defScope sCut) := ⟨rfl, rfl, rfl, by decide +kernel, rfl, by decide +kernel, by decide +kernel⟩
theorem ok_cut {f fN : Addr} {fd fdN : FuncData} (F : Fun K "cut_from" "cut_from" sCut f fd) (T : TxtG mg) (FN : Fun K "radius_under" "radius_under" sRadius fN fdN) (bN : Binds K fdN ["left", "reach"] []) (gN : mg "radius_under" = some (.ref fN)) :
    FnOk P w K mg base CX0 2 f fd ["left", "reaches"] (spCut K) := by
  have GN : ∀ base : Heap, FnOk P w K mg base CX0 1 fN fdN ["left", "reach"] (spRadius K) := fun base => ok_radius FN T
  refine F.ok scCut (fun vs H Q E h => ?_) (fun cdv A outer s H vs Q E hr h => ?_)
  · obtain ⟨a, b, n, r, foot, rfl, _⟩ := h
    rfl
  · obtain ⟨a, b, n, r, foot, rfl, ha, hb, hn, h0, h8, h4, f0, k⟩ := h
    obtain ⟨ts, hts, hlen, hat⟩ := ListOf.at hb
    rw [List.length_range] at hlen
    refine ⟨_, pss_one (ps_ret (pe_lc (own := [("reach", 2)]) (g := gName 2) (tt := tYes) rfl scCut.nd (pi_list (pv 1)) (blkOk_by (N := ["left", "reaches", "reach"]) (sc := defScope sCut) (by decide +kernel))
        (fun _ _ _ _ _ => pg_name (i := 2) scCut.nd rfl (Or.inl rfl)) (fun _ _ _ _ _ => pts_nil) (fun _ _ _ _ _ => pe_call (GN _) hr rfl gN FN.kp bN .nil pass0 (pa_cons (pv 0) (pa_cons (pv 2) pa_nil))))), ?_⟩
    have er : (ts.map V.ref).length = n := by rw [List.length_map, hlen]
    refine ⟨_, rfl, b, rfl, ⟨_, SqL.of hts⟩, fun D hD => lc_list (K := K) (a := b) (xs := ts.map V.ref) (fun i H' => Same H H' ∧ H' D = some (.lst (vn ((List.range i).map (radius foot r))))) ⟨same_new hD, upd_same⟩ (fun i H' _ ⟨s, _⟩ => SqL.of (s _ _ hts)) ?_ ?_⟩
    · rintro i x H' hx ⟨s, hd⟩
      obtain ⟨t', ht', rfl⟩ := ref_get hx
      have hi : i < n := by rw [← hlen]; exact get_lt ht'
      obtain ⟨t2, e2, hq⟩ := hat i i (List.getElem?_range hi)
      rw [ht'] at e2
      cases e2
      refine ⟨rfl, lc_yes ?_⟩
      refine ⟨_, rfl, _, rfl, a, t', n, i, r, foot, rfl, s.seq ha, ReachAt.mono _ _ _ _ s hq, hn, h0, h4, f0, fun H2 s2 => ⟨_, s2 _ _ hd, ?_, same_upd (s.trans s2) hD, ?_⟩⟩
      · rw [List.length_map, List.length_map, List.length_range]
        exact small12 (by omega)
      · rw [upd_same, List.range_succ, List.map_append, vn_append]
        rfl
    · rintro H' ⟨s, hd⟩
      rw [er] at hd
      refine k H' D s hD ?_
      rw [hd, cut_eq, hn]
end
end Cam
set_option Elab.async false
set_option maxRecDepth 100000
set_option maxHeartbeats 2000000
namespace Cam
open PySem PySem.Spec PyProof.Rows L2
/-- a new row -/
abbrev NewRow (H : Hp) (l : List Nat) (Q : VK) : Prop := ∀ (H' : Hp) (p : Addr), Same H H' → H p = none → H' p = some (.lst (vn l)) → Q (.ref p) H'
def spShare (K : PySem.W.Frag) : Sp := fun vs H Q _ => ∃ (a : Addr) (n k : Nat) (m : List Nat), vs = [.ref a, .int (k : Int)] ∧ SqL K H a (vn m) ∧ m.length = n ∧ n ≤ 8 ∧ k ≤ n ∧ NewRow H (share n k m) Q
def spTogether (K : PySem.W.Frag) : Sp := fun vs H Q _ => ∃ (a b : Addr) (l m : List Nat), vs = [.ref a, .ref b] ∧ SqL K H a (vn l) ∧ SqL K H b (vn m) ∧ l.length ≤ 8 ∧ NewRow H (Uw42.add l m) Q
def spOff (K : PySem.W.Frag) : Sp := fun vs H Q _ => ∃ (a b : Addr) (l m : List Nat), vs = [.ref a, .ref b] ∧ SqL K H a (vn l) ∧ SqL K H b (vn m) ∧ l.length ≤ 8 ∧ NewRow H (offs l m) Q
def spNowhere (K : PySem.W.Frag) : Sp := fun vs H Q _ => ∃ (a b : Addr) (l m : List Nat), vs = [.ref a, .ref b] ∧ SqL K H a (vn l) ∧ SqL K H b (vn m) ∧ l.length ≤ 8 ∧ ∀ H' : Hp, Same H H' → Q (.bl (may l m)) H'
def spCamsOn (K : PySem.W.Frag) : Sp := fun vs H Q _ => ∃ (a : Addr) (b : Uw42.Box) (p : List Nat), vs = [.ref a, .int (b.places : Int)] ∧ SqL K H a (vn p) ∧ Q (.int (Uw42.used b p : Nat)) H
theorem zeros (n : Nat) : (List.replicate (Int.toNat (n : Int)) [V.int 0]).flatten = vn (List.replicate n 0) := by
  rw [Int.toNat_natCast]
  induction n with
  | zero => rfl
  | succ n ih =>
    rw [List.replicate_succ, List.flatten_cons, ih]
    rfl
theorem cut_drop {l : List Nat} {k : Nat} (h : k ≤ l.length) : cutV (vn l) (some (k : Int)) none = vn (l.drop k) := by
  unfold cutV
  rw [HT.sIx_nat, HT.sIx_none, List.length_map, ← List.map_drop, ← List.map_take]
  have e : min k l.length = k := by omega
  rw [e, List.take_of_length_le (by rw [List.length_drop]; omega)]
theorem cut_take {l : List Nat} {k : Nat} (h : k ≤ l.length) : cutV (vn l) none (some (k : Int)) = vn (l.take k) := by
  unfold cutV
  rw [HT.sIx_nat, HT.sIx_none, List.length_map, List.drop_zero, ← List.map_take]
  have e : min k l.length = k := by omega
  rw [e]
  rfl
theorem zip_at {β : Type} {f : Nat → Nat → β} {l m : List Nat} {i x y : Nat} (hx : l[i]? = some x) (hy : m[i]? = some y) : (l.zipWith f m)[i]? = some (f x y) := by
  rw [List.getElem?_zipWith, hx, hy]
theorem eq_int_true {a b : Int} (h : a = b) : decide (V.int a = V.int b) = true := decide_eq_true (by rw [h])
theorem eq_int_false {a b : Int} (h : a ≠ b) : decide (V.int a = V.int b) = false := decide_eq_false fun z => h (by injection z)
section
variable {P : Program} {w : World} {K : PySem.W.Frag} {mg : Str → Option Value} {base : Heap}
theorem scShare : FnScope ["motion", "turn"] ["motion", "turn"] (defScope sShare) := ⟨rfl, rfl, rfl, by decide +kernel, rfl, by decide +kernel, by decide +kernel⟩
theorem ok_share {f : Addr} {fd : FuncData} (F : Fun K "share_of" "share_of" sShare f fd) (T : TxtG mg) : FnOk P w K mg base CX0 1 f fd ["motion", "turn"] (spShare K) := by
  refine F.ok scShare (fun vs H Q E h => ?_) (fun cdv A outer s H vs Q E hr h => ?_)
  · obtain ⟨a, n, k, m, rfl, _⟩ := h
    rfl
  · obtain ⟨a, n, k, m, rfl, ha, hn, h8, hk, q⟩ := h
    refine ⟨_, pss_cons (ps_if (pt_cmpR op_eq (pv 1) (pe_callB call_len_seq (by rfl) T.len PySem.boot_len (pa_cons (pv 0) pa_nil)) (nomark _))
        (pss_one (ps_ret (pe_op op_rep (pe_lst (pa_cons pe_int pa_nil)) (pe_callB call_len_seq (by rfl) T.len PySem.boot_len (pa_cons (pv 0) pa_nil))))) pss_nil)
      (pss_one (ps_ret (pe_op op_cat (pe_slice sl_list (pv 0) (po_some (pv 1)) po_none) (pe_slice sl_list (pv 0) po_none (po_some (pv 1)))))), ?_⟩
    have em : (vn m).length = n := by rw [List.length_map, hn]
    refine ⟨_, rfl, _, rfl, a, _, rfl, .inl ha, rfl, _, rfl, ?_⟩
    rw [em]
    by_cases c : k = n
    · refine if_true_of (eq_int_true (by rw [c])) ?_
      refine ⟨(by show 1 ≤ sizeLine; decide), fun pz hpz => ?_⟩
      have s1 := same_new (o := .lst [.int 0]) hpz
      refine ⟨_, rfl, a, _, rfl, .inl (s1.seq ha), ?_⟩
      rw [em]
      refine ⟨pz, (n : Int), [.int 0], rfl, rfl, upd_same, by omega, by omega, ?_, fun pw hpw => ?_⟩
      · show 1 * (Int.toNat (n : Int)) ≤ sizeLine
        rw [Nat.one_mul, Int.toNat_natCast]
        exact Nat.le_of_lt (small12 (by omega))
      · refine q _ pw (same_upd s1 (s1.free hpw)) (s1.free hpw) ?_
        rw [upd_same, zeros, share, if_pos c]
    · refine if_false_of (eq_int_false fun z => c (by omega)) ?_
      refine ⟨_, rfl, _, rfl, _, rfl, a, _, rfl, ha, fun p1 hp1 => ?_⟩
      have s1 := same_new (o := .lst (cutV (vn m) (some (k : Int)) none)) hp1
      refine ⟨_, rfl, _, rfl, _, rfl, a, _, rfl, s1.seq ha, fun p2 hp2 => ?_⟩
      have n12 : p1 ≠ p2 := fun z => by rw [← z, upd_same] at hp2; cases hp2
      have s2 := same_upd (o := .lst (cutV (vn m) none (some (k : Int)))) s1 (s1.free hp2)
      refine ⟨p1, p2, vn (m.drop k), vn (m.take k), rfl, rfl, ?_, ?_, ?_, fun p3 hp3 => ?_⟩
      · rw [upd_ne n12, upd_same, cut_drop (by omega)]
      · rw [upd_same, cut_take (by omega)]
      · rw [List.length_map, List.length_map, List.length_drop, List.length_take]
        exact Nat.le_of_lt (small12 (by omega))
      · refine q _ p3 (same_upd s2 (s2.free hp3)) (s2.free hp3) ?_
        rw [upd_same, share, if_neg c, Uw42.turned, vn_append]
theorem scTogether : FnScope ["lever", "share", "height", "more"] ["lever", "share"] (defScope sTogether) := ⟨rfl, rfl, rfl, by decide +kernel, rfl, by decide +kernel, by decide +kernel⟩
theorem ok_together {f : Addr} {fd : FuncData} (F : Fun K "together" "together" sTogether f fd) (T : TxtG mg) : FnOk P w K mg base CX0 1 f fd ["lever", "share"] (spTogether K) := by
  refine F.ok scTogether (fun vs H Q E h => ?_) (fun cdv A outer s H vs Q E hr h => ?_)
  · obtain ⟨a, b, l, m, rfl, _⟩ := h
    rfl
  · obtain ⟨a, b, l, m, rfl, ha, hb, h8, q⟩ := h
    refine ⟨_, pss_one (ps_ret (pe_lc (own := [("height", 2), ("more", 3)]) (g := gTup K 2 (gCons (gName 2) (gCons (gName 3) gNil))) (tt := tYes) rfl scTogether.nd (pi_zip (by rfl) T.zip (pa_cons (pv 0) (pa_cons (pv 1) pa_nil))) (blkOk_by (N := ["lever", "share", "height", "more"]) (sc := defScope sTogether) (by decide +kernel))
        (fun _ _ _ _ _ => pg_tup rfl (pgs_cons (pg_name (i := 2) scTogether.nd rfl (Or.inl rfl)) (pgs_cons (pg_name (i := 3) scTogether.nd rfl (Or.inl rfl)) pgs_nil))) (fun _ _ _ _ _ => pts_nil) (fun _ _ _ _ _ => pe_op op_add (pv 2) (pv 3)))), ?_⟩
    have el : (Uw42.add l m).length = min (vn l).length (vn m).length := by
      rw [List.length_map, List.length_map]
      exact List.length_zipWith
    refine ⟨_, rfl, _, rfl, a, b, _, _, rfl, ha, hb, fun D hD => lc_it (walk_zip (K := K) (a := a) (b := b) (xs := vn l) (ys := vn m) el) (fun i H' => Same H H' ∧ H' D = some (.lst (vn ((Uw42.add l m).take i)))) ⟨same_new hD, upd_same⟩ (fun i H' _ ⟨s, _⟩ => ⟨s.seq ha, s.seq hb⟩) ?_ ?_⟩
    · rintro i x H0 H1 hi ⟨s, hd⟩ ⟨p, y, z, rfl, hp, rfl, hy, hz⟩
      obtain ⟨u, hu, rfl⟩ := vn_get hy
      obtain ⟨v, hv, rfl⟩ := vn_get hz
      refine ⟨p, _, rfl, SqT.of upd_same, rfl, _, _, rfl, _, _, rfl, rfl, rfl, lc_yes ?_⟩
      refine ⟨_, rfl, _, rfl, _, _, rfl, rfl, _, same_new hp _ _ hd, ?_, same_upd (same_upd s (s.free hp)) hD, ?_⟩
      · rw [List.length_map, List.length_take]
        have := get_lt hu
        exact small12 (by omega)
      · rw [upd_same, take_more (show (Uw42.add l m)[i]? = some (u + v) from zip_at (f := fun x y => x + y) hu hv), vn_append]
        rfl
    · rintro H' ⟨s, hd⟩
      rw [List.take_length] at hd
      exact q H' D s hD hd
theorem scOff : FnScope ["lever", "wished", "height", "wish"] ["lever", "wished"] (defScope sOff) := ⟨rfl, rfl, rfl, by decide +kernel, rfl, by decide +kernel, by decide +kernel⟩
theorem ok_off {f : Addr} {fd : FuncData} (F : Fun K "off_by_place" "off_by_place" sOff f fd) (T : TxtG mg) : FnOk P w K mg base CX0 1 f fd ["lever", "wished"] (spOff K) := by
  refine F.ok scOff (fun vs H Q E h => ?_) (fun cdv A outer s H vs Q E hr h => ?_)
  · obtain ⟨a, b, l, m, rfl, _⟩ := h
    rfl
  · obtain ⟨a, b, l, m, rfl, ha, hb, h8, q⟩ := h
    refine ⟨_, pss_one (ps_ret (pe_lc (own := [("height", 2), ("wish", 3)]) (g := gTup K 2 (gCons (gName 2) (gCons (gName 3) gNil))) (tt := tYes) rfl scOff.nd (pi_zip (by rfl) T.zip (pa_cons (pv 0) (pa_cons (pv 1) pa_nil))) (blkOk_by (N := ["lever", "wished", "height", "wish"]) (sc := defScope sOff) (by decide +kernel))
        (fun _ _ _ _ _ => pg_tup rfl (pgs_cons (pg_name (i := 2) scOff.nd rfl (Or.inl rfl)) (pgs_cons (pg_name (i := 3) scOff.nd rfl (Or.inl rfl)) pgs_nil))) (fun _ _ _ _ _ => pts_nil) (fun _ _ _ _ _ => pe_callB call_abs (by rfl) T.abs (by decide +kernel) (pa_cons (pe_op op_sub (pv 2) (pv 3)) pa_nil)))), ?_⟩
    have el : (offs l m).length = min (vn l).length (vn m).length := by
      rw [List.length_map, List.length_map]
      exact List.length_zipWith
    refine ⟨_, rfl, _, rfl, a, b, _, _, rfl, ha, hb, fun D hD => lc_it (walk_zip (K := K) (a := a) (b := b) (xs := vn l) (ys := vn m) el) (fun i H' => Same H H' ∧ H' D = some (.lst (vn ((offs l m).take i)))) ⟨same_new hD, upd_same⟩ (fun i H' _ ⟨s, _⟩ => ⟨s.seq ha, s.seq hb⟩) ?_ ?_⟩
    · rintro i x H0 H1 hi ⟨s, hd⟩ ⟨p, y, z, rfl, hp, rfl, hy, hz⟩
      obtain ⟨u, hu, rfl⟩ := vn_get hy
      obtain ⟨v, hv, rfl⟩ := vn_get hz
      refine ⟨p, _, rfl, SqT.of upd_same, rfl, _, _, rfl, _, _, rfl, rfl, rfl, lc_yes ?_⟩
      refine ⟨_, rfl, _, rfl, _, _, rfl, rfl, _, rfl, _, same_new hp _ _ hd, ?_, same_upd (same_upd s (s.free hp)) hD, ?_⟩
      · rw [List.length_map, List.length_take]
        have := get_lt hu
        exact small12 (by omega)
      · rw [upd_same, apart_abs, take_more (show (offs l m)[i]? = some (Uw42.apart u v) from zip_at hu hv), vn_append]
        rfl
    · rintro H' ⟨s, hd⟩
      rw [List.take_length] at hd
      exact q H' D s hD hd
theorem scNowhere : FnScope ["lever", "wished", "height", "wish"] ["lever", "wished"] (defScope sNowhere) := ⟨rfl, rfl, rfl, by decide +kernel, rfl, by decide +kernel, by decide +kernel⟩
theorem ok_nowhere {f : Addr} {fd : FuncData} (F : Fun K "is_nowhere_higher" "is_nowhere_higher" sNowhere f fd) (T : TxtG mg) : FnOk P w K mg base CX0 1 f fd ["lever", "wished"] (spNowhere K) := by
  refine F.ok scNowhere (fun vs H Q E h => ?_) (fun cdv A outer s H vs Q E hr h => ?_)
  · obtain ⟨a, b, l, m, rfl, _⟩ := h
    rfl
  · obtain ⟨a, b, l, m, rfl, ha, hb, h8, q⟩ := h
    refine ⟨_, pss_one (ps_ret (pe_callB (cr_all rfl) (by rfl) T.all (by decide +kernel) (pa_cons (pe_lc (own := [("height", 2), ("wish", 3)]) (g := gTup K 2 (gCons (gName 2) (gCons (gName 3) gNil))) (tt := tYes) rfl scNowhere.nd (pi_zip (by rfl) T.zip (pa_cons (pv 0) (pa_cons (pv 1) pa_nil))) (blkOk_by (N := ["lever", "wished", "height", "wish"]) (sc := defScope sNowhere) (by decide +kernel))
        (fun _ _ _ _ _ => pg_tup rfl (pgs_cons (pg_name (i := 2) scNowhere.nd rfl (Or.inl rfl)) (pgs_cons (pg_name (i := 3) scNowhere.nd rfl (Or.inl rfl)) pgs_nil))) (fun _ _ _ _ _ => pts_nil) (fun _ _ _ _ _ => pe_cmpR op_le (pv 2) (pv 3) (nomark _))) pa_nil))), ?_⟩
    have el : (l.zipWith (fun x y => decide (x ≤ y)) m).length = min (vn l).length (vn m).length := by
      rw [List.length_map, List.length_map]
      exact List.length_zipWith
    refine ⟨_, rfl, _, rfl, a, b, _, _, rfl, ha, hb, fun D hD => lc_it (walk_zip (K := K) (a := a) (b := b) (xs := vn l) (ys := vn m) el) (fun i H' => Same H H' ∧ H' D = some (.lst (((l.zipWith (fun x y => decide (x ≤ y)) m).take i).map V.bl))) ⟨same_new hD, upd_same⟩ (fun i H' _ ⟨s, _⟩ => ⟨s.seq ha, s.seq hb⟩) ?_ ?_⟩
    · rintro i x H0 H1 hi ⟨s, hd⟩ ⟨p, y, z, rfl, hp, rfl, hy, hz⟩
      obtain ⟨u, hu, rfl⟩ := vn_get hy
      obtain ⟨v, hv, rfl⟩ := vn_get hz
      refine ⟨p, _, rfl, SqT.of upd_same, rfl, _, _, rfl, _, _, rfl, rfl, rfl, lc_yes ?_⟩
      refine ⟨_, rfl, _, rfl, _, _, rfl, rfl, _, same_new hp _ _ hd, ?_, same_upd (same_upd s (s.free hp)) hD, ?_⟩
      · rw [List.length_map, List.length_take]
        have := get_lt hu
        exact small12 (by omega)
      · rw [upd_same, take_more (zip_at hu hv), List.map_append]
        have e : decide ((u : Int) ≤ (v : Int)) = decide (u ≤ v) := decide_eq_decide.mpr (by omega)
        show some (HO.lst (_ ++ [V.bl (decide ((u : Int) ≤ (v : Int)))])) = _
        rw [e]
        rfl
    · rintro H' ⟨s, hd⟩
      rw [List.take_length] at hd
      exact ⟨D, _, rfl, SqL.of hd, q H' s⟩
theorem scCamsOn : FnScope ["plan", "places"] ["plan", "places"] (defScope sCamsOn) := ⟨rfl, rfl, rfl, by decide +kernel, rfl, by decide +kernel, by decide +kernel⟩
theorem vn_vz (l : List Nat) : vn l = vz (zs l) := by
  rw [vz, zs, List.map_map]
  rfl
theorem ok_camson {f : Addr} {fd : FuncData} (F : Fun K "cams_on" "cams_on" sCamsOn f fd) (T : TxtG mg) : FnOk P w K mg base CX0 1 f fd ["plan", "places"] (spCamsOn K) := by
  refine F.ok scCamsOn (fun vs H Q E h => ?_) (fun cdv A outer s H vs Q E hr h => ?_)
  · obtain ⟨a, b, p, rfl, _⟩ := h
    rfl
  · obtain ⟨a, b, p, rfl, ha, q⟩ := h
    refine ⟨_, pss_one (ps_ret (pe_op op_sub (pe_callB call_len_seq (by rfl) T.len PySem.boot_len (pa_cons (pv 0) pa_nil)) (pe_bm PySem.F.plainAttrs_list PySem.F.slot_list_count PySem.F.type_list_count mt_lcount (pv 0) (pa_cons (pv 1) pa_nil)))), ?_⟩
    have ep : (vn p).length = p.length := List.length_map ..
    have ha2 : SqL K H a (vz (zs p)) := by rw [← vn_vz]; exact ha
    refine ⟨_, rfl, a, _, rfl, .inl ha, _, rfl, .inl ⟨rfl, _, ha⟩, _, rfl, a, zs p, _, rfl, rfl, ha2, _, _, rfl, rfl, ?_⟩
    show Q (V.int (((vn p).length : Int) - (((zs p).count (b.places : Int) : Nat) : Int))) H
    rw [ep, used_int]
    exact q
end
end Cam
set_option Elab.async false
set_option maxRecDepth 100000
set_option maxHeartbeats 2000000
namespace Cam
open PySem PySem.Spec PyProof.Rows L2
/-- a pair of ints lies at t -/
def PairAt (H : Hp) (t : Addr) (q : Int × Int) : Prop := H t = some (.tup [.int q.1, .int q.2])
/-- min(xs) of a list of pairs of ints: one of the pairs, the least by its first, then its second -/
def rMinP (K : PySem.W.Frag) : List V → Hp → VK → Prop := fun vs H Q => ∃ (a : Addr) (ts : List Addr) (x : Int × Int) (xs : List (Int × Int)), vs = [V.ref a] ∧ SqL K H a (ts.map V.ref) ∧ Paired (PairAt H) ts (x :: xs) ∧
  ∀ t, t ∈ ts → PairAt H t (PySem.W.minOf x xs) → Q (.ref t) H
theorem dp_pair {K : PySem.W.Frag} {H : Hp} {t : Addr} {q : Int × Int} (h : PairAt H t q) : Dp K H (.ref t) (PySem.W.Datum.toD q) := .tup (SqT.of h) (.cons (.int _) (.cons (.int _) .nil))
theorem dp_pairs {K : PySem.W.Frag} {H : Hp} : ∀ {ts : List Addr} {qs : List (Int × Int)}, Paired (PairAt H) ts qs → DpAll K H (ts.map V.ref) (qs.map PySem.W.Datum.toD)
  | _, _, .nil => .nil
  | _, _, .cons h t => .cons (dp_pair h) (dp_pairs t)
section
variable {X : Cx}
theorem cr_minP (hc : X.calm = true) (hu : X.A.units + 64 < cLine) : CallR X (.builtin "min") (rMinP X.K) := by
  intro pins s σ H vs us Q I r h
  obtain ⟨a, ts, x, xs, rfl, hs, hp, q⟩ := h
  obtain ⟨its, rv, hl, _⟩ := I.list hs
  rw [Vals.ref1 r]
  obtain ⟨as, ra⟩ := Dp.readsAll I _ _ _ (dp_pairs hp) rv
  refine PySem.W.min_list_datum (α := Int × Int) (x := x) (xs := xs) (I.ok.hd hc) hl.isList ⟨as, ra⟩ ?_ fun i v h' tk hv hH hk => ?_
  · show X.A.units + 1 + 1 < cLine
    omega
  · have hv' : its[i]? = some v := by
      rw [List.getElem?_toArray] at hv
      exact hv
    obtain ⟨t, ht, rt⟩ : ∃ t, ts[i]? = some t ∧ v = .ref t := by
      have li : i < ts.length := by
        have := (List.getElem?_eq_some_iff.mp hv').1
        rw [← rv.length, List.length_map] at this
        exact this
      obtain ⟨u, hu1, hu2⟩ := Vals.get rv (i := i) (x := V.ref ts[i]) (by rw [List.getElem?_map, List.getElem?_eq_getElem li]; rfl)
      rw [hv'] at hu1
      cases hu1
      exact ⟨ts[i], List.getElem?_eq_getElem li, hu2⟩
    subst rt
    obtain ⟨p, hp1, hp2⟩ := LiI.paired_get hp ht
    obtain ⟨bs, rb⟩ := Dp.reads I _ _ _ (dp_pair (K := X.K) hp2) (show RelV (.ref t) (.ref t) from rfl)
    obtain ⟨cs, rc⟩ := hH
    have e : PySem.W.Datum.toD p = PySem.W.Datum.toD (PySem.W.minOf x xs) := by
      refine PySem.W.alike_unique _ _ _ _ _ (PySem.W.DatumOrd.alike _ _) (PySem.W.reads_keeps hk rb) rc
    have e2 : p = PySem.W.minOf x xs := by
      have e' : PyData.tuple [.int p.1, .int p.2] = PyData.tuple [.int (PySem.W.minOf x xs).1, .int (PySem.W.minOf x xs).2] := e
      injection e' with e'
      injection e' with e1 e2
      injection e2 with e2 _
      injection e1 with e1
      injection e2 with e2
      exact Prod.ext e1 e2
    exact ⟨.ref t, H, I.kept hk, rfl, q t (List.mem_of_getElem? ht) (e2 ▸ hp2)⟩
end
theorem lt_pair (p q : Int × Int) : PySem.W.DatumOrd.lt p q = if p.1 = q.1 then decide (p.2 < q.2) else decide (p.1 < q.1) := rfl
theorem minOf_is : ∀ (xs : List (Int × Int)) (x : Int × Int), PySem.W.minOf x xs ∈ x :: xs ∧ ∀ y ∈ x :: xs, PySem.W.DatumOrd.lt y (PySem.W.minOf x xs) = false
  | [], x => by
    refine ⟨List.mem_singleton.mpr rfl, fun y hy => ?_⟩
    rw [List.mem_singleton.mp hy]
    show PySem.W.DatumOrd.lt x x = false
    rw [lt_pair, if_pos rfl]
    exact decide_eq_false (Int.lt_irrefl _)
  | y :: ys, x => by
    have e : PySem.W.minOf x (y :: ys) = PySem.W.minOf (if PySem.W.DatumOrd.lt y x = true then y else x) ys := rfl
    rw [e]
    by_cases c : PySem.W.DatumOrd.lt y x = true
    · rw [if_pos c]
      obtain ⟨h1, h2⟩ := minOf_is ys y
      refine ⟨List.mem_cons_of_mem _ h1, fun z hz => ?_⟩
      rcases List.mem_cons.mp hz with rfl | hz
      · have := h2 y List.mem_cons_self
        rw [lt_pair] at this c ⊢
        generalize PySem.W.minOf y ys = m at this ⊢
        split at c <;> split at this <;> split <;> simp only [decide_eq_true_eq, decide_eq_false_iff_not] at c this ⊢ <;> omega
      · exact h2 z hz
    · rw [if_neg c]
      obtain ⟨h1, h2⟩ := minOf_is ys x
      refine ⟨?_, fun z hz => ?_⟩
      · rcases List.mem_cons.mp h1 with z | z
        · rw [z]; exact List.mem_cons_self
        · exact List.mem_cons_of_mem _ (List.mem_cons_of_mem _ z)
      rcases List.mem_cons.mp hz with rfl | hz
      · exact h2 z List.mem_cons_self
      rcases List.mem_cons.mp hz with rfl | hz
      · have := h2 x List.mem_cons_self
        rw [lt_pair] at this c ⊢
        generalize PySem.W.minOf x ys = m at this ⊢
        split at c <;> split at this <;> split <;> simp only [decide_eq_true_eq, decide_eq_false_iff_not] at c this ⊢ <;> omega
      · exact h2 z (List.mem_cons_of_mem _ hz)
abbrev keyZ (g : Grade) : Int × Int := ((g.1 : Int), (g.2.1 : Int))
theorem least_of {g : Grade} {l : List Grade} : ∃ m : Nat × Nat, IsLeast (g :: l) m ∧ PySem.W.minOf (keyZ g) (l.map keyZ) = ((m.1 : Int), (m.2 : Int)) := by
  obtain ⟨h1, h2⟩ := minOf_is (l.map keyZ) (keyZ g)
  have h1' : PySem.W.minOf (keyZ g) (l.map keyZ) ∈ (g :: l).map keyZ := h1
  obtain ⟨f, hf, e⟩ := List.mem_map.mp h1'
  refine ⟨key f, ⟨⟨f, hf, rfl⟩, fun x hx z => ?_⟩, e.symm⟩
  have := h2 (keyZ x) (List.mem_map.mpr ⟨x, hx, rfl⟩)
  rw [← e, lt_pair] at this
  unfold lt2 at z
  dsimp only at this z
  split at this <;> simp only [decide_eq_false_iff_not] at this <;> omega
end Cam
set_option Elab.async false
set_option maxRecDepth 100000
set_option maxHeartbeats 2000000
namespace Cam
open PySem PySem.Spec PyProof.Rows L2
/-- a graded thing -/
def GradeAt (H : Hp) (t : Addr) (g : Grade) : Prop := ∃ a, H t = some (.tup [.int (g.1 : Int), .int (g.2.1 : Int), .ref a]) ∧ RowAt H a g.2.2
theorem GradeAt.mono : Mono GradeAt := fun _ _ _ _ s ⟨a, h1, h2⟩ => ⟨a, s _ _ h1, s _ _ h2⟩
theorem PairAt.mono : Mono PairAt := fun _ _ _ _ s h => s _ _ h
def spAnsOf : Sp := fun vs H Q _ => ∃ (a : Addr) (l : List Grade), vs = [.ref a] ∧ ListOf GradeAt H a l ∧ l ≠ [] ∧ l.length ≤ 6561 ∧ (∀ g ∈ l, g.2.2.length ≤ 12) ∧ NewRow H (ansOf l) Q
theorem small6561 {n : Nat} (h : n ≤ 6561) : n < sizeLine := Nat.lt_of_le_of_lt h (by decide)
theorem key_eq (g : Grade) (m : Nat × Nat) : decide (keyZ g = ((m.1 : Int), (m.2 : Int))) = decide (key g = m) := by
  refine decide_eq_decide.mpr ⟨fun h => ?_, fun h => ?_⟩
  · injection h with h1 h2
    exact Prod.ext (by show g.1 = m.1; omega) (by show g.2.1 = m.2; omega)
  · rw [← h]
theorem good_yes {l : List Grade} {i : Nat} {g : Grade} {m : Nat × Nat} (h : l[i]? = some g) (e : key g = m) : good (l.take (i + 1)) m = good (l.take i) m ++ [g.2.2] := by
  rw [take_more h, good_append]
  congr 1
  unfold good
  rw [List.filter_cons_of_pos (p := fun g => decide (key g = m)) (decide_eq_true e)]
  rfl
theorem good_no {l : List Grade} {i : Nat} {g : Grade} {m : Nat × Nat} (h : l[i]? = some g) (e : ¬ key g = m) : good (l.take (i + 1)) m = good (l.take i) m := by
  rw [take_more h, good_append, good_none (l := [g]) (fun f hf => by rw [List.mem_singleton.mp hf]; exact e), List.append_nil]
theorem good_len (l : List Grade) (m : Nat × Nat) : (good l m).length ≤ l.length := by
  unfold good
  rw [List.length_map]
  exact List.length_filter_le _ _
section
variable {P : Program} {w : World} {K : PySem.W.Frag} {mg : Str → Option Value} {base : Heap}
theorem scAnsOf : FnScope ["graded", "least", "good", "bad", "cams", "told"] ["graded"] (defScope sAnsOf) := ⟨rfl, rfl, rfl, by decide +kernel, rfl, by decide +kernel, by decide +kernel⟩
theorem ok_ansof {f : Addr} {fd : FuncData} (F : Fun K "answer_of" "answer_of" sAnsOf f fd) (T : TxtG mg) : FnOk P w K mg base CX0 1 f fd ["graded"] spAnsOf := by
  refine F.ok scAnsOf (fun vs H Q E h => ?_) (fun cdv A outer s H vs Q E hr h => ?_)
  · obtain ⟨a, l, rfl, _⟩ := h
    rfl
  · obtain ⟨a, l, rfl, hL, hne, h6, h12, q⟩ := h
    obtain ⟨ts, hts, hlen, hat⟩ := hL.at
    refine ⟨_, pss_cons (ps_set (i := 1) scAnsOf.nd rfl (Or.inr rfl) (pe_callB (cr_minP rfl hr.units) (by rfl) T.min (by decide +kernel) (pa_cons
        (pe_lc (own := [("bad", 3), ("cams", 4), ("told", 5)]) (g := gTup K 3 (gCons (gName 3) (gCons (gName 4) (gCons (gName 5) gNil)))) (tt := tYes) rfl scAnsOf.nd (pi_list (pv 0)) (blkOk_by (N := ["graded", "least", "good", "bad", "cams", "told"]) (sc := defScope sAnsOf) (by decide +kernel))
          (fun _ _ _ _ _ => pg_tup rfl (pgs_cons (pg_name (i := 3) scAnsOf.nd rfl (Or.inl rfl)) (pgs_cons (pg_name (i := 4) scAnsOf.nd rfl (Or.inl rfl)) (pgs_cons (pg_name (i := 5) scAnsOf.nd rfl (Or.inl rfl)) pgs_nil)))) (fun _ _ _ _ _ => pts_nil) (fun _ _ _ _ _ => pe_tup (pa_cons (pv 3) (pa_cons (pv 4) pa_nil)))) pa_nil)))
      (pss_cons (ps_setLc (i := 2) (own := [("bad", 3), ("cams", 4), ("told", 5)]) (g := gTup K 3 (gCons (gName 3) (gCons (gName 4) (gCons (gName 5) gNil)))) (tt := tTest (tOp (rEqD K) (tTup (tCons (tVar 3) (tCons (tVar 4) tNil))) (tVar 1))) rfl scAnsOf.nd rfl rfl (sw_true rfl rfl rfl (by decide +kernel)) (pi_list (pv 0)) (blkOk_by (N := ["graded", "least", "good", "bad", "cams", "told"]) (sc := defScope sAnsOf) (by decide +kernel))
          (fun _ _ _ _ _ => pg_tup rfl (pgs_cons (pg_name (i := 3) scAnsOf.nd rfl (Or.inl rfl)) (pgs_cons (pg_name (i := 4) scAnsOf.nd rfl (Or.inl rfl)) (pgs_cons (pg_name (i := 5) scAnsOf.nd rfl (Or.inl rfl)) pgs_nil)))) (fun _ _ _ _ _ => pts_one (pt_cmpR (op_eqD hr.units) (pe_tup (pa_cons (pv 3) (pa_cons (pv 4) pa_nil))) (pv 1) (nomark _))) (fun _ _ _ _ _ => pv 5))
      (pss_one (ps_ret (pe_op op_cat (pe_op op_cat (pe_callTy call_list_of (by rfl) T.list (by decide +kernel) (pa_cons (pv 1) pa_nil)) (pe_lst (pa_cons (pe_callB call_len_seq (by rfl) T.len PySem.boot_len (pa_cons (pv 2) pa_nil)) pa_nil))) (pe_ix ix_list (pv 2) pe_int (fun _ _ => rfl)))))), ?_⟩
    have er : (ts.map V.ref).length = l.length := by rw [List.length_map, hlen]
    -- least
    refine ⟨_, rfl, a, rfl, ⟨_, SqL.of hts⟩, fun D hD => lc_list (K := K) (a := a) (xs := ts.map V.ref) (fun i H' => Same H H' ∧ Acc PairAt (fun b => H b = none) H' D ((l.take i).map keyZ)) ⟨same_new hD, Acc.start upd_same⟩ (fun i H' _ ⟨s, _⟩ => SqL.of (s _ _ hts)) ?_ ?_⟩
    · rintro i x H' hx ⟨s, hA⟩
      obtain ⟨t', ht', rfl⟩ := ref_get hx
      have hi : i < l.length := by rw [← hlen]; exact get_lt ht'
      obtain ⟨t2, e2, r, hg, hrow⟩ := hat i l[i] (List.getElem?_eq_getElem hi)
      rw [ht'] at e2
      cases e2
      refine ⟨t', _, rfl, SqT.of (s _ _ hg), rfl, _, _, rfl, _, _, rfl, _, _, rfl, rfl, rfl, lc_yes ?_⟩
      refine ⟨_, rfl, _, rfl, (by show 2 ≤ sizeLine; decide), fun p hp => ?_⟩
      obtain ⟨_, hA1, _⟩ := id hA
      have s1 := same_new (o := .tup [.int (l[i].1 : Int), .int (l[i].2.1 : Int)]) hp
      have npD : p ≠ D := fun z => by rw [z, hA1] at hp; cases hp
      obtain ⟨acc, c1, c2, c3⟩ := (hA.keep PairAt.mono s1).push PairAt.mono (t := p) (x := keyZ l[i]) (only_some.mpr ⟨⟨s.free hp, npD⟩, upd_same⟩)
      refine ⟨acc, c1, ?_, same_upd (same_upd s (s.free hp)) hD, ?_⟩
      · rw [c2, List.length_map, List.length_take]
        exact small6561 (by omega)
      · rw [take_more (List.getElem?_eq_getElem hi), List.map_append]
        exact c3
    rintro H1 ⟨s1, hA⟩
    rw [er, List.take_length] at hA
    obtain ⟨us, hus, hpu⟩ := ListOf.mono PairAt.mono _ _ _ _ (only_same _ _) (hA.done PairAt.mono hD)
    obtain ⟨g0, l0, rfl⟩ : ∃ g0 l0, l = g0 :: l0 := by
      cases l with
      | nil => exact absurd rfl hne
      | cons g0 l0 => exact ⟨g0, l0, rfl⟩
    obtain ⟨m, hm, em⟩ := least_of (g := g0) (l := l0)
    refine ⟨D, us, keyZ g0, l0.map keyZ, rfl, SqL.of hus, hpu, fun t ht hmt => ?_⟩
    rw [em] at hmt
    have hmt' : H1 t = some (.tup [.int (m.1 : Int), .int (m.2 : Int)]) := hmt
    obtain ⟨a0, r0, eg, ea⟩ := ansOf_is hm
    rw [ea] at q
    generalize hl : g0 :: l0 = l at *
    -- good
    refine ⟨_, rfl, a, rfl, ⟨_, SqL.of (s1 _ _ hts)⟩, fun D2 hD2 => lc_list (K := K) (a := a) (xs := ts.map V.ref) (fun i H' => Same H1 H' ∧ ∃ rs : List Addr, H' D2 = some (.lst (rs.map V.ref)) ∧ Paired (RowAt H) rs (good (l.take i) m)) ⟨same_new hD2, [], upd_same, .nil⟩ (fun i H' _ ⟨s, _⟩ => SqL.of (s _ _ (s1 _ _ hts))) ?_ ?_⟩
    · rintro i x H' hx ⟨s, rs, hd, hrs⟩
      obtain ⟨t', ht', rfl⟩ := ref_get hx
      have hi : i < l.length := by rw [← hlen]; exact get_lt ht'
      obtain ⟨t2, e2, r, hg, hrow⟩ := hat i l[i] (List.getElem?_eq_getElem hi)
      rw [ht'] at e2
      cases e2
      refine ⟨t', _, rfl, SqT.of (s _ _ (s1 _ _ hg)), rfl, _, _, rfl, _, _, rfl, _, _, rfl, rfl, rfl, ?_⟩
      refine ⟨_, rfl, _, rfl, (by show 2 ≤ sizeLine; decide), fun p hp => ?_⟩
      have s2 := same_upd (o := .tup [.int (l[i].1 : Int), .int (l[i].2.1 : Int)]) s (s.free hp)
      refine ⟨_, rfl, PySem.W.Datum.toD (keyZ l[i]), PySem.W.Datum.toD (((m.1 : Int), (m.2 : Int)) : Int × Int), dp_pair upd_same, dp_pair (s2 _ _ hmt'), rfl, rfl, _, rfl, ?_⟩
      rw [PySem.W.Datum.eqv, key_eq]
      have hd2 := same_new (o := .tup [.int (l[i].1 : Int), .int (l[i].2.1 : Int)]) hp _ _ hd
      by_cases c : key l[i] = m
      · refine if_true_of (decide_eq_true c) ?_
        refine ⟨_, rfl, _, hd2, ?_, same_upd s2 hD2, rs ++ [r], ?_, ?_⟩
        · rw [List.length_map, hrs.length]
          have := good_len (l.take i) m
          rw [List.length_take] at this
          exact small6561 (by omega)
        · rw [upd_same, List.map_append]
          rfl
        · rw [good_yes (List.getElem?_eq_getElem hi) c]
          exact hrs.snoc hrow
      · refine if_false_of (decide_eq_false c) ⟨s2, rs, hd2, ?_⟩
        rw [good_no (List.getElem?_eq_getElem hi) c]
        exact hrs
    rintro H2 ⟨s2, rs, hd, hrs⟩
    rw [er, List.take_length] at hrs
    have s02 := s1.trans s2
    have el := hrs.length
    -- the answer
    refine ⟨_, rfl, t, _, rfl, .inr (SqT.of (s2 _ _ hmt')), fun l1 hl1 => ?_⟩
    have sA := same_new (o := .lst [.int (m.1 : Int), .int (m.2 : Int)]) hl1
    refine ⟨_, rfl, D2, _, rfl, .inl (SqL.of (sA _ _ hd)), (by show 1 ≤ sizeLine; decide), fun l2 hl2 => ?_⟩
    have n12 : l1 ≠ l2 := fun z => by rw [← z, upd_same] at hl2; cases hl2
    have sB := same_upd (o := .lst [.int (((rs.map V.ref).length : Nat) : Int)]) sA (sA.free hl2)
    refine ⟨l1, l2, _, _, rfl, rfl, (upd_ne n12).trans upd_same, upd_same, (by show 3 ≤ sizeLine; decide), fun l3 hl3 => ?_⟩
    have sC := same_upd (o := .lst ([.int (m.1 : Int), .int (m.2 : Int)] ++ [.int (((rs.map V.ref).length : Nat) : Int)])) sB (sB.free hl3)
    obtain ⟨r, hr0, hrow⟩ := paired_get' hrs (i := 0) (b := a0) (by rw [eg]; rfl)
    have hrow' : H r = some (.lst (vn a0)) := hrow
    refine ⟨_, rfl, D2, _, 0, .ref r, rfl, rfl, SqL.of (sC _ _ hd), atI_nat (j := 0) (by rw [List.getElem?_map, hr0]; rfl), ?_⟩
    refine ⟨l3, r, _, _, rfl, rfl, upd_same, sC _ _ (s02 _ _ hrow'), ?_, fun p hp => ?_⟩
    · obtain ⟨g, hg, eg2⟩ : ∃ g ∈ l, g.2.2 = a0 := by
        have : a0 ∈ good l m := by rw [eg]; exact List.mem_cons_self
        obtain ⟨g, hg, e⟩ := List.mem_map.mp this
        exact ⟨g, (List.mem_filter.mp hg).1, e⟩
      have := h12 g hg
      rw [eg2] at this
      show 3 + (vn a0).length ≤ sizeLine
      rw [List.length_map]
      exact Nat.le_of_lt (small6561 (by omega))
    · have sD := same_upd (o := .lst ([.int (m.1 : Int), .int (m.2 : Int)] ++ [.int (((rs.map V.ref).length : Nat) : Int)] ++ vn a0)) sC (sC.free hp)
      refine q _ p (s02.trans sD) (s02.free (sC.free hp)) ?_
      rw [upd_same, List.length_map, el]
      rfl
end
end Cam
set_option Elab.async false
set_option maxRecDepth 100000
set_option maxHeartbeats 2000000
namespace Cam
open PySem PySem.Spec PyProof.Rows L2
/-- a plan with its lever -/
def PlanAt (H : Hp) (t : Addr) (x : List Nat × List Nat) : Prop := ∃ a b, H t = some (.tup [.ref a, .ref b]) ∧ RowAt H a x.1 ∧ RowAt H b x.2
theorem PlanAt.mono : Mono PlanAt := fun _ _ _ _ s ⟨a, b, h1, h2, h3⟩ => ⟨a, b, s _ _ h1, s _ _ h2, s _ _ h3⟩
def spEvery : Sp := fun vs H Q _ => ∃ (a : Addr) (n : Nat) (ms : List (List Nat)), vs = [.ref a, .int (n : Int)] ∧ ListOf RowAt H a ms ∧ (∀ m ∈ ms, m.length = n) ∧ n ≤ 8 ∧ ms.length ≤ 4 ∧
  ∀ (H' : Hp) (p : Addr), Same H H' → ListOf PlanAt (frs H H') p (plansOf n ms) → Q (.ref p) H'
theorem smallM {n : Nat} (h : n ≤ 1000000) : n < sizeLine := Nat.lt_of_le_of_lt h (by decide)
theorem flat_len {α β : Type} {F : α → List β} {c : Nat} (h : ∀ x, (F x).length ≤ c) : ∀ l : List α, (l.flatMap F).length ≤ l.length * c
  | [] => Nat.zero_le _
  | x :: l => by
    rw [List.flatMap_cons, List.length_append, List.length_cons, Nat.succ_mul]
    have := flat_len h l
    have := h x
    omega
/-- the plans that go on from one, up to k -/
def goOn (n : Nat) (m : List Nat) (x : List Nat × List Nat) (k : Nat) : List (List Nat × List Nat) := (List.range k).map fun k => (x.1 ++ [k], Uw42.add x.2 (share n k m))
theorem goOn_succ (n : Nat) (m : List Nat) (x : List Nat × List Nat) (k : Nat) : goOn n m x (k + 1) = goOn n m x k ++ [(x.1 ++ [k], Uw42.add x.2 (share n k m))] := by
  unfold goOn
  rw [List.range_succ, List.map_append]
  rfl
theorem goOn_len (n : Nat) (m : List Nat) (x : List Nat × List Nat) (k : Nat) : (goOn n m x k).length = k := by
  unfold goOn
  rw [List.length_map, List.length_range]
/-- the longer plans behind j of the plans -/
def longer (n : Nat) (m : List Nat) (l : List (List Nat × List Nat)) (j : Nat) : List (List Nat × List Nat) := (l.take j).flatMap fun x => goOn n m x (n + 1)
theorem longer_succ {n : Nat} {m : List Nat} {l : List (List Nat × List Nat)} {j : Nat} {x : List Nat × List Nat} (h : l[j]? = some x) : longer n m l (j + 1) = longer n m l j ++ goOn n m x (n + 1) := by
  unfold longer
  rw [take_more h, List.flatMap_append]
  rw [List.flatMap_cons, List.flatMap_nil, List.append_nil]
theorem longer_all {n : Nat} {ms : List (List Nat)} {m : List Nat} {i : Nat} (h : ms[i]? = some m) : longer n m (plansOf n (ms.take i)) (plansOf n (ms.take i)).length = plansOf n (ms.take (i + 1)) := by
  unfold longer
  rw [List.take_length, take_more h, plansOf_snoc]
  rfl
theorem longer_few {n : Nat} {m : List Nat} {l : List (List Nat × List Nat)} {j : Nat} (hn : n ≤ 8) (hl : l.length ≤ 6561) : (longer n m l j).length ≤ 59049 := by
  unfold longer
  have := flat_len (F := fun x => goOn n m x (n + 1)) (c := 9) (fun x => by rw [goOn_len]; omega) (l.take j)
  rw [List.length_take] at this
  omega
theorem plan_few {l : List (List Nat × List Nat)} {n : Nat} {ms : List (List Nat)} (h : l = plansOf n ms) (hn : ms.length ≤ 4) : ∀ x ∈ l, x.1.length ≤ 4 := by
  intro x hx
  rw [h, plansOf_all] at hx
  obtain ⟨p, hp, e⟩ := List.mem_map.mp hx
  rw [← e]
  show p.length ≤ 4
  rw [rows_length_of hp]
  exact hn
theorem plan_lever {n : Nat} {ms : List (List Nat)} (h : ∀ m ∈ ms, m.length = n) : ∀ x ∈ plansOf n ms, x.2.length = n := by
  intro x hx
  rw [plansOf_all] at hx
  obtain ⟨p, hp, e⟩ := List.mem_map.mp hx
  rw [← e]
  exact lever_length h p
section
variable {P : Program} {w : World} {K : PySem.W.Frag} {mg : Str → Option Value} {base : Heap}
abbrev nEvery : List Str := ["motions", "places", "plans", "motion", "shares", "longer", "plan", "lever", "turn", "share"]
theorem scEvery : FnScope nEvery ["motions", "places"] (defScope sEvery) := ⟨rfl, rfl, rfl, by decide +kernel, rfl, by decide +kernel, by decide +kernel⟩
theorem ok_every {f fS fT : Addr} {fd fdS fdT : FuncData} (F : Fun K "every_plan" "every_plan" sEvery f fd) (T : TxtG mg)
    (FS : Fun K "share_of" "share_of" sShare fS fdS) (bS : Binds K fdS ["motion", "turn"] []) (gS : mg "share_of" = some (.ref fS))
    (FT : Fun K "together" "together" sTogether fT fdT) (bT : Binds K fdT ["lever", "share"] []) (gT : mg "together" = some (.ref fT)) :
    FnOk P w K mg base CX0 2 f fd ["motions", "places"] spEvery := by
  have GS : ∀ base : Heap, FnOk P w K mg base CX0 1 fS fdS ["motion", "turn"] (spShare K) := fun base => ok_share FS T
  have GT : FnOk P w K mg base CX0 1 fT fdT ["lever", "share"] (spTogether K) := ok_together FT T
  refine F.ok scEvery (fun vs H Q E h => ?_) (fun cdv A outer s H vs Q E hr h => ?_)
  · obtain ⟨a, n, ms, rfl, _⟩ := h
    rfl
  · obtain ⟨a, n, ms, rfl, hM, hml, h8, h4, q⟩ := h
    obtain ⟨rs, hrs, hrl, hrat⟩ := hM.at
    refine ⟨_, pss_cons (ps_set (i := 2) scEvery.nd rfl (Or.inl rfl) (pe_lst (pa_cons (pe_tup (pa_cons (pe_lst pa_nil) (pa_cons (pe_op op_rep (pe_lst (pa_cons pe_int pa_nil)) (pv 1)) pa_nil))) pa_nil)))
      (pss_cons (ps_for PassesOwn.never rfl (pi_list (pv 0)) (pg_name (i := 3) scEvery.nd rfl (Or.inr rfl))
        (pss_cons (ps_setLc (i := 4) (own := [("turn", 8)]) (g := gName 8) (tt := tYes) rfl scEvery.nd rfl rfl (sw_true rfl rfl rfl (by decide +kernel)) (pi_range1 (by rfl) T.range (pa_cons (pe_op op_add (pv 1) pe_int) pa_nil)) (blkOk_by (N := nEvery) (sc := defScope sEvery) (by decide +kernel))
            (fun _ _ _ _ _ => pg_name (i := 8) scEvery.nd rfl (Or.inl rfl)) (fun _ _ _ _ _ => pts_nil) (fun _ _ _ _ _ => pe_call (GS _) hr rfl gS FS.kp bS .nil pass0 (pa_cons (pv 3) (pa_cons (pv 8) pa_nil))))
        (pss_cons (ps_set (i := 5) scEvery.nd rfl (Or.inl rfl) (pe_lst pa_nil))
        (pss_cons (ps_for PassesOwn.never rfl (pi_list (pv 2)) (pg_tup rfl (pgs_cons (pg_name (i := 6) scEvery.nd rfl (Or.inl rfl)) (pgs_cons (pg_name (i := 7) scEvery.nd rfl (Or.inl rfl)) pgs_nil)))
          (pss_one (ps_for PassesOwn.never rfl (pi_enum (by rfl) T.enum (pa_cons (pv 4) pa_nil)) (pg_tup rfl (pgs_cons (pg_name (i := 8) scEvery.nd rfl (Or.inl rfl)) (pgs_cons (pg_name (i := 9) scEvery.nd rfl (Or.inl rfl)) pgs_nil)))
            (pss_one (ps_expr (pe_bm PySem.F.plainAttrs_list PySem.F.slot_list_append PySem.F.type_list_append mt_append (pv 5) (pa_cons (pe_tup (pa_cons (pe_op op_cat (pv 6) (pe_lst (pa_cons (pv 8) pa_nil))) (pa_cons (pe_call GT hr rfl gT FT.kp bT .nil pass0 (pa_cons (pv 7) (pa_cons (pv 9) pa_nil))) pa_nil))) pa_nil)))))))
        (pss_one (ps_set (i := 2) scEvery.nd rfl (Or.inl rfl) (pv 5)))))))
      (pss_one (ps_ret (pv 2)))), ?_⟩
    -- plans = [([], [0] * places)]
    refine ⟨(by show 0 ≤ sizeLine; decide), fun p1 hp1 => ?_⟩
    have s1 := same_new (o := .lst []) hp1
    refine ⟨(by show 1 ≤ sizeLine; decide), fun p2 hp2 => ?_⟩
    have s2 := same_upd (o := .lst [.int 0]) s1 (s1.free hp2)
    refine ⟨_, rfl, p2, (n : Int), [.int 0], rfl, rfl, upd_same, by omega, by omega, ?_, fun p3 hp3 => ?_⟩
    · show 1 * (Int.toNat (n : Int)) ≤ sizeLine
      rw [Nat.one_mul, Int.toNat_natCast]
      exact Nat.le_of_lt (small12 (by omega))
    have s3 := same_upd (o := .lst (List.replicate (Int.toNat (n : Int)) [V.int 0]).flatten) s2 (s2.free hp3)
    refine ⟨(by show 2 ≤ sizeLine; decide), fun p4 hp4 => ?_⟩
    have s4 := same_upd (o := .tup [.ref p1, .ref p3]) s3 (s3.free hp4)
    refine ⟨(by show 1 ≤ sizeLine; decide), fun p5 hp5 => ?_⟩
    have s5 := same_upd (o := .lst [.ref p4]) s4 (s4.free hp5)
    have k1 := same_new (o := .lst [.int 0]) hp2
    have k2 := same_new (o := .lst (List.replicate (Int.toNat (n : Int)) [V.int 0]).flatten) hp3
    have k3 := same_new (o := .tup [.ref p1, .ref p3]) hp4
    have k4 := same_new (o := .lst [.ref p4]) hp5
    have z1 := k4 _ _ (k3 _ _ (k2 _ _ (k1 p1 _ upd_same)))
    have z3 := k4 _ _ (k3 p3 _ upd_same)
    have z4 := k4 p4 _ upd_same
    have er : (rs.map V.ref).length = ms.length := by rw [List.length_map, hrl]
    refine ⟨_, rfl, a, rfl, ⟨_, SqL.of (s5 _ _ hrs)⟩, for_it (walk_list (K := K) (a := a) (xs := rs.map V.ref)) (fun i σ H' => ∃ (L : Addr) (v3 v4 v5 v6 v7 v8 v9 : Option V), σ = [some (.ref a), some (.int (n : Int)), some (.ref L), v3, v4, v5, v6, v7, v8, v9] ∧ Same H H' ∧ ListOf PlanAt (frs H H') L (plansOf n (ms.take i)))
      ⟨p5, none, none, none, none, none, none, none, rfl, s5, [p4], only_some.mpr ⟨s4.free hp5, upd_same⟩, .cons ⟨p1, p3, only_some.mpr ⟨s3.free hp4, z4⟩, only_some.mpr ⟨hp1, z1⟩, only_some.mpr ⟨s2.free hp3, z3.trans (congrArg (fun z => some (HO.lst z)) (zeros n))⟩⟩ .nil⟩ (fun i σ H' _ ⟨_, _, _, _, _, _, _, _, _, s, _⟩ => SqL.of (s _ _ hrs)) ?_ ?_⟩
    · rintro i x σ H0' H0 hi ⟨L, v3, v4, v5, v6, v7, v8, v9, rfl, s0, hL⟩ ⟨rfl, hx⟩
      obtain ⟨r, hr', rfl⟩ := ref_get hx
      have hi' : i < ms.length := by rw [← hrl]; exact get_lt hr'
      obtain ⟨r2, e2, hrow⟩ := hrat i ms[i] (List.getElem?_eq_getElem hi')
      rw [hr'] at e2
      cases e2
      generalize hm : ms[i] = m at hrow
      have hmi : ms[i]? = some m := by rw [List.getElem?_eq_getElem hi', hm]
      have hmn : m.length = n := hml m (List.mem_of_getElem? hmi)
      have hrow' : H r = some (.lst (vn m)) := hrow
      have hpf : (plansOf n (ms.take i)).length ≤ 6561 := plansOf_few h8 (by rw [List.length_take]; omega)
      have hp4 := plan_few (l := plansOf n (ms.take i)) rfl (by rw [List.length_take]; omega)
      have hpl := plan_lever (n := n) (ms := ms.take i) fun m hm => hml m (List.mem_of_mem_take hm)
      have hnx := longer_all (n := n) hmi
      generalize plansOf n (ms.take i) = pls at *
      obtain ⟨ts, hts, htl, htat⟩ := hL.at
      -- shares
      refine ⟨_, rfl, _, _, rfl, rfl, (n : Int) + 1, rfl, by omega, by omega, fun D hD => lc_range (lo := 0) (n := ((n : Int) + 1).toNat) (fun j H' => Same H0 H' ∧ Acc RowAt (fun b => H b = none) H' D ((List.range j).map fun k => share n k m)) ⟨same_new hD, Acc.start upd_same⟩ ?_ ?_⟩
      · rintro j H1 hj ⟨s1, hA⟩
        have hj' : j ≤ n := by omega
        refine ⟨rfl, lc_yes ?_⟩
        refine ⟨_, rfl, _, rfl, r, n, j, m, ?_, SqL.of (s1 _ _ (s0 _ _ hrow')), hmn, h8, hj', fun H2 p s2 hp h2 => ?_⟩
        · show [_, V.int (0 + (j : Int))] = _
          rw [Int.zero_add]
        · obtain ⟨_, hA1, _⟩ := id hA
          have npD : p ≠ D := fun z => by rw [z, hA1] at hp; cases hp
          obtain ⟨acc, c1, c2, c3⟩ := (hA.keep RowAt.mono s2).push RowAt.mono (t := p) (x := share n j m) (only_some.mpr ⟨⟨s0.free (s1.free hp), npD⟩, h2⟩)
          refine ⟨acc, c1, ?_, same_upd (s1.trans s2) hD, ?_⟩
          · rw [c2, List.length_map, List.length_range]
            exact small12 (by omega)
          · rw [List.range_succ, List.map_append]
            exact c3
      rintro H1 ⟨s1, hA⟩
      have en : ((n : Int) + 1).toNat = n + 1 := by omega
      rw [en] at hA
      have s01 := s0.trans s1
      obtain ⟨us, hus, hul, huat⟩ := (ListOf.mono RowAt.mono _ _ _ _ (only_same _ _) (hA.done RowAt.mono (s0.free hD))).at
      rw [List.length_map, List.length_range] at hul
      -- longer = []
      refine ⟨(by show 0 ≤ sizeLine; decide), fun L2 hL2 => ?_⟩
      have hts1 : H1 L = some (.lst (ts.map V.ref)) := s1 _ _ (frs_same _ _ _ _ hts)
      have sN := same_new (o := .lst []) hL2
      have et : (ts.map V.ref).length = pls.length := by rw [List.length_map, htl]
      have eu : (us.map V.ref).length = n + 1 := by rw [List.length_map, hul]
      refine ⟨_, rfl, L, rfl, ⟨_, SqL.of (sN _ _ hts1)⟩, for_it (walk_list (K := K) (a := L) (xs := ts.map V.ref)) (fun j σ H' => ∃ (v6 v7 v8 v9 : Option V), σ = [some (.ref a), some (.int (n : Int)), some (.ref L), some (.ref r), some (.ref D), some (.ref L2), v6, v7, v8, v9] ∧ Same H1 H' ∧ Acc PlanAt (fun b => H b = none) H' L2 (longer n m pls j))
        ⟨v6, v7, v8, v9, rfl, sN, Acc.start upd_same⟩ (fun j σ H' _ ⟨_, _, _, _, _, s, _⟩ => SqL.of (s _ _ hts1)) ?_ ?_⟩
      · rintro j x σ H2' H2 hj ⟨v6, v7, v8, v9, rfl, s2, hA2⟩ ⟨rfl, hx⟩
        obtain ⟨t, ht, rfl⟩ := ref_get hx
        have hj' : j < pls.length := by rw [← htl]; exact get_lt ht
        obtain ⟨t2, e2, pa, pb, g1, g2, g3⟩ := htat j pls[j] (List.getElem?_eq_getElem hj')
        rw [ht] at e2
        cases e2
        have hxj : pls[j]? = some pls[j] := List.getElem?_eq_getElem hj'
        have hx4 := hp4 pls[j] (List.getElem_mem hj')
        have hxl := hpl pls[j] (List.getElem_mem hj')
        generalize pls[j] = y at *
        have sF : Same (frs H H0) H1 := fun b o e => s1 b o (frs_same _ _ _ _ e)
        have g1' := sF _ _ g1
        have g2' : H1 pa = some (.lst (vn y.1)) := sF _ _ g2
        have g3' : H1 pb = some (.lst (vn y.2)) := sF _ _ g3
        refine ⟨t, _, rfl, SqT.of (s2 _ _ g1'), rfl, _, _, rfl, _, _, rfl, rfl, ?_⟩
        refine ⟨_, rfl, D, _, rfl, SqL.of (s2 _ _ hus), for_it (walk_enum (K := K) (a := D) (xs := us.map V.ref)) (fun k σ H' => ∃ (v8 v9 : Option V), σ = [some (.ref a), some (.int (n : Int)), some (.ref L), some (.ref r), some (.ref D), some (.ref L2), some (.ref pa), some (.ref pb), v8, v9] ∧ Same H1 H' ∧ Acc PlanAt (fun b => H b = none) H' L2 (longer n m pls j ++ goOn n m y k))
          ⟨v8, v9, rfl, s2, by rw [show goOn n m y 0 = [] from rfl, List.append_nil]; exact hA2⟩ (fun k σ H' _ ⟨_, _, _, s, _⟩ => SqL.of (s _ _ hus)) ?_ ?_⟩
        · rintro k x σ H3 H3' hk ⟨v8, v9, rfl, s3, hA3⟩ ⟨T0, y1, y2, rfl, hT0, rfl, hy1, hy2⟩
          cases hy1
          obtain ⟨u, hu, rfl⟩ := ref_get hy2
          have hk' : k < n + 1 := by rw [eu] at hk; exact hk
          obtain ⟨u2, e3, hru⟩ := huat k (share n k m) (by rw [List.getElem?_map, List.getElem?_range hk']; rfl)
          rw [hu] at e3
          cases e3
          have hru' : H1 u = some (.lst (vn (share n k m))) := hru
          have q1 := same_new (o := .tup [.int (k : Nat), .ref u]) hT0
          have s4 := s3.trans q1
          have hA4 := hA3.keep PlanAt.mono q1
          have hTf : upd H3 T0 (.tup [.int (k : Nat), .ref u]) T0 = some (.tup [.int (k : Nat), .ref u]) := upd_same
          generalize upd H3 T0 (.tup [.int (k : Nat), .ref u]) = H4 at *
          obtain ⟨acc4, hL4, _⟩ := id hA4
          have s04 := s01.trans s4
          refine ⟨T0, _, rfl, SqT.of hTf, rfl, _, _, rfl, _, _, rfl, rfl, ?_⟩
          refine ⟨_, rfl, .inl ⟨rfl, _, SqL.of hL4⟩, ?_⟩
          -- plan + [turn]
          refine ⟨_, rfl, _, rfl, (by show 1 ≤ sizeLine; decide), fun c1 hc1 => ?_⟩
          have w1 := same_new (o := .lst [.int (k : Nat)]) hc1
          refine ⟨pa, c1, _, _, rfl, rfl, w1 _ _ (s4 _ _ g2'), upd_same, ?_, fun c2 hc2 => ?_⟩
          · show (vn y.1).length + 1 ≤ sizeLine
            rw [List.length_map]
            exact Nat.le_of_lt (small12 (by omega))
          have w2 := same_upd (o := .lst (vn y.1 ++ [.int (k : Nat)])) w1 (w1.free hc2)
          have hc2f : upd (upd H4 c1 (.lst [.int (k : Nat)])) c2 (.lst (vn y.1 ++ [.int (k : Nat)])) c2 = some (.lst (vn (y.1 ++ [k]))) := by
            rw [upd_same, vn_append]
            rfl
          have f2 : H4 c2 = none := w1.free hc2
          generalize upd (upd H4 c1 (.lst [.int (k : Nat)])) c2 (.lst (vn y.1 ++ [.int (k : Nat)])) = H5 at *
          -- together(lever, share)
          refine ⟨_, rfl, _, rfl, pb, u, y.2, share n k m, rfl, SqL.of (w2 _ _ (s4 _ _ g3')), SqL.of (w2 _ _ (s4 _ _ hru')), (by omega), fun H6 c3 w3 hc3 h3 => ?_⟩
          have w03 := w2.trans w3
          refine ⟨(by show 2 ≤ sizeLine; decide), fun c4 hc4 => ?_⟩
          have w4 := same_upd (o := .tup [.ref c2, .ref c3]) w03 (w03.free hc4)
          have w5 := same_new (o := .tup [.ref c2, .ref c3]) hc4
          have ne : ∀ b, H4 b = none → H b = none ∧ b ≠ L2 := fun b hb => ⟨s04.free hb, fun z => by rw [z, hL4] at hb; cases hb⟩
          obtain ⟨acc, a1, a2, a3⟩ := (hA4.keep PlanAt.mono w4).push PlanAt.mono (t := c4) (x := (y.1 ++ [k], Uw42.add y.2 (share n k m)))
            ⟨c2, c3, only_some.mpr ⟨ne c4 (w03.free hc4), upd_same⟩, only_some.mpr ⟨ne c2 f2, w5 _ _ (w3 _ _ hc2f)⟩, only_some.mpr ⟨ne c3 (w2.free hc3), w5 _ _ h3⟩⟩
          refine ⟨L2, acc, _, rfl, rfl, a1, ?_, ?_⟩
          · rw [a2, List.length_append, goOn_len]
            have := longer_few (n := n) (m := m) (l := pls) (j := j) h8 hpf
            exact smallM (by omega)
          · refine ⟨_, _, rfl, same_upd (s4.trans w4) hL2, ?_⟩
            rw [goOn_succ, ← List.append_assoc]
            exact a3
        · rintro σ H3 ⟨v8, v9, rfl, s3, hA3⟩
          rw [eu, ← longer_succ hxj] at hA3
          exact ⟨_, _, _, _, rfl, s3, hA3⟩
      · rintro σ H2 ⟨v6, v7, v8, v9, rfl, s2, hA2⟩
        rw [et, hnx] at hA2
        exact ⟨_, rfl, L2, _, _, _, _, _, _, _, rfl, s01.trans s2, hA2.done PlanAt.mono (s01.free hL2)⟩
    · rintro σ H' ⟨L, v3, v4, v5, v6, v7, v8, v9, rfl, s', hL⟩
      rw [er, List.take_length] at hL
      exact ⟨_, rfl, q H' L s' hL⟩
end
end Cam
set_option Elab.async false
set_option maxRecDepth 100000
set_option maxHeartbeats 2000000
namespace Cam
open PySem PySem.Spec PyProof.Rows L2
open Uw44 (Show)
abbrev sSInit : Stmt := inClass cS 0
abbrev sAnew : Stmt := inClass cS 1
abbrev sBegins : Stmt := inClass cS 2
abbrev sCam : Stmt := inClass cS 3
abbrev sWish : Stmt := inClass cS 4
abbrev sMoves : Stmt := inClass cS 5
abbrev sSum : Stmt := inClass cS 6
abbrev sNearest : Stmt := inClass cS 7
abbrev sBest : Stmt := inClass cS 8
abbrev sReaches : Stmt := inClass cS 9
abbrev sMotions : Stmt := inClass cS 10
/-- the show's attributes -/
def sF (n f c w : V) : List (Str × V) := [("places", n), ("foot", f), ("cams", c), ("wished", w)]
section
variable {n f c w x : V}
theorem sF_places : (sF n f c w).lookup ("places" : Str) = some n := lk_here
theorem sF_foot : (sF n f c w).lookup ("foot" : Str) = some f := (lk_past (by decide +kernel)).trans lk_here
theorem sF_cams : (sF n f c w).lookup ("cams" : Str) = some c := (lk_past (by decide +kernel)).trans ((lk_past (by decide +kernel)).trans lk_here)
theorem sF_wished : (sF n f c w).lookup ("wished" : Str) = some w := (lk_past (by decide +kernel)).trans ((lk_past (by decide +kernel)).trans ((lk_past (by decide +kernel)).trans lk_here))
theorem sF_no {k : Str} (h1 : (k == ("places" : Str)) = false) (h2 : (k == ("foot" : Str)) = false) (h3 : (k == ("cams" : Str)) = false) (h4 : (k == ("wished" : Str)) = false) : (sF n f c w).lookup k = none :=
  (lk_past h1).trans ((lk_past h2).trans ((lk_past h3).trans ((lk_past h4).trans rfl)))
theorem sF_putPlaces : putF "places" x (sF n f c w) = sF x f c w := put_here
theorem sF_putFoot : putF "foot" x (sF n f c w) = sF n x c w := (put_past (by decide +kernel)).trans (congrArg _ put_here)
theorem sF_putCams : putF "cams" x (sF n f c w) = sF n f x w := (put_past (by decide +kernel)).trans (congrArg _ ((put_past (by decide +kernel)).trans (congrArg _ put_here)))
theorem sF_putWished : putF "wished" x (sF n f c w) = sF n f c x := (put_past (by decide +kernel)).trans (congrArg _ ((put_past (by decide +kernel)).trans (congrArg _ ((put_past (by decide +kernel)).trans (congrArg _ put_here)))))
theorem sF_new : putF "wished" w (putF "cams" c (putF "foot" f (putF "places" n []))) = sF n f c w := by
  have e1 : putF "foot" f (putF "places" n []) = ([("places", n), ("foot", f)] : List (Str × V)) := (put_past (by decide +kernel)).trans rfl
  have e2 : putF "cams" c ([("places", n), ("foot", f)] : List (Str × V)) = ([("places", n), ("foot", f), ("cams", c)] : List (Str × V)) := (put_past (by decide +kernel)).trans (congrArg _ ((put_past (by decide +kernel)).trans rfl))
  have e3 : putF "wished" w ([("places", n), ("foot", f), ("cams", c)] : List (Str × V)) = sF n f c w := (put_past (by decide +kernel)).trans (congrArg _ ((put_past (by decide +kernel)).trans (congrArg _ ((put_past (by decide +kernel)).trans rfl))))
  rw [e1, e2, e3]
end
theorem putF_len (k : Str) (v : V) : ∀ fs : List (Str × V), (putF k v fs).length ≤ fs.length + 1
  | [] => Nat.le_refl _
  | (g, x) :: r => by
    unfold putF
    split
    · exact Nat.le_succ _
    · exact Nat.succ_le_succ (putF_len k v r)
/-- the cams' rows lie at rs -/
structure Cams (H : Hp) (rs : List Addr) (cs : List (List Nat)) : Prop where
  len : rs.length = cs.length
  row : ∀ (i : Nat) (l : List Nat), cs[i]? = some l → ∃ r, rs[i]? = some r ∧ H r = some (.lst (vn l))
/-- a show lies at a, its list of cams at pc, its other rows at os -/
def ShowAt (C : Addr) (H : Hp) (a pc : Addr) (os : List Addr) (s : Show) : Prop := ∃ (dx pf pw : Addr) (rs : List Addr), os = pf :: pw :: rs ∧ H a = some (.ins C dx (sF (.int (s.box.places : Int)) (.ref pf) (.ref pc) (.ref pw))) ∧
  H pf = some (.lst (vn s.foot)) ∧ H pw = some (.lst (vn s.box.wish)) ∧ H pc = some (.lst (rs.map V.ref)) ∧ Cams H rs s.box.cams ∧ pc ≠ pf ∧ pc ≠ pw ∧ pc ∉ rs
/-- but for the things at a and at c all stands as it was -/
abbrev But2 (a c : Addr) (H H' : Hp) : Prop := ∀ b o, H b = some o → b ≠ a → b ≠ c → H' b = some o
/-- what a call about the show is to leave: the show so (its rows are the old ones, those at xs, or new), a new list of these numbers -/
def After (C a pc : Addr) (os xs : List Addr) (H : Hp) (s : Show) (o : List Int) (Q : VK) : Prop := ∀ (H' : Hp) (pc' p : Addr) (os' : List Addr), ShowAt C H' a pc' os' s → (pc' = pc ∨ H pc' = none) → (∀ x ∈ os', x ∈ os ∨ x ∈ xs ∨ H x = none) → But2 a pc H H' → H p = none → H' p = some (.lst (vz o)) → Q (.ref p) H'
theorem Cams.keep {H H' : Hp} {rs : List Addr} {cs : List (List Nat)} (h : Cams H rs cs) (k : ∀ r ∈ rs, ∀ o, H r = some o → H' r = some o) : Cams H' rs cs :=
  ⟨h.len, fun i l e => let ⟨r, h1, h2⟩ := h.row i l e; ⟨r, h1, k r (List.mem_of_getElem? h1) _ h2⟩⟩
theorem ShowAt.keep {C : Addr} {H H' : Hp} {a pc : Addr} {os : List Addr} {s : Show} (h : ShowAt C H a pc os s) (k : Same H H') : ShowAt C H' a pc os s := by
  obtain ⟨dx, pf, pw, rs, h0, h1, h2, h3, h4, h5, h6⟩ := h
  exact ⟨dx, pf, pw, rs, h0, k _ _ h1, k _ _ h2, k _ _ h3, k _ _ h4, h5.keep (fun r _ o => k r o), h6⟩
/-- a list that is given back, all else as it was -/
theorem After.give {C a pc : Addr} {os xs : List Addr} {H H1 : Hp} {s : Show} {o : List Int} {Q : VK} (h : After C a pc os xs H s o Q) (hs : ShowAt C H a pc os s) (k : Same H H1) {p : Addr} (hp : H1 p = none) : Q (.ref p) (upd H1 p (.lst (vz o))) :=
  h _ pc p os (hs.keep (same_upd k (k.free hp))) (.inl rfl) (fun _ z => .inl z) (fun b o e _ _ => same_upd k (k.free hp) b o e) (k.free hp) upd_same
structure TxtS (K : PySem.W.Frag) (mg : Str → Option Value) (C : Addr) : Prop where
  cl : Cls K C
  nP : NoAttr K C "places"
  nF : NoAttr K C "foot"
  nC : NoAttr K C "cams"
  nW : NoAttr K C "wished"
  gC : mg "Show" = some (.ref C)
  few : ∃ t, mg "FEWEST_PLACES" = some (.int 2 t)
  most : ∃ t, mg "MOST_PLACES" = some (.int 8 t)
  cams : ∃ t, mg "MOST_CAMS" = some (.int 4 t)
  radius : ∃ t, mg "GREATEST_RADIUS" = some (.int 100 t)
  height : ∃ t, mg "GREATEST_HEIGHT" = some (.int 400 t)
def spAnew (C : Addr) : Sp := fun vs H Q _ => ∃ (a q dx : Addr) (n : Nat) (f : List Nat) (fs : List (Str × V)), vs = [.ref a, .int (n : Int), .ref q] ∧ H a = some (.ins C dx fs) ∧ fs.length ≤ 4 ∧
  (∀ p f c w, putF "wished" w (putF "cams" c (putF "foot" f (putF "places" p fs))) = sF p f c w) ∧ H q = some (.lst (vn f)) ∧ n ≤ 8 ∧
  ∀ (H' : Hp) (pc : Addr) (os : List Addr), ShowAt C H' a pc os ⟨f, ⟨n, [], List.replicate n 0⟩⟩ → H pc = none → (∀ x ∈ os, x = q ∨ H x = none) → But a H H' → Q .non H'
def spSInit (C : Addr) : Sp := fun vs H Q _ => ∃ (a dx : Addr), vs = [.ref a] ∧ H a = some (.ins C dx []) ∧
  ∀ (H' : Hp) (pc : Addr) (os : List Addr), ShowAt C H' a pc os Uw44.init → H pc = none → (∀ x ∈ os, H x = none) → But a H H' → Q .non H'
def spBegins (C : Addr) : Sp := fun vs H Q _ => ∃ (a pc q : Addr) (os : List Addr) (s : Show) (n : Nat) (f : List Nat), vs = [.ref a, .int (n : Int), .ref q] ∧ ShowAt C H a pc os s ∧ H q = some (.lst (vn f)) ∧ f.length ≤ 12 ∧
  After C a pc os [q] H (Uw44.step s (.begins n f)).1 (outs (Uw44.step s (.begins n f)).2) Q
def spCam (C : Addr) : Sp := fun vs H Q _ => ∃ (a pc q : Addr) (os : List Addr) (s : Show) (r : List Nat), vs = [.ref a, .ref q] ∧ ShowAt C H a pc os s ∧ Fine s ∧ H q = some (.lst (vn r)) ∧ q ≠ pc ∧ r.length ≤ 12 ∧
  After C a pc os [q] H (Uw44.step s (.cam r)).1 (outs (Uw44.step s (.cam r)).2) Q
def spWish (C : Addr) : Sp := fun vs H Q _ => ∃ (a pc q : Addr) (os : List Addr) (s : Show) (r : List Nat), vs = [.ref a, .ref q] ∧ ShowAt C H a pc os s ∧ H q = some (.lst (vn r)) ∧ q ≠ pc ∧ r.length ≤ 12 ∧
  After C a pc os [q] H (Uw44.step s (.wish r)).1 (outs (Uw44.step s (.wish r)).2) Q
def spMoves (C : Addr) : Sp := fun vs H Q _ => ∃ (a pc : Addr) (os : List Addr) (s : Show) (i : Nat), vs = [.ref a, .int (i : Int)] ∧ ShowAt C H a pc os s ∧ Fine s ∧
  After C a pc os [] H (Uw44.step s (.moves i)).1 (outs (Uw44.step s (.moves i)).2) Q
section
variable {P : Program} {w : World} {K : PySem.W.Frag} {mg : Str → Option Value} {base : Heap} {C : Addr}
theorem scAnew : FnScope ["self", "places", "foot"] ["self", "places", "foot"] (defScope sAnew) := ⟨rfl, rfl, rfl, by decide +kernel, rfl, by decide +kernel, by decide +kernel⟩
theorem ok_anew {f : Addr} {fd : FuncData} (F : Fun K "start_anew" "Show.start_anew" sAnew f fd) (T : TxtS K mg C) : FnOk P w K mg base CX0 1 f fd ["self", "places", "foot"] (spAnew C) := by
  refine F.ok scAnew (fun vs H Q E h => ?_) (fun cdv A outer s H vs Q E hr h => ?_)
  · obtain ⟨a, q, dx, n, f, fs, rfl, _⟩ := h
    rfl
  · obtain ⟨a, q, dx, n, f, fs, rfl, ha, hl, hf, hq, hn, k⟩ := h
    refine ⟨_, pss_cons (ps_fld (pv 0) (pv 1) rfl) (pss_cons (ps_fld (pv 0) (pv 2) rfl) (pss_cons (ps_fld (pv 0) (pe_lst pa_nil) rfl)
      (pss_one (ps_fld (pv 0) (pe_op op_rep (pe_lst (pa_cons pe_int pa_nil)) (pv 1)) rfl)))), ?_⟩
    have l1 := putF_len "places" (.int (n : Int)) fs
    refine ⟨_, rfl, _, rfl, a, C, dx, fs, rfl, ha, T.cl, T.nP, by omega, ?_⟩
    refine ⟨_, rfl, _, rfl, a, C, dx, _, rfl, upd_same, T.cl, T.nF, by omega, ?_⟩
    have l2 := putF_len "foot" (.ref q) (putF "places" (.int (n : Int)) fs)
    rw [upd_upd]
    refine ⟨(by show 0 ≤ sizeLine; decide), fun pc hpc => ?_⟩
    have n1 : pc ≠ a := fun z => by rw [z, upd_same] at hpc; cases hpc
    refine ⟨_, rfl, a, C, dx, _, rfl, (upd_ne (Ne.symm n1)).trans upd_same, T.cl, T.nC, by omega, ?_⟩
    have l3 := putF_len "cams" (.ref pc) (putF "foot" (.ref q) (putF "places" (.int (n : Int)) fs))
    refine ⟨(by show 1 ≤ sizeLine; decide), fun pz hpz => ?_⟩
    refine ⟨_, rfl, pz, (n : Int), [.int 0], rfl, rfl, upd_same, by omega, by omega, ?_, fun pw hpw => ?_⟩
    · show 1 * (Int.toNat (n : Int)) ≤ sizeLine
      rw [Nat.one_mul, Int.toNat_natCast]
      exact Nat.le_trans hn (by decide)
    have n2 : pz ≠ a := fun z => by rw [z, upd_same] at hpz; cases hpz
    have n3 : pz ≠ pc := fun z => by rw [z, upd_ne n1, upd_same] at hpz; cases hpz
    have n4 : pw ≠ a := fun z => by rw [z, upd_ne (Ne.symm n2), upd_same] at hpw; cases hpw
    have n5 : pw ≠ pc := fun z => by rw [z, upd_ne (Ne.symm n3), upd_ne n1, upd_same] at hpw; cases hpw
    have n6 : pw ≠ pz := fun z => by rw [z, upd_same] at hpw; cases hpw
    have hpc0 : H pc = none := by rw [upd_ne n1] at hpc; exact hpc
    have hpz0 : H pz = none := by rw [upd_ne n2, upd_ne n3, upd_ne n2] at hpz; exact hpz
    have hpw0 : H pw = none := by rw [upd_ne n6, upd_ne n4, upd_ne n5, upd_ne n4] at hpw; exact hpw
    refine ⟨_, rfl, a, C, dx, putF "cams" (.ref pc) (putF "foot" (.ref q) (putF "places" (.int (n : Int)) fs)), rfl, ?_, T.cl, T.nW, by omega, ?_⟩
    · rw [upd_ne (Ne.symm n4), upd_ne (Ne.symm n2), upd_same]
    have nq : q ≠ a := fun z => by rw [z, ha] at hq; cases hq
    refine k _ pc [q, pw] ⟨dx, q, pw, [], rfl, ?_, ?_, ?_, ?_, ⟨rfl, fun i l e => by cases i <;> cases e⟩, ?_, Ne.symm n5, (fun z => nomatch z)⟩ hpc0 (fun x hx => ?_) (fun b o e nb => ?_)
    · rw [upd_same, hf]
    · rw [upd_ne nq, upd_ne (fun z => by rw [z, hpw0] at hq; cases hq), upd_ne (fun z => by rw [z, hpz0] at hq; cases hq), upd_ne nq, upd_ne (fun z => by rw [z, hpc0] at hq; cases hq), upd_ne nq]
      exact hq
    · rw [upd_ne n4, upd_same, zeros]
    · rw [upd_ne n1, upd_ne (Ne.symm n5), upd_ne (Ne.symm n3), upd_ne n1, upd_same]
      rfl
    · intro z
      rw [z, hq] at hpc0
      cases hpc0
    · rcases List.mem_cons.mp hx with z | hx
      · exact .inl z
      · rw [List.mem_singleton.mp hx]
        exact .inr hpw0
    · rw [upd_ne nb, upd_ne (fun z => by rw [z, hpw0] at e; cases e), upd_ne (fun z => by rw [z, hpz0] at e; cases e), upd_ne nb, upd_ne (fun z => by rw [z, hpc0] at e; cases e), upd_ne nb]
      exact e
end
end Cam
set_option Elab.async false
set_option maxRecDepth 100000
set_option maxHeartbeats 2000000
namespace Cam
open PySem PySem.Spec PyProof.Rows L2
open Uw44 (Show)
section
variable {P : Program} {w : World} {K : PySem.W.Frag} {mg : Str → Option Value} {base : Heap} {C : Addr}
theorem scSInit : FnScope ["self"] ["self"] (defScope sSInit) := ⟨rfl, rfl, rfl, by decide +kernel, rfl, by decide +kernel, by decide +kernel⟩
theorem ok_sinit {f fN : Addr} {fd fdN : FuncData} (F : Fun K "__init__" "Show.__init__" sSInit f fd) (T : TxtS K mg C) (FN : Fun K "start_anew" "Show.start_anew" sAnew fN fdN) (bN : Binds K fdN ["self", "places", "foot"] []) (mN : Meth K C "start_anew" fN) :
    FnOk P w K mg base CX0 2 f fd ["self"] (spSInit C) := by
  have GN : FnOk P w K mg base CX0 1 fN fdN ["self", "places", "foot"] (spAnew C) := ok_anew FN T
  obtain ⟨tf, gf⟩ := T.few
  refine F.ok scSInit (fun vs H Q E h => ?_) (fun cdv A outer s H vs Q E hr h => ?_)
  · obtain ⟨a, dx, rfl, _⟩ := h
    rfl
  · obtain ⟨a, dx, rfl, ha, k⟩ := h
    refine ⟨_, pss_one (ps_expr (pe_meth (pv 0) T.cl mN GN hr bN .nil pass0 (pa_cons (pe_glob rfl gf rel_int) (pa_cons (pe_lst (pa_cons pe_int pa_nil)) pa_nil)))), ?_⟩
    refine ⟨_, rfl, a, dx, _, rfl, ha, rfl, (by show 1 ≤ sizeLine; decide), fun q hq => ?_⟩
    have nq : q ≠ a := fun z => by rw [z, ha] at hq; cases hq
    refine ⟨a, q, dx, 2, [0], [], rfl, (by rw [upd_ne (Ne.symm nq)]; exact ha), Nat.zero_le _, fun p f c w => sF_new, upd_same, by decide, fun H' pc os h1 h2 ho h3 => ?_⟩
    refine k H' pc os h1 ?_ (fun x hx => (ho x hx).elim (fun z => by rw [z]; exact hq) (same_new hq).free) fun b o e nb => h3 b o (same_new hq b o e) nb
    cases z : H pc with
    | none => rfl
    | some o => rw [same_new hq pc o z] at h2; cases h2
theorem scBegins : FnScope ["self", "places", "foot"] ["self", "places", "foot"] (defScope sBegins) := ⟨rfl, rfl, rfl, by decide +kernel, rfl, by decide +kernel, by decide +kernel⟩
theorem ok_begins {f fN fI : Addr} {fd fdN fdI : FuncData} (F : Fun K "begins" "Show.begins" sBegins f fd) (T : TxtS K mg C) (FN : Fun K "start_anew" "Show.start_anew" sAnew fN fdN) (bN : Binds K fdN ["self", "places", "foot"] []) (mN : Meth K C "start_anew" fN)
    (GI : FnOk P w K mg base CX0 2 fI fdI ["numbers"] (spIsFoot K)) (bI : Binds K fdI ["numbers"] []) (gI : mg "is_foot" = some (.ref fI)) (kI : PySem.W.keepIn K (.ref fI) = true) :
    FnOk P w K mg base CX0 3 f fd ["self", "places", "foot"] (spBegins C) := by
  have GN : FnOk P w K mg base CX0 1 fN fdN ["self", "places", "foot"] (spAnew C) := ok_anew FN T
  obtain ⟨tf, gf⟩ := T.few
  obtain ⟨tm, gm⟩ := T.most
  refine F.ok scBegins (fun vs H Q E h => ?_) (fun cdv A outer s H vs Q E hr h => ?_)
  · obtain ⟨a, pc, q, os, s, n, f, rfl, _⟩ := h
    rfl
  · obtain ⟨a, pc, q, os, s, n, f, rfl, hS, hq, hl, k⟩ := h
    refine ⟨_, pss_cons (ps_if (PW.pt (pw_or (pt_not (pt_chain op_le op_le (pe_glob rfl gf rel_int) (pv 1) (pe_glob rfl gm rel_int))) (pw_or1 (pt_not (pt_val (pe_call GI hr rfl gI kI bI .nil pass0 (pa_cons (pv 2) pa_nil)))))))
        (pss_one (ps_ret (pe_lst (pa_cons (pe_un un_neg pe_int) pa_nil)))) pss_nil)
      (pss_cons (ps_expr (pe_meth (pv 0) T.cl mN GN (hr.mono (by decide)) bN .nil pass0 (pa_cons (pv 1) (pa_cons (pv 2) pa_nil))))
      (pss_one (ps_ret (pe_lst (pa_cons pe_int pa_nil))))), ?_⟩
    have no : Uw44.step s (.begins n f) = (s, Uw44.ok (-1)) → ∀ H1, Same H H1 → ∀ p, H1 p = none → Q (.ref p) (upd H1 p (.lst [.int (-1)])) := fun e H1 s1 p hp => by
      rw [e] at k
      exact k.give hS s1 hp
    refine ⟨_, rfl, _, _, rfl, rfl, _, rfl, ?_⟩
    by_cases c1 : (2 : Int) ≤ (n : Int)
    · refine if_true_of (decide_eq_true c1) ⟨_, _, rfl, rfl, _, rfl, ?_⟩
      by_cases c2 : (n : Int) ≤ 8
      · refine if_false_of (by rw [decide_eq_true c2]; rfl) ?_
        refine ⟨_, rfl, q, f, rfl, SqL.of hq, hl, fun H1 s1 => ⟨_, rfl, ?_⟩⟩
        by_cases c3 : footOk f
        · refine if_false_of (by rw [decide_eq_true c3]; rfl) ?_
          obtain ⟨dx, pf, pw, rs, _, h1, _⟩ := id hS
          refine ⟨_, rfl, a, dx, _, rfl, s1 _ _ h1, sF_no (by decide +kernel) (by decide +kernel) (by decide +kernel) (by decide +kernel), _, rfl, _, rfl, ?_⟩
          refine ⟨a, q, dx, n, f, _, rfl, s1 _ _ h1, Nat.le_refl 4, fun p f c w => ?_, s1 _ _ hq, by omega, fun H2 pc2 os2 h2 h3 ho h4 => ?_⟩
          · rw [sF_putPlaces, sF_putFoot, sF_putCams, sF_putWished]
          refine ⟨(by show 1 ≤ sizeLine; decide), fun p hp => ?_⟩
          rw [begins_yes (by omega) (by omega) c3] at k
          have na : p ≠ a := fun z => by
            obtain ⟨_, _, _, _, _, z1, _⟩ := h2
            rw [z, z1] at hp
            cases hp
          have hp0 : H p = none := by
            cases z : H p with
            | none => rfl
            | some o => rw [h4 p o (s1 p o z) na] at hp; cases hp
          refine k _ pc2 p os2 (h2.keep (same_new hp)) (.inr (s1.free h3)) (fun x hx => (ho x hx).elim (fun z => .inr (.inl (by rw [z]; exact List.mem_singleton_self _))) fun z => .inr (.inr (s1.free z))) (fun b o e nb _ => same_new hp b o (h4 b o (s1 b o e) nb)) hp0 upd_same
        · refine if_true_of (by rw [decide_eq_false c3]; rfl) ?_
          exact ⟨_, rfl, (by show 1 ≤ sizeLine; decide), fun p hp => no (begins_foot c3) H1 s1 p hp⟩
      · refine if_true_of (by rw [decide_eq_false c2]; rfl) ?_
        refine if_true_of rfl ?_
        exact ⟨_, rfl, (by show 1 ≤ sizeLine; decide), fun p hp => no (begins_places (by omega)) H (Same.refl H) p hp⟩
    · refine if_false_of (decide_eq_false c1) ⟨_, rfl, ?_⟩
      refine if_true_of rfl ?_
      refine if_true_of rfl ?_
      exact ⟨_, rfl, (by show 1 ≤ sizeLine; decide), fun p hp => no (begins_places (by omega)) H (Same.refl H) p hp⟩
end
end Cam
set_option Elab.async false
set_option maxRecDepth 100000
set_option maxHeartbeats 2000000
namespace Cam
open PySem PySem.Spec PyProof.Rows L2
open Uw44 (Show)
theorem ref_at {rs : List Addr} {i : Nat} {r : Addr} (h : rs[i]? = some r) : (rs.map V.ref)[i]? = some (V.ref r) := by
  rw [List.getElem?_map, h]
  rfl
theorem max_nat {l : List Nat} {m : Int} (hm : m ∈ l.map (fun (n : Nat) => (n : Int))) (h : ∀ y ∈ l.map (fun (n : Nat) => (n : Int)), y ≤ m) : m = ((l.foldl max 0 : Nat) : Int) := by
  obtain ⟨n, hn, rfl⟩ := List.mem_map.mp hm
  rw [max_is hn fun x hx => by
    have := h (x : Int) (List.mem_map.mpr ⟨x, hx, rfl⟩)
    omega]
section
variable {P : Program} {w : World} {K : PySem.W.Frag} {mg : Str → Option Value} {base : Heap} {C : Addr}
theorem scCam : FnScope ["self", "radii"] ["self", "radii"] (defScope sCam) := ⟨rfl, rfl, rfl, by decide +kernel, rfl, by decide +kernel, by decide +kernel⟩
theorem ok_cam {f fI : Addr} {fd fdI : FuncData} (F : Fun K "cam" "Show.cam" sCam f fd) (T : TxtS K mg C) (G : TxtG mg) (GI : FnOk P w K mg base CX0 2 fI fdI ["numbers", "length", "greatest"] (spFits K)) (bI : Binds K fdI ["numbers", "length", "greatest"] []) (gI : mg "fits" = some (.ref fI)) (kI : PySem.W.keepIn K (.ref fI) = true) :
    FnOk P w K mg base CX0 3 f fd ["self", "radii"] (spCam C) := by
  obtain ⟨tr, gr⟩ := T.radius
  obtain ⟨tm, gm⟩ := T.cams
  refine F.ok scCam (fun vs H Q E h => ?_) (fun cdv A outer s H vs Q E hr h => ?_)
  · obtain ⟨a, pc, q, os, s, r, rfl, _⟩ := h
    rfl
  · obtain ⟨a, pc, q, os, s, r, rfl, hS, fs, hq, nq, hl, k⟩ := h
    refine ⟨_, pss_cons (ps_if (pt_not (pt_val (pe_call GI hr rfl gI kI bI .nil pass0 (pa_cons (pv 1) (pa_cons (pe_fld (pv 0) rfl) (pa_cons (pe_glob rfl gr rel_int) pa_nil))))))
        (pss_one (ps_ret (pe_lst (pa_cons (pe_un un_neg pe_int) pa_nil)))) pss_nil)
      (pss_cons (ps_if (pt_cmpR op_eq (pe_callB call_len_seq (by rfl) G.len PySem.boot_len (pa_cons (pe_fld (pv 0) rfl) pa_nil)) (pe_glob rfl gm rel_int) (nomark _))
        (pss_one (ps_ret (pe_lst (pa_cons (pe_un un_neg pe_int) pa_nil)))) pss_nil)
      (pss_cons (ps_expr (pe_bm PySem.F.plainAttrs_list PySem.F.slot_list_append PySem.F.type_list_append mt_append (pe_fld (pv 0) rfl) (pa_cons (pv 1) pa_nil)))
      (pss_one (ps_ret (pe_lst (pa_cons (pe_op op_sub (pe_callB call_len_seq (by rfl) G.len PySem.boot_len (pa_cons (pe_fld (pv 0) rfl) pa_nil)) pe_int) pa_nil)))))), ?_⟩
    obtain ⟨dx, pf, pw, rs, h0, h1, h2, h3, h4, h5, n1, n2, n3⟩ := id hS
    have na : q ≠ a := fun z => by rw [z, h1] at hq; cases hq
    have nca : pc ≠ a := fun z => by rw [z, h1] at h4; cases h4
    refine ⟨_, rfl, _, rfl, a, C, dx, _, _, rfl, h1, T.cl, T.nP, sF_places, ?_⟩
    refine ⟨q, r, s.box.places, 100, rfl, SqL.of hq, hl, fun H1 s1 => ⟨_, rfl, ?_⟩⟩
    cases c : fits r s.box.places 100 with
    | false =>
      refine if_true_of rfl ⟨_, rfl, (by show 1 ≤ sizeLine; decide), fun p hp => ?_⟩
      rw [cam_no c] at k
      exact k.give hS s1 hp
    | true =>
      refine if_false_of rfl ?_
      refine ⟨_, rfl, a, C, dx, _, _, rfl, s1 _ _ h1, T.cl, T.nC, sF_cams, pc, _, rfl, .inl (SqL.of (s1 _ _ h4)), rfl, _, rfl, ?_⟩
      have el : (rs.map V.ref).length = s.box.cams.length := by rw [List.length_map, h5.len]
      rw [el]
      by_cases c4 : s.box.cams.length = 4
      · refine if_true_of (decide_eq_true (by rw [c4]; rfl)) ⟨_, rfl, (by show 1 ≤ sizeLine; decide), fun p hp => ?_⟩
        rw [cam_full c (by omega)] at k
        exact k.give hS s1 hp
      · refine if_false_of (decide_eq_false fun z => c4 (by injection z with z; omega)) ?_
        have := fs.c4
        refine ⟨_, rfl, a, C, dx, _, _, rfl, s1 _ _ h1, T.cl, T.nC, sF_cams, .inl ⟨rfl, _, SqL.of (s1 _ _ h4)⟩, _, rfl, pc, _, _, rfl, rfl, s1 _ _ h4, ?_, ?_⟩
        · rw [el]
          exact small12 (by omega)
        refine ⟨_, rfl, a, C, dx, _, _, rfl, (upd_ne (Ne.symm nca)).trans (s1 _ _ h1), T.cl, T.nC, sF_cams, ?_⟩
        refine ⟨pc, _, rfl, .inl (SqL.of upd_same), _, _, rfl, rfl, (by show 1 ≤ sizeLine; decide), fun p hp => ?_⟩
        have np : p ≠ pc := fun z => by rw [z, upd_same] at hp; cases hp
        have hp0 : H p = none := s1.free (by rw [upd_ne np] at hp; exact hp)
        rw [cam_yes c (by omega)] at k
        have keep : ∀ b o, H b = some o → b ≠ pc → upd (upd H1 pc (.lst (rs.map V.ref ++ [.ref q]))) p (.lst [.int (((rs.map V.ref ++ [V.ref q]).length : Int) - 1)]) b = some o := fun b o e nb => by
          rw [upd_ne (ne_of_none e hp0), upd_ne nb]
          exact s1 b o e
        refine k _ pc p (pf :: pw :: (rs ++ [q])) ⟨dx, pf, pw, rs ++ [q], rfl, keep _ _ h1 (Ne.symm nca), keep _ _ h2 (Ne.symm n1), keep _ _ h3 (Ne.symm n2), ?_, ⟨?_, ?_⟩, n1, n2, ?_⟩ (.inl rfl) ?_ (fun b o e _ nb => keep b o e nb) hp0 ?_
        · rw [upd_ne (Ne.symm np), upd_same, List.map_append]
          rfl
        · show (rs ++ [q]).length = (s.box.cams ++ [r]).length
          rw [List.length_append, List.length_append, h5.len]
          rfl
        · intro i l e
          have e' : (s.box.cams ++ [r])[i]? = some l := e
          by_cases ci : i < s.box.cams.length
          · rw [List.getElem?_append_left ci] at e'
            obtain ⟨x, g1, g2⟩ := h5.row i l e'
            refine ⟨x, ?_, keep _ _ g2 fun z => n3 (z ▸ List.mem_of_getElem? g1)⟩
            rw [List.getElem?_append_left (by rw [h5.len]; exact ci)]
            exact g1
          · rw [List.getElem?_append_right (by omega)] at e'
            have ei : i - s.box.cams.length = 0 := by
              have := (List.getElem?_eq_some_iff.mp e').1
              have z : [r].length = 1 := rfl
              omega
            rw [ei] at e'
            cases e'
            refine ⟨q, ?_, keep _ _ hq nq⟩
            rw [List.getElem?_append_right (by rw [h5.len]; omega), h5.len, ei]
            rfl
        · intro z
          rcases List.mem_append.mp z with z | z
          · exact n3 z
          · exact nq (List.mem_singleton.mp z).symm
        · intro x hx
          rcases List.mem_cons.mp hx with z | hx
          · exact .inl (by rw [h0, z]; exact List.mem_cons_self)
          rcases List.mem_cons.mp hx with z | hx
          · exact .inl (by rw [h0, z]; exact List.mem_cons_of_mem _ List.mem_cons_self)
          rcases List.mem_append.mp hx with z | z
          · exact .inl (by rw [h0]; exact List.mem_cons_of_mem _ (List.mem_cons_of_mem _ z))
          · exact .inr (.inl z)
        · rw [upd_same]
          have e : (((rs.map V.ref ++ [V.ref q]).length : Int) - 1) = ((s.box.cams.length : Nat) : Int) := by
            rw [List.length_append, el]
            show (((s.box.cams.length + 1 : Nat) : Int) - 1) = _
            omega
          exact congrArg (fun z => some (HO.lst [V.int z])) e
theorem scWish : FnScope ["self", "heights"] ["self", "heights"] (defScope sWish) := ⟨rfl, rfl, rfl, by decide +kernel, rfl, by decide +kernel, by decide +kernel⟩
theorem ok_wish {f fI : Addr} {fd fdI : FuncData} (F : Fun K "wish" "Show.wish" sWish f fd) (T : TxtS K mg C) (GI : FnOk P w K mg base CX0 2 fI fdI ["numbers", "length", "greatest"] (spFits K)) (bI : Binds K fdI ["numbers", "length", "greatest"] []) (gI : mg "fits" = some (.ref fI)) (kI : PySem.W.keepIn K (.ref fI) = true) :
    FnOk P w K mg base CX0 3 f fd ["self", "heights"] (spWish C) := by
  obtain ⟨tr, gr⟩ := T.height
  refine F.ok scWish (fun vs H Q E h => ?_) (fun cdv A outer s H vs Q E hr h => ?_)
  · obtain ⟨a, pc, q, os, s, r, rfl, _⟩ := h
    rfl
  · obtain ⟨a, pc, q, os, s, r, rfl, hS, hq, nq, hl, k⟩ := h
    refine ⟨_, pss_cons (ps_if (pt_not (pt_val (pe_call GI hr rfl gI kI bI .nil pass0 (pa_cons (pv 1) (pa_cons (pe_fld (pv 0) rfl) (pa_cons (pe_glob rfl gr rel_int) pa_nil))))))
        (pss_one (ps_ret (pe_lst (pa_cons (pe_un un_neg pe_int) pa_nil)))) pss_nil)
      (pss_cons (ps_fld (pv 0) (pv 1) rfl)
      (pss_one (ps_ret (pe_lst (pa_cons pe_int pa_nil))))), ?_⟩
    obtain ⟨dx, pf, pw, rs, h0, h1, h2, h3, h4, h5, n1, n2, n3⟩ := id hS
    have na : q ≠ a := fun z => by rw [z, h1] at hq; cases hq
    refine ⟨_, rfl, _, rfl, a, C, dx, _, _, rfl, h1, T.cl, T.nP, sF_places, ?_⟩
    refine ⟨q, r, s.box.places, 400, rfl, SqL.of hq, hl, fun H1 s1 => ⟨_, rfl, ?_⟩⟩
    cases c : fits r s.box.places 400 with
    | false =>
      refine if_true_of rfl ⟨_, rfl, (by show 1 ≤ sizeLine; decide), fun p hp => ?_⟩
      rw [wish_no c] at k
      exact k.give hS s1 hp
    | true =>
      refine if_false_of rfl ?_
      refine ⟨_, rfl, _, rfl, a, C, dx, _, rfl, s1 _ _ h1, T.cl, T.nW, (by show 4 < 1000; decide), (by show 1 ≤ sizeLine; decide), fun p hp => ?_⟩
      rw [wish_yes c] at k
      have np : p ≠ a := fun z => by rw [z, upd_same] at hp; cases hp
      have hp0 : H p = none := s1.free (by rw [upd_ne np] at hp; exact hp)
      have keep : ∀ b o, H b = some o → b ≠ a → upd (upd H1 a (.ins C dx (putF "wished" (.ref q) (sF (.int (s.box.places : Int)) (.ref pf) (.ref pc) (.ref pw))))) p (.lst [.int 0]) b = some o := fun b o e nb => by
        rw [upd_ne (ne_of_none e hp0), upd_ne nb]
        exact s1 b o e
      refine k _ pc p (pf :: q :: rs) ⟨dx, pf, q, rs, rfl, ?_, keep _ _ h2 (ne_of h2 h1 (by intro z; cases z)), keep _ _ hq na, keep _ _ h4 (ne_of h4 h1 (by intro z; cases z)), ⟨h5.len, fun i l e => ?_⟩, n1, Ne.symm nq, n3⟩ (.inl rfl) ?_ (fun b o e nb _ => keep b o e nb) hp0 upd_same
      · rw [upd_ne (Ne.symm np), upd_same, sF_putWished]
      · obtain ⟨x, g1, g2⟩ := h5.row i l e
        exact ⟨x, g1, keep _ _ g2 (ne_of g2 h1 (by intro z; cases z))⟩
      · intro x hx
        rcases List.mem_cons.mp hx with z | hx
        · exact .inl (by rw [h0, z]; exact List.mem_cons_self)
        rcases List.mem_cons.mp hx with z | hx
        · exact .inr (.inl (by rw [z]; exact List.mem_singleton_self _))
        exact .inl (by rw [h0]; exact List.mem_cons_of_mem _ (List.mem_cons_of_mem _ hx))
end
end Cam
set_option Elab.async false
set_option maxRecDepth 100000
set_option maxHeartbeats 2000000
namespace Cam
open PySem PySem.Spec PyProof.Rows L2
open Uw44 (Show)
def spReaches (C : Addr) : Sp := fun vs H Q _ => ∃ (a pc : Addr) (os : List Addr) (s : Show), vs = [.ref a] ∧ ShowAt C H a pc os s ∧ Fine s ∧
  ∀ (H' : Hp) (p : Addr), Same H H' → ReachesAt s.box.places s.foot (frs H H') p → Q (.ref p) H'
def spMotions (C : Addr) : Sp := fun vs H Q _ => ∃ (a pc : Addr) (os : List Addr) (s : Show), vs = [.ref a] ∧ ShowAt C H a pc os s ∧ Fine s ∧
  ∀ (H' : Hp) (p : Addr), Same H H' → ListOf RowAt (frs H H') p s.moving.cams → Q (.ref p) H'
def spSum (C : Addr) : Sp := fun vs H Q _ => ∃ (a pc q : Addr) (os : List Addr) (s : Show) (p : List Nat), vs = [.ref a, .ref q] ∧ ShowAt C H a pc os s ∧ Fine s ∧ H q = some (.lst (vn p)) ∧ p.length ≤ 12 ∧
  After C a pc os [] H (Uw44.step s (.sum p)).1 (outs (Uw44.step s (.sum p)).2) Q
theorem moving_at {s : Show} {i : Nat} {l : List Nat} (h : s.box.cams[i]? = some l) : s.moving.cams[i]? = some (Uw41.motion s.foot l) := by
  show (s.box.cams.map fun r => Uw41.motion s.foot r)[i]? = _
  rw [List.getElem?_map, h]
  rfl
section
variable {P : Program} {w : World} {K : PySem.W.Frag} {mg : Str → Option Value} {base : Heap} {C : Addr}
theorem scReaches : FnScope ["self", "place"] ["self"] (defScope sReaches) := ⟨rfl, rfl, rfl, by decide +kernel, rfl, by decide +kernel, by decide +kernel⟩
theorem ok_reaches {f fN : Addr} {fd fdN : FuncData} (F : Fun K "reaches" "Show.reaches" sReaches f fd) (T : TxtS K mg C) (G : TxtG mg) (FN : Fun K "reach_from" "reach_from" sReach fN fdN) (bN : Binds K fdN ["place", "places", "foot"] []) (gN : mg "reach_from" = some (.ref fN)) :
    FnOk P w K mg base CX0 2 f fd ["self"] (spReaches C) := by
  have GN : ∀ base : Heap, FnOk P w K mg base CX0 1 fN fdN ["place", "places", "foot"] (spReach K) := fun base => ok_reach FN G
  refine F.ok scReaches (fun vs H Q E h => ?_) (fun cdv A outer s H vs Q E hr h => ?_)
  · obtain ⟨a, pc, os, s, rfl, _⟩ := h
    rfl
  · obtain ⟨a, pc, os, s, rfl, hS, fs, k⟩ := h
    refine ⟨_, pss_one (ps_ret (pe_lc (own := [("place", 1)]) (g := gName 1) (tt := tYes) (te := tCall (spReach K) [] E0 (tCons (tVar 1) (tCons (tFld K (tVar 0) "places") (tCons (tFld K (tVar 0) "foot") tNil)))) rfl scReaches.nd (pi_range1 (by rfl) G.range (pa_cons (pe_fld (pv 0) rfl) pa_nil)) (blkOk_by (N := ["self", "place"]) (sc := defScope sReaches) (by decide +kernel))
        (fun _ _ _ _ _ => pg_name (i := 1) scReaches.nd rfl (Or.inl rfl)) (fun _ _ _ _ _ => pts_nil) (fun _ _ _ _ _ => pe_call (GN _) hr rfl gN FN.kp bN .nil pass0 (pa_cons (pv 1) (pa_cons (pe_fld (pv 0) rfl) (pa_cons (pe_fld (pv 0) rfl) pa_nil)))))), ?_⟩
    obtain ⟨dx, pf, pw, rs, h0, h1, h2, h3, h4, h5, n1, n2, n3⟩ := id hS
    have p2 := fs.p2
    have p8 := fs.p8
    refine ⟨_, rfl, a, C, dx, _, _, rfl, h1, T.cl, T.nP, sF_places, _, rfl, by omega, by omega, fun D hD => lc_range (lo := 0) (n := s.box.places) (fun i H' => Same H H' ∧ Acc (ReachAt s.box.places s.foot) (fun b => H b = none) H' D (List.range i)) ⟨same_new hD, Acc.start upd_same⟩ ?_ ?_⟩
    · rintro i H' hi ⟨s1, hA⟩
      refine ⟨rfl, lc_yes ?_⟩
      refine ⟨_, rfl, _, rfl, a, C, dx, _, _, rfl, s1 _ _ h1, T.cl, T.nP, sF_places, _, rfl, a, C, dx, _, _, rfl, s1 _ _ h1, T.cl, T.nF, sF_foot, ?_⟩
      refine ⟨pf, i, s.box.places, s.foot, ?_, SqL.of (s1 _ _ h2), by omega, fs.f4, fun H2 p s2 hR => ?_⟩
      · show [V.int (0 + (i : Int)), _, _] = _
        rw [Int.zero_add]
      · obtain ⟨_, hA1, _⟩ := id hA
        obtain ⟨acc, c1, c2, c3⟩ := (hA.keep ReachAt.mono s2).push ReachAt.mono (t := p) (x := i) (ReachAt.mono _ _ _ _ (made_in (fun b hb => s1.free hb) hA1) hR)
        refine ⟨acc, c1, ?_, same_upd (s1.trans s2) hD, ?_⟩
        · rw [c2, List.length_range]
          exact small12 (by omega)
        · rw [List.range_succ]
          exact c3
    · rintro H' ⟨s1, hA⟩
      exact k H' D s1 (hA.done ReachAt.mono hD)
theorem scMotions : FnScope ["self", "reaches", "radii"] ["self"] (defScope sMotions) := ⟨rfl, rfl, rfl, by decide +kernel, rfl, by decide +kernel, by decide +kernel⟩
theorem ok_motions {f fR fN : Addr} {fd fdR fdN : FuncData} (F : Fun K "motions" "Show.motions" sMotions f fd) (T : TxtS K mg C)
    (GR : FnOk P w K mg base CX0 2 fR fdR ["self"] (spReaches C)) (bR : Binds K fdR ["self"] []) (mR : Meth K C "reaches" fR)
    (GN : ∀ base : Heap, FnOk P w K mg base CX0 2 fN fdN ["radii", "reaches"] (spMotion K)) (bN : Binds K fdN ["radii", "reaches"] []) (gN : mg "motion_of" = some (.ref fN)) (kN : PySem.W.keepIn K (.ref fN) = true) :
    FnOk P w K mg base CX0 3 f fd ["self"] (spMotions C) := by
  refine F.ok scMotions (fun vs H Q E h => ?_) (fun cdv A outer s H vs Q E hr h => ?_)
  · obtain ⟨a, pc, os, s, rfl, _⟩ := h
    rfl
  · obtain ⟨a, pc, os, s, rfl, hS, fs, k⟩ := h
    refine ⟨_, pss_cons (ps_set (i := 1) scMotions.nd rfl (Or.inr rfl) (pe_meth0 (pv 0) T.cl mR GR hr bR .nil pass0))
      (pss_one (ps_ret (pe_lc (own := [("radii", 2)]) (g := gName 2) (tt := tYes) rfl scMotions.nd (pi_list (pe_fld (pv 0) rfl)) (blkOk_by (N := ["self", "reaches", "radii"]) (sc := defScope sMotions) (by decide +kernel))
        (fun _ _ _ _ _ => pg_name (i := 2) scMotions.nd rfl (Or.inl rfl)) (fun _ _ _ _ _ => pts_nil) (fun _ _ _ _ _ => pe_call (GN _) hr rfl gN kN bN .nil pass0 (pa_cons (pv 2) (pa_cons (pv 1) pa_nil)))))), ?_⟩
    obtain ⟨dx, pf, pw, rs, h0, h1, h2, h3, h4, h5, n1, n2, n3⟩ := id hS
    have p2 := fs.p2
    have p8 := fs.p8
    have c4 := fs.c4
    refine ⟨_, rfl, a, dx, _, rfl, h1, sF_no (by decide +kernel) (by decide +kernel) (by decide +kernel) (by decide +kernel), ?_⟩
    refine ⟨a, pc, os, s, rfl, hS, fs, fun H1 p1 s1 hR => ?_⟩
    have hR1 : ReachesAt s.box.places s.foot H1 p1 := ListOf.mono ReachAt.mono _ _ _ _ (frs_same _ _) hR
    have el : (rs.map V.ref).length = s.moving.cams.length := by rw [List.length_map, h5.len, moving_len]
    refine ⟨_, rfl, a, C, dx, _, _, rfl, s1 _ _ h1, T.cl, T.nC, sF_cams, pc, rfl, ⟨_, SqL.of (s1 _ _ h4)⟩, fun D hD => lc_list (K := K) (a := pc) (xs := rs.map V.ref) (fun i H' => Same H1 H' ∧ Acc RowAt (fun b => H b = none) H' D (s.moving.cams.take i)) ⟨same_new hD, Acc.start upd_same⟩ (fun i H' _ ⟨s2, _⟩ => SqL.of (s2 _ _ (s1 _ _ h4))) ?_ ?_⟩
    · rintro i x H2 hx ⟨s2, hA⟩
      obtain ⟨r, hr', rfl⟩ := ref_get hx
      have hi : i < s.box.cams.length := by rw [← h5.len]; exact get_lt hr'
      have hci : s.box.cams[i]? = some s.box.cams[i] := List.getElem?_eq_getElem hi
      obtain ⟨r2, e2, hrow⟩ := h5.row i s.box.cams[i] hci
      rw [hr'] at e2
      cases e2
      obtain ⟨ll, l100⟩ := fs.cl _ (List.getElem_mem hi)
      generalize s.box.cams[i] = l at *
      refine ⟨rfl, lc_yes ?_⟩
      refine ⟨_, rfl, _, rfl, r, p1, s.box.places, l, s.foot, rfl, SqL.of (s2 _ _ (s1 _ _ hrow)), ListOf.mono ReachAt.mono _ _ _ _ s2 hR1, ll, by omega, p8, fs.f4, fs.f0, fun H3 p s3 hp h3 => ?_⟩
      obtain ⟨_, hA1, _⟩ := id hA
      have npD : p ≠ D := fun z => by rw [z, hA1] at hp; cases hp
      obtain ⟨acc, c1, c2, c3⟩ := (hA.keep RowAt.mono s3).push RowAt.mono (t := p) (x := Uw41.motion s.foot l) (only_some.mpr ⟨⟨s1.free (s2.free hp), npD⟩, h3⟩)
      refine ⟨acc, c1, ?_, same_upd (s2.trans s3) hD, ?_⟩
      · rw [c2, List.length_take, moving_len]
        exact small12 (by omega)
      · rw [take_more (moving_at hci)]
        exact c3
    · rintro H2 ⟨s2, hA⟩
      rw [el, List.take_length] at hA
      exact k H2 D (s1.trans s2) (hA.done RowAt.mono (s1.free hD))
theorem scMoves : FnScope ["self", "cam", "motion"] ["self", "cam"] (defScope sMoves) := ⟨rfl, rfl, rfl, by decide +kernel, rfl, by decide +kernel, by decide +kernel⟩
theorem ok_moves {f fI fR : Addr} {fd fdI fdR : FuncData} (F : Fun K "moves" "Show.moves" sMoves f fd) (T : TxtS K mg C) (G : TxtG mg)
    (GR : FnOk P w K mg base CX0 2 fR fdR ["self"] (spReaches C)) (bR : Binds K fdR ["self"] []) (mR : Meth K C "reaches" fR)
    (GI : FnOk P w K mg base CX0 2 fI fdI ["radii", "reaches"] (spMotion K)) (bI : Binds K fdI ["radii", "reaches"] []) (gI : mg "motion_of" = some (.ref fI)) (kI : PySem.W.keepIn K (.ref fI) = true) :
    FnOk P w K mg base CX0 3 f fd ["self", "cam"] (spMoves C) := by
  refine F.ok scMoves (fun vs H Q E h => ?_) (fun cdv A outer s H vs Q E hr h => ?_)
  · obtain ⟨a, pc, os, s, i, rfl, _⟩ := h
    rfl
  · obtain ⟨a, pc, os, s, i, rfl, hS, fs, k⟩ := h
    refine ⟨_, pss_cons (ps_if (pt_cmpR op_ge (pv 1) (pe_callB call_len_seq (by rfl) G.len PySem.boot_len (pa_cons (pe_fld (pv 0) rfl) pa_nil)) (nomark _))
        (pss_one (ps_ret (pe_lst (pa_cons (pe_un un_neg pe_int) pa_nil)))) pss_nil)
      (pss_cons (ps_set (i := 2) scMoves.nd rfl (Or.inl rfl) (pe_call GI hr rfl gI kI bI .nil pass0 (pa_cons (pe_ix ix_list (pe_fld (pv 0) rfl) (pv 1) (fun _ _ => rfl)) (pa_cons (pe_meth0 (pv 0) T.cl mR GR hr bR .nil pass0) pa_nil))))
      (pss_one (ps_ret (pe_op op_cat (pe_lst (pa_cons (pe_callB (cr_max rfl) (by rfl) G.max (by decide +kernel) (pa_cons (pv 2) pa_nil)) pa_nil)) (pv 2))))), ?_⟩
    obtain ⟨dx, pf, pw, rs, h0, h1, h2, h3, h4, h5, n1, n2, n3⟩ := id hS
    have el : (rs.map V.ref).length = s.box.cams.length := by rw [List.length_map, h5.len]
    refine ⟨_, rfl, _, rfl, a, C, dx, _, _, rfl, h1, T.cl, T.nC, sF_cams, pc, _, rfl, .inl (SqL.of h4), _, _, rfl, rfl, _, rfl, ?_⟩
    rw [el]
    by_cases c : s.box.cams.length ≤ i
    · refine if_true_of (decide_eq_true (by omega)) ⟨_, rfl, (by show 1 ≤ sizeLine; decide), fun p hp => ?_⟩
      rw [moves_no c] at k
      exact k.give hS (Same.refl H) hp
    · refine if_false_of (decide_eq_false (by omega)) ?_
      obtain ⟨r, er⟩ : ∃ r, s.box.cams[i]? = some r := ⟨_, List.getElem?_eq_getElem (by omega)⟩
      obtain ⟨x, g1, g2⟩ := h5.row i r er
      obtain ⟨lr, hr100⟩ := fs.cl r (List.mem_of_getElem? er)
      have p2 := fs.p2
      have p8 := fs.p8
      refine ⟨_, rfl, a, C, dx, _, _, rfl, h1, T.cl, T.nC, sF_cams, _, rfl, pc, _, i, .ref x, rfl, rfl, SqL.of h4, atI_nat (ref_at g1), ?_⟩
      refine ⟨_, rfl, a, dx, _, rfl, h1, sF_no (by decide +kernel) (by decide +kernel) (by decide +kernel) (by decide +kernel), ?_⟩
      refine ⟨a, pc, os, s, rfl, hS, fs, fun H0 p0 s0 hR => ?_⟩
      have hR0 : ReachesAt s.box.places s.foot H0 p0 := ListOf.mono ReachAt.mono _ _ _ _ (frs_same _ _) hR
      refine ⟨x, p0, s.box.places, r, s.foot, rfl, SqL.of (s0 _ _ g2), hR0, lr, by omega, p8, fs.f4, fs.f0, fun H1 m s01 hm0 hm => ?_⟩
      have s1 := s0.trans s01
      rw [moves_yes er] at k
      have ml := motion_length s.foot r
      refine ⟨_, rfl, m, zs (Uw41.motion s.foot r), rfl, SqL.of (by rw [hm, vn_vz]), (by rw [List.length_map, ml]; omega), fun y hy hall => ?_⟩
      have ey := max_nat hy hall
      refine ⟨(by show 1 ≤ sizeLine; decide), fun p hp => ?_⟩
      have np : m ≠ p := fun z => by rw [z, hp] at hm; cases hm
      refine ⟨_, rfl, p, m, _, _, rfl, rfl, upd_same, (by rw [upd_ne np]; exact hm), ?_, fun p2 hp2 => ?_⟩
      · show 1 + (vn _).length ≤ sizeLine
        rw [List.length_map, ml]
        exact Nat.le_of_lt (small12 (by omega))
      · have s2 : Same H (upd H1 p (.lst [.int y])) := same_upd s1 (s1.free hp)
        have := k.give hS s2 hp2
        rw [ey]
        rw [ey] at this
        have eo : vz (outs ⟨((Uw41.motion s.foot r).foldl max 0 : Nat), Uw41.motion s.foot r⟩) = [V.int ((Uw41.motion s.foot r).foldl max 0 : Nat)] ++ vn (Uw41.motion s.foot r) := by
          rw [vn_vz]
          rfl
        rw [eo] at this
        exact this
end
end Cam
set_option Elab.async false
set_option maxRecDepth 100000
set_option maxHeartbeats 2000000
namespace Cam
open PySem PySem.Spec PyProof.Rows L2
open Uw44 (Show)
theorem lever_step {n i k : Nat} {ms : List (List Nat)} {m p : List Nat} (hm : ms[i]? = some m) (hp : p[i]? = some k) : lever n (ms.take (i + 1)) (p.take (i + 1)) = Uw42.add (lever n (ms.take i) (p.take i)) (share n k m) := by
  rw [take_more hm, take_more hp, lever_snoc]
  have := get_lt hm
  have := get_lt hp
  rw [List.length_take, List.length_take]
  omega
section
variable {P : Program} {w : World} {K : PySem.W.Frag} {mg : Str → Option Value} {base : Heap} {C : Addr}
theorem scSum : FnScope ["self", "plan", "lever", "motion", "turn", "off"] ["self", "plan"] (defScope sSum) := ⟨rfl, rfl, rfl, by decide +kernel, rfl, by decide +kernel, by decide +kernel⟩
theorem ok_sum {f fI fM fS fT fO : Addr} {fd fdI fdM fdS fdT fdO : FuncData} (F : Fun K "sum_by" "Show.sum_by" sSum f fd) (T : TxtS K mg C) (G : TxtG mg)
    (GI : FnOk P w K mg base CX0 2 fI fdI ["numbers", "length", "greatest"] (spFits K)) (bI : Binds K fdI ["numbers", "length", "greatest"] []) (gI : mg "fits" = some (.ref fI)) (kI : PySem.W.keepIn K (.ref fI) = true)
    (GM : FnOk P w K mg base CX0 3 fM fdM ["self"] (spMotions C)) (bM : Binds K fdM ["self"] []) (mM : Meth K C "motions" fM)
    (FS : Fun K "share_of" "share_of" sShare fS fdS) (bS : Binds K fdS ["motion", "turn"] []) (gS : mg "share_of" = some (.ref fS))
    (FT : Fun K "together" "together" sTogether fT fdT) (bT : Binds K fdT ["lever", "share"] []) (gT : mg "together" = some (.ref fT))
    (FO : Fun K "off_by_place" "off_by_place" sOff fO fdO) (bO : Binds K fdO ["lever", "wished"] []) (gO : mg "off_by_place" = some (.ref fO)) :
    FnOk P w K mg base CX0 4 f fd ["self", "plan"] (spSum C) := by
  have GS : FnOk P w K mg base CX0 1 fS fdS ["motion", "turn"] (spShare K) := ok_share FS G
  have GT : FnOk P w K mg base CX0 1 fT fdT ["lever", "share"] (spTogether K) := ok_together FT G
  have GO : FnOk P w K mg base CX0 1 fO fdO ["lever", "wished"] (spOff K) := ok_off FO G
  refine F.ok scSum (fun vs H Q E h => ?_) (fun cdv A outer s H vs Q E hr h => ?_)
  · obtain ⟨a, pc, q, os, s, p, rfl, _⟩ := h
    rfl
  · obtain ⟨a, pc, q, os, s, p, rfl, hS, fs, hq, hl, k⟩ := h
    refine ⟨_, pss_cons (ps_if (pt_not (pt_val (pe_call GI (hr.mono (by decide)) rfl gI kI bI .nil pass0 (pa_cons (pv 1) (pa_cons (pe_callB call_len_seq (by rfl) G.len PySem.boot_len (pa_cons (pe_fld (pv 0) rfl) pa_nil)) (pa_cons (pe_fld (pv 0) rfl) pa_nil))))))
        (pss_one (ps_ret (pe_lst (pa_cons (pe_un un_neg pe_int) pa_nil)))) pss_nil)
      (pss_cons (ps_set (i := 2) scSum.nd rfl (Or.inl rfl) (pe_op op_rep (pe_lst (pa_cons pe_int pa_nil)) (pe_fld (pv 0) rfl)))
      (pss_cons (ps_for PassesOwn.never rfl (pi_zip (by rfl) G.zip (pa_cons (pe_meth0 (pv 0) T.cl mM GM hr bM .nil pass0) (pa_cons (pv 1) pa_nil))) (pg_tup rfl (pgs_cons (pg_name (i := 3) scSum.nd rfl (Or.inl rfl)) (pgs_cons (pg_name (i := 4) scSum.nd rfl (Or.inl rfl)) pgs_nil)))
        (pss_one (ps_set (i := 2) scSum.nd rfl (Or.inl rfl) (pe_call GT (hr.mono (by decide)) rfl gT FT.kp bT .nil pass0 (pa_cons (pv 2) (pa_cons (pe_call GS (hr.mono (by decide)) rfl gS FS.kp bS .nil pass0 (pa_cons (pv 3) (pa_cons (pv 4) pa_nil))) pa_nil))))))
      (pss_cons (ps_set (i := 5) scSum.nd rfl (Or.inl rfl) (pe_call GO (hr.mono (by decide)) rfl gO FO.kp bO .nil pass0 (pa_cons (pv 2) (pa_cons (pe_fld (pv 0) rfl) pa_nil))))
      (pss_one (ps_ret (pe_op op_cat (pe_lst (pa_cons (pe_callB (cr_sum rfl) (by rfl) G.sum (by decide +kernel) (pa_cons (pv 5) pa_nil)) (pa_cons (pe_callB (cr_max rfl) (by rfl) G.max (by decide +kernel) (pa_cons (pv 5) pa_nil)) pa_nil))) (pv 2))))))), ?_⟩
    obtain ⟨dx, pf, pw, rs, h0, h1, h2, h3, h4, h5, n1, n2, n3⟩ := id hS
    have el : (rs.map V.ref).length = s.box.cams.length := by rw [List.length_map, h5.len]
    have p2 := fs.p2
    have p8 := fs.p8
    have c4 := fs.c4
    refine ⟨_, rfl, _, rfl, a, C, dx, _, _, rfl, h1, T.cl, T.nC, sF_cams, pc, _, rfl, .inl (SqL.of h4), ?_⟩
    refine ⟨_, rfl, a, C, dx, _, _, rfl, h1, T.cl, T.nP, sF_places, ?_⟩
    refine ⟨q, p, s.box.cams.length, s.box.places, by rw [el]; rfl, SqL.of hq, hl, fun H1 s1 => ⟨_, rfl, ?_⟩⟩
    cases c : fits p s.box.cams.length s.box.places with
    | false =>
      refine if_true_of rfl ⟨_, rfl, (by show 1 ≤ sizeLine; decide), fun p hp => ?_⟩
      rw [sum_no c] at k
      exact k.give hS s1 hp
    | true =>
      refine if_false_of rfl ?_
      obtain ⟨cl, ch⟩ := fits_iff.mp c
      rw [sum_yes fs c] at k
      -- lever = [0] * places
      refine ⟨(by show 1 ≤ sizeLine; decide), fun pz hpz => ?_⟩
      have s2 := same_upd (o := .lst [.int 0]) s1 (s1.free hpz)
      refine ⟨_, rfl, a, C, dx, _, _, rfl, s2 _ _ h1, T.cl, T.nP, sF_places, pz, (s.box.places : Int), [.int 0], rfl, rfl, upd_same, by omega, by omega, ?_, fun pl hpl => ?_⟩
      · show 1 * (Int.toNat (s.box.places : Int)) ≤ sizeLine
        rw [Nat.one_mul, Int.toNat_natCast]
        exact Nat.le_of_lt (small12 (by omega))
      have s3 := same_upd (o := .lst (List.replicate (Int.toNat (s.box.places : Int)) [V.int 0]).flatten) s2 (s2.free hpl)
      have hpl3 : upd (upd H1 pz (.lst [.int 0])) pl (.lst (List.replicate (Int.toNat (s.box.places : Int)) [V.int 0]).flatten) pl = some (.lst (vn (List.replicate s.box.places 0))) := by rw [upd_same, zeros]
      generalize upd (upd H1 pz (.lst [.int 0])) pl (.lst (List.replicate (Int.toNat (s.box.places : Int)) [V.int 0]).flatten) = H3 at *
      -- the loop
      refine ⟨_, rfl, a, dx, _, rfl, s3 _ _ h1, sF_no (by decide +kernel) (by decide +kernel) (by decide +kernel) (by decide +kernel), ?_⟩
      refine ⟨a, pc, os, s, rfl, hS.keep s3, fs, fun H4 pm s4 hM => ?_⟩
      have s04 := s3.trans s4
      obtain ⟨ts, hts, htl, htat⟩ := (ListOf.mono RowAt.mono _ _ _ _ (frs_same _ _) hM).at
      have et : (ts.map V.ref).length = s.moving.cams.length := by rw [List.length_map, htl]
      have ep : (vn p).length = p.length := List.length_map ..
      have ml := moving_len s
      refine ⟨_, rfl, pm, q, _, _, rfl, SqL.of hts, SqL.of (s04 _ _ hq), for_it (walk_zip (K := K) (a := pm) (b := q) (xs := ts.map V.ref) (ys := vn p) (n := p.length) (by rw [et, ep]; omega)) (fun i σ H' => ∃ (pl : Addr) (v3 v4 : Option V), σ = [some (.ref a), some (.ref q), some (.ref pl), v3, v4, none] ∧ Same H4 H' ∧ H' pl = some (.lst (vn (lever s.box.places (s.moving.cams.take i) (p.take i)))))
        ⟨pl, none, none, rfl, Same.refl _, s4 _ _ hpl3⟩ (fun i σ H' _ ⟨_, _, _, _, s5, _⟩ => ⟨SqL.of (s5 _ _ hts), SqL.of (s5 _ _ (s04 _ _ hq))⟩) ?_ ?_⟩
      · rintro i x σ H5 H5' hi ⟨pl5, v3, v4, rfl, s5, hpl5⟩ ⟨T0, y1, y2, rfl, hT0, rfl, hy1, hy2⟩
        obtain ⟨t, ht, rfl⟩ := ref_get hy1
        obtain ⟨u, hu, rfl⟩ := vn_get hy2
        have hi2 : i < s.moving.cams.length := by omega
        obtain ⟨t2, e2, hrow⟩ := htat i s.moving.cams[i] (List.getElem?_eq_getElem hi2)
        rw [ht] at e2
        cases e2
        have hmi : s.moving.cams[i]? = some s.moving.cams[i] := List.getElem?_eq_getElem hi2
        have hml := ms_length fs _ (List.getElem_mem hi2)
        generalize s.moving.cams[i] = m at *
        have hrow' : H4 t = some (.lst (vn m)) := hrow
        have q1 := same_new (o := .tup [.ref t, .int (u : Int)]) hT0
        have s6 := s5.trans q1
        have hpl6 := q1 _ _ hpl5
        refine ⟨T0, _, rfl, SqT.of upd_same, rfl, _, _, rfl, _, _, rfl, rfl, ?_⟩
        generalize upd H5 T0 (.tup [.ref t, .int (u : Int)]) = H6 at *
        refine ⟨_, rfl, _, rfl, _, rfl, t, s.box.places, u, m, rfl, SqL.of (s6 _ _ hrow'), hml, p8, ch u (List.mem_of_getElem? hu), fun H7 pS s7 hpS h7 => ?_⟩
        have ll := lever_length (n := s.box.places) (ms := s.moving.cams.take i) (fun m hm => ms_length fs m (List.mem_of_mem_take hm)) (p.take i)
        refine ⟨pl5, pS, _, _, rfl, SqL.of (s7 _ _ hpl6), SqL.of h7, by omega, fun H8 p8' s8 hp8 h8 => ?_⟩
        refine ⟨p8', _, _, rfl, s6.trans (s7.trans s8), ?_⟩
        rw [h8, lever_step hmi hu]
      rintro σ H5 ⟨pl5, v3, v4, rfl, s5, hpl5⟩
      have e1 : s.moving.cams.take p.length = s.moving.cams := List.take_of_length_le (by omega)
      rw [e1, List.take_length] at hpl5
      have s05 := s04.trans s5
      have ll := lever_length (n := s.box.places) (ms_length fs) p
      generalize lever s.box.places s.moving.cams p = lv at *
      -- off
      refine ⟨_, rfl, _, rfl, a, C, dx, _, _, rfl, s05 _ _ h1, T.cl, T.nW, sF_wished, pl5, pw, lv, s.box.wish, rfl, SqL.of hpl5, SqL.of (s05 _ _ h3), by omega, fun H6 po s6 hpo h6 => ?_⟩
      have ol := offs_length ll fs.wl
      generalize offs lv s.box.wish = ov at *
      refine ⟨_, rfl, po, zs ov, rfl, SqL.of (by rw [h6, vn_vz]), ?_⟩
      refine ⟨_, rfl, po, zs ov, rfl, SqL.of (by rw [h6, vn_vz]), (by rw [List.length_map]; omega), fun y hy hall => ?_⟩
      have ey := max_nat hy hall
      rw [total_sum, ey]
      refine ⟨(by show 2 ≤ sizeLine; decide), fun pr hpr => ?_⟩
      have s06 := s05.trans s6
      have hpl6 := s6 _ _ hpl5
      have np : pl5 ≠ pr := fun z => by rw [z, hpr] at hpl6; cases hpl6
      refine ⟨_, rfl, pr, pl5, _, _, rfl, rfl, upd_same, (upd_ne np).trans hpl6, ?_, fun p9 hp9 => ?_⟩
      · show 2 + (vn lv).length ≤ sizeLine
        rw [List.length_map]
        exact Nat.le_of_lt (small12 (by omega))
      · have s7 : Same H (upd H6 pr (.lst [.int ((Uw41.total ov : Nat) : Int), .int ((ov.foldl max 0 : Nat) : Int)])) := same_upd s06 (s06.free hpr)
        have := k.give hS s7 hp9
        have eo : vz (outs ⟨((Uw41.total ov : Nat) : Int), ov.foldl max 0 :: lv⟩) = [V.int ((Uw41.total ov : Nat) : Int), V.int ((ov.foldl max 0 : Nat) : Int)] ++ vn lv := by
          rw [vn_vz]
          rfl
        rw [eo] at this
        exact this
end
end Cam
set_option Elab.async false
set_option maxRecDepth 100000
set_option maxHeartbeats 2000000
namespace Cam
open PySem PySem.Spec PyProof.Rows L2
open Uw44 (Show)
def spNearest (C : Addr) : Sp := fun vs H Q _ => ∃ (a pc : Addr) (os : List Addr) (s : Show), vs = [.ref a] ∧ ShowAt C H a pc os s ∧ Fine s ∧
  After C a pc os [] H (Uw44.step s .nearest).1 (outs (Uw44.step s .nearest).2) Q
def spBest (C : Addr) : Sp := fun vs H Q _ => ∃ (a pc : Addr) (os : List Addr) (s : Show), vs = [.ref a] ∧ ShowAt C H a pc os s ∧ Fine s ∧
  After C a pc os [] H (Uw44.step s .best).1 (outs (Uw44.step s .best).2) Q
theorem only_out {S : Addr → Prop} {H : Hp} {b : Addr} (h : ¬ S b) : only S H b = none := by
  unfold only
  rw [if_neg h]
theorem gradesN_snoc {s : Show} {l : List (List Nat × List Nat)} {j : Nat} {y : List Nat × List Nat} (h : l[j]? = some y) : gradesN s (l.take (j + 1)) = gradesN s (l.take j) ++ [gradeN s y] := by
  unfold gradesN
  rw [take_more h, List.map_append]
  rfl
theorem gradesB_yes {s : Show} {l : List (List Nat × List Nat)} {j : Nat} {y : List Nat × List Nat} (h : l[j]? = some y) (c : may y.2 s.box.wish = true) : gradesB s (l.take (j + 1)) = gradesB s (l.take j) ++ [gradeB s y] := by
  unfold gradesB
  rw [take_more h, List.filter_append, List.map_append, List.filter_cons_of_pos (p := fun (x : List Nat × List Nat) => may x.2 s.box.wish) (a := y) c]
  rfl
theorem gradesB_no {s : Show} {l : List (List Nat × List Nat)} {j : Nat} {y : List Nat × List Nat} (h : l[j]? = some y) (c : may y.2 s.box.wish = false) : gradesB s (l.take (j + 1)) = gradesB s (l.take j) := by
  unfold gradesB
  rw [take_more h, List.filter_append, List.map_append, List.filter_cons_of_neg (p := fun (x : List Nat × List Nat) => may x.2 s.box.wish) (a := y) (by show ¬ may y.2 s.box.wish = true; rw [c]; decide)]
  exact List.append_nil _
theorem gradesB_len (s : Show) (l : List (List Nat × List Nat)) : (gradesB s l).length ≤ l.length := by
  unfold gradesB
  rw [List.length_map]
  exact List.length_filter_le _ _
theorem offs_at {n : Nat} {s : Show} (f : Fine s) {l : List Nat} (hl : l.length = n) (e : n = s.box.places) : (offs l s.box.wish).length = s.box.places := offs_length (hl.trans e) f.wl
section
variable {P : Program} {w : World} {K : PySem.W.Frag} {mg : Str → Option Value} {base : Heap} {C : Addr}
theorem scNearest : FnScope ["self", "graded", "plan", "lever", "off"] ["self"] (defScope sNearest) := ⟨rfl, rfl, rfl, by decide +kernel, rfl, by decide +kernel, by decide +kernel⟩
theorem ok_nearest {f fM fE fO fC fA : Addr} {fd fdM fdE fdO fdC fdA : FuncData} (F : Fun K "nearest" "Show.nearest" sNearest f fd) (T : TxtS K mg C) (G : TxtG mg)
    (GM : FnOk P w K mg base CX0 3 fM fdM ["self"] (spMotions C)) (bM : Binds K fdM ["self"] []) (mM : Meth K C "motions" fM)
    (GE : FnOk P w K mg base CX0 2 fE fdE ["motions", "places"] spEvery) (bE : Binds K fdE ["motions", "places"] []) (gE : mg "every_plan" = some (.ref fE)) (kE : PySem.W.keepIn K (.ref fE) = true)
    (FO : Fun K "off_by_place" "off_by_place" sOff fO fdO) (bO : Binds K fdO ["lever", "wished"] []) (gO : mg "off_by_place" = some (.ref fO))
    (FC : Fun K "cams_on" "cams_on" sCamsOn fC fdC) (bC : Binds K fdC ["plan", "places"] []) (gC : mg "cams_on" = some (.ref fC))
    (FA : Fun K "answer_of" "answer_of" sAnsOf fA fdA) (bA : Binds K fdA ["graded"] []) (gA : mg "answer_of" = some (.ref fA)) :
    FnOk P w K mg base CX0 4 f fd ["self"] (spNearest C) := by
  have GO : FnOk P w K mg base CX0 1 fO fdO ["lever", "wished"] (spOff K) := ok_off FO G
  have GC : FnOk P w K mg base CX0 1 fC fdC ["plan", "places"] (spCamsOn K) := ok_camson FC G
  have GA : FnOk P w K mg base CX0 1 fA fdA ["graded"] spAnsOf := ok_ansof FA G
  refine F.ok scNearest (fun vs H Q E h => ?_) (fun cdv A outer s H vs Q E hr h => ?_)
  · obtain ⟨a, pc, os, s, rfl, _⟩ := h
    rfl
  · obtain ⟨a, pc, os, s, rfl, hS, fs, k⟩ := h
    refine ⟨_, pss_cons (ps_set (i := 1) scNearest.nd rfl (Or.inl rfl) (pe_lst pa_nil))
      (pss_cons (ps_for PassesOwn.never rfl (pi_list (pe_call GE (hr.mono (by decide)) rfl gE kE bE .nil pass0 (pa_cons (pe_meth0 (pv 0) T.cl mM GM hr bM .nil pass0) (pa_cons (pe_fld (pv 0) rfl) pa_nil)))) (pg_tup rfl (pgs_cons (pg_name (i := 2) scNearest.nd rfl (Or.inl rfl)) (pgs_cons (pg_name (i := 3) scNearest.nd rfl (Or.inl rfl)) pgs_nil)))
        (pss_cons (ps_set (i := 4) scNearest.nd rfl (Or.inl rfl) (pe_call GO (hr.mono (by decide)) rfl gO FO.kp bO .nil pass0 (pa_cons (pv 3) (pa_cons (pe_fld (pv 0) rfl) pa_nil))))
        (pss_one (ps_expr (pe_bm PySem.F.plainAttrs_list PySem.F.slot_list_append PySem.F.type_list_append mt_append (pv 1) (pa_cons (pe_tup (pa_cons (pe_callB (cr_sum rfl) (by rfl) G.sum (by decide +kernel) (pa_cons (pv 4) pa_nil)) (pa_cons (pe_call GC (hr.mono (by decide)) rfl gC FC.kp bC .nil pass0 (pa_cons (pv 2) (pa_cons (pe_fld (pv 0) rfl) pa_nil))) (pa_cons (pv 2) pa_nil)))) pa_nil))))))
      (pss_one (ps_ret (pe_call GA (hr.mono (by decide)) rfl gA FA.kp bA .nil pass0 (pa_cons (pv 1) pa_nil))))), ?_⟩
    obtain ⟨dx, pf, pw, rs, h0, h1, h2, h3, h4, h5, n1, n2, n3⟩ := id hS
    have p2 := fs.p2
    have p8 := fs.p8
    have c4 := fs.c4
    have ml := moving_len s
    -- graded = []
    refine ⟨(by show 0 ≤ sizeLine; decide), fun g hg => ?_⟩
    have s1 := same_new (o := .lst []) hg
    have hg1 : upd H g (.lst []) g = some (.lst []) := upd_same
    generalize upd H g (.lst []) = H1 at *
    -- every_plan(self.motions(), self.places)
    refine ⟨_, rfl, a, dx, _, rfl, s1 _ _ h1, sF_no (by decide +kernel) (by decide +kernel) (by decide +kernel) (by decide +kernel), ?_⟩
    refine ⟨a, pc, os, s, rfl, hS.keep s1, fs, fun H2 pm s2 hM => ?_⟩
    have s02 := s1.trans s2
    refine ⟨_, rfl, a, C, dx, _, _, rfl, s02 _ _ h1, T.cl, T.nP, sF_places, ?_⟩
    refine ⟨pm, s.box.places, s.moving.cams, rfl, ListOf.mono RowAt.mono _ _ _ _ (frs_same _ _) hM, ms_length fs, p8, by omega, fun H3 pp s3 hP => ?_⟩
    have s03 := s02.trans s3
    have hg2 := s2 _ _ hg1
    have hg3 := s3 _ _ hg2
    have hpf := plansOf_few (k := s.box.places) (ms := s.moving.cams) p8 (by omega)
    have hp4 := plan_few (l := plansOf s.box.places s.moving.cams) rfl (by omega)
    have hpl := plan_lever (n := s.box.places) (ms := s.moving.cams) (ms_length fs)
    have hne := gradesN_ne fs
    have ho := nearest_out' fs
    generalize plansOf s.box.places s.moving.cams = pls at *
    obtain ⟨ts, hts, htl, htat⟩ := hP.at
    have et : (ts.map V.ref).length = pls.length := by rw [List.length_map, htl]
    -- what stands, but for graded
    have sX : Same (frs H2 H3) (only (fun b => b ≠ g) H3) := same_only fun b o hb e => ⟨(fun z => by rw [z, hg2] at hb; cases hb), e⟩
    have sH : Same H (only (fun b => b ≠ g) H3) := fun b o e => only_some.mpr ⟨(fun z => by rw [z, hg] at e; cases e), s03 _ _ e⟩
    have xg : only (fun b => b ≠ g) H3 g = none := only_out fun z => z rfl
    have x3 : Same (only (fun b => b ≠ g) H3) H3 := only_same _ _
    have fX : ∀ b, frs H2 H3 b ≠ none → H b = none := fun b hb => by
      cases e : frs H2 H3 b with
      | none => exact absurd e hb
      | some o => exact s02.free (only_some.mp e).1
    generalize only (fun b => b ≠ g) H3 = X3 at *
    refine ⟨pp, rfl, ⟨_, SqL.of (x3 _ _ (sX _ _ hts))⟩, for_it (walk_list (K := K) (a := pp) (xs := ts.map V.ref)) (fun j σ H' => ∃ (v2 v3 v4 : Option V), σ = [some (.ref a), some (.ref g), v2, v3, v4] ∧ Same X3 H' ∧ Acc GradeAt (fun b => H b = none) H' g (gradesN s (pls.take j)))
      ⟨none, none, none, rfl, x3, Acc.start hg3⟩ (fun j σ H' _ ⟨_, _, _, _, s, _⟩ => SqL.of (s _ _ (sX _ _ hts))) ?_ ?_⟩
    · rintro j x σ H4' H4 hj ⟨v2, v3, v4, rfl, s4, hA⟩ ⟨rfl, hx⟩
      obtain ⟨t, ht, rfl⟩ := ref_get hx
      have hj' : j < pls.length := by rw [← htl]; exact get_lt ht
      have hyj : pls[j]? = some pls[j] := List.getElem?_eq_getElem hj'
      obtain ⟨t2, e2, pa, pb, g1, g2, g3⟩ := htat j pls[j] hyj
      rw [ht] at e2
      cases e2
      have hyl := hpl pls[j] (List.getElem_mem hj')
      generalize pls[j] = y at *
      have fpa : H pa = none := fX pa (by rw [show frs H2 H3 pa = _ from g2]; simp)
      have g1' := s4 _ _ (sX _ _ g1)
      have g2' : H4 pa = some (.lst (vn y.1)) := s4 _ _ (sX _ _ g2)
      have g3' : H4 pb = some (.lst (vn y.2)) := s4 _ _ (sX _ _ g3)
      have npa : pa ≠ g := fun z => by
        have := sX _ _ g2
        rw [z, xg] at this
        cases this
      obtain ⟨acc4, hL4, _⟩ := id hA
      refine ⟨t, _, rfl, SqT.of g1', rfl, _, _, rfl, _, _, rfl, rfl, ?_⟩
      refine ⟨_, rfl, _, rfl, a, C, dx, _, _, rfl, s4 _ _ (sH _ _ h1), T.cl, T.nW, sF_wished, pb, pw, y.2, s.box.wish, rfl, SqL.of g3', SqL.of (s4 _ _ (sH _ _ h3)), by omega, fun H5 po s5 hpo h5' => ?_⟩
      have s45 := s4.trans s5
      refine ⟨_, rfl, .inl ⟨rfl, _, SqL.of (s5 _ _ hL4)⟩, ?_⟩
      refine ⟨_, rfl, po, zs (offs y.2 s.box.wish), rfl, SqL.of (by rw [h5', vn_vz]), ?_⟩
      refine ⟨_, rfl, _, rfl, a, C, dx, _, _, rfl, s45 _ _ (sH _ _ h1), T.cl, T.nP, sF_places, pa, s.box, y.1, rfl, SqL.of (s5 _ _ g2'), ?_⟩
      rw [total_sum]
      refine ⟨_, rfl, (by show 3 ≤ sizeLine; decide), fun q hq => ?_⟩
      have w1 := same_new (o := .tup [.int ((Uw41.total (offs y.2 s.box.wish) : Nat) : Int), .int ((Uw42.used s.box y.1 : Nat) : Int), .ref pa]) hq
      have nq : q ≠ g := fun z => by
        rw [z, s5 _ _ hL4] at hq
        cases hq
      obtain ⟨acc, a1, a2, a3⟩ := (hA.keep GradeAt.mono (s5.trans w1)).push GradeAt.mono (t := q) (x := gradeN s y)
        ⟨pa, only_some.mpr ⟨⟨(sH.trans s45).free hq, nq⟩, upd_same⟩, only_some.mpr ⟨⟨fpa, npa⟩, w1 _ _ (s5 _ _ g2')⟩⟩
      refine ⟨g, acc, _, rfl, rfl, a1, ?_, ?_⟩
      · rw [a2]
        unfold gradesN
        rw [List.length_map, List.length_take]
        exact small6561 (by omega)
      · refine ⟨_, _, _, rfl, same_upd (s45.trans w1) xg, ?_⟩
        rw [gradesN_snoc hyj]
        exact a3
    · rintro σ H4 ⟨v2, v3, v4, rfl, s4, hA⟩
      rw [et, List.take_length] at hA
      have sHH := sH.trans s4
      refine ⟨_, rfl, g, gradesN s pls, rfl, ListOf.mono GradeAt.mono _ _ _ _ (only_same _ _) (hA.done GradeAt.mono hg), hne, (by unfold gradesN; rw [List.length_map]; exact hpf), fun y hy => ?_, fun H5 p s5 hp h5' => ?_⟩
      · obtain ⟨z, hz, e⟩ := List.mem_map.mp hy
        rw [← e]
        have := hp4 z hz
        show z.1.length ≤ 12
        omega
      · have s05 := sHH.trans s5
        refine k H5 pc p os (hS.keep s05) (.inl rfl) (fun _ z => .inl z) (fun b o e _ _ => s05 b o e) (sHH.free hp) ?_
        rw [h5', ho, vn_vz]
theorem scBest : FnScope ["self", "reaches", "graded", "plan", "lever", "left", "cut", "lacking"] ["self"] (defScope sBest) := ⟨rfl, rfl, rfl, by decide +kernel, rfl, by decide +kernel, by decide +kernel⟩
theorem ok_best {f fR fM fE fW fO fU fN fC fA : Addr} {fd fdR fdM fdE fdW fdO fdU fdN fdC fdA : FuncData} (F : Fun K "best" "Show.best" sBest f fd) (T : TxtS K mg C) (G : TxtG mg)
    (GR : FnOk P w K mg base CX0 2 fR fdR ["self"] (spReaches C)) (bR : Binds K fdR ["self"] []) (mR : Meth K C "reaches" fR)
    (GM : FnOk P w K mg base CX0 3 fM fdM ["self"] (spMotions C)) (bM : Binds K fdM ["self"] []) (mM : Meth K C "motions" fM)
    (GE : FnOk P w K mg base CX0 2 fE fdE ["motions", "places"] spEvery) (bE : Binds K fdE ["motions", "places"] []) (gE : mg "every_plan" = some (.ref fE)) (kE : PySem.W.keepIn K (.ref fE) = true)
    (FW : Fun K "is_nowhere_higher" "is_nowhere_higher" sNowhere fW fdW) (bW : Binds K fdW ["lever", "wished"] []) (gW : mg "is_nowhere_higher" = some (.ref fW))
    (FO : Fun K "off_by_place" "off_by_place" sOff fO fdO) (bO : Binds K fdO ["lever", "wished"] []) (gO : mg "off_by_place" = some (.ref fO))
    (GU : FnOk P w K mg base CX0 2 fU fdU ["left", "reaches"] (spCut K)) (bU : Binds K fdU ["left", "reaches"] []) (gU : mg "cut_from" = some (.ref fU)) (kU : PySem.W.keepIn K (.ref fU) = true)
    (GN : FnOk P w K mg base CX0 2 fN fdN ["radii", "reaches"] (spMotion K)) (bN : Binds K fdN ["radii", "reaches"] []) (gN : mg "motion_of" = some (.ref fN)) (kN : PySem.W.keepIn K (.ref fN) = true)
    (FC : Fun K "cams_on" "cams_on" sCamsOn fC fdC) (bC : Binds K fdC ["plan", "places"] []) (gC : mg "cams_on" = some (.ref fC))
    (FA : Fun K "answer_of" "answer_of" sAnsOf fA fdA) (bA : Binds K fdA ["graded"] []) (gA : mg "answer_of" = some (.ref fA)) :
    FnOk P w K mg base CX0 4 f fd ["self"] (spBest C) := by
  have GW : FnOk P w K mg base CX0 1 fW fdW ["lever", "wished"] (spNowhere K) := ok_nowhere FW G
  have GO : FnOk P w K mg base CX0 1 fO fdO ["lever", "wished"] (spOff K) := ok_off FO G
  have GC : FnOk P w K mg base CX0 1 fC fdC ["plan", "places"] (spCamsOn K) := ok_camson FC G
  have GA : FnOk P w K mg base CX0 1 fA fdA ["graded"] spAnsOf := ok_ansof FA G
  refine F.ok scBest (fun vs H Q E h => ?_) (fun cdv A outer s H vs Q E hr h => ?_)
  · obtain ⟨a, pc, os, s, rfl, _⟩ := h
    rfl
  · obtain ⟨a, pc, os, s, rfl, hS, fs, k⟩ := h
    refine ⟨_, pss_cons (ps_set (i := 1) scBest.nd rfl (Or.inl rfl) (pe_meth0 (pv 0) T.cl mR GR (hr.mono (by decide)) bR .nil pass0))
      (pss_cons (ps_set (i := 2) scBest.nd rfl (Or.inl rfl) (pe_lst pa_nil))
      (pss_cons (ps_for PassesOwn.never rfl (pi_list (pe_call GE (hr.mono (by decide)) rfl gE kE bE .nil pass0 (pa_cons (pe_meth0 (pv 0) T.cl mM GM hr bM .nil pass0) (pa_cons (pe_fld (pv 0) rfl) pa_nil)))) (pg_tup rfl (pgs_cons (pg_name (i := 3) scBest.nd rfl (Or.inl rfl)) (pgs_cons (pg_name (i := 4) scBest.nd rfl (Or.inl rfl)) pgs_nil)))
        (pss_one (ps_if (pt_val (pe_call GW (hr.mono (by decide)) rfl gW FW.kp bW .nil pass0 (pa_cons (pv 4) (pa_cons (pe_fld (pv 0) rfl) pa_nil))))
          (pss_cons (ps_set (i := 5) scBest.nd rfl (Or.inl rfl) (pe_call GO (hr.mono (by decide)) rfl gO FO.kp bO .nil pass0 (pa_cons (pv 4) (pa_cons (pe_fld (pv 0) rfl) pa_nil))))
          (pss_cons (ps_set (i := 6) scBest.nd rfl (Or.inl rfl) (pe_call GU (hr.mono (by decide)) rfl gU kU bU .nil pass0 (pa_cons (pv 5) (pa_cons (pv 1) pa_nil))))
          (pss_cons (ps_set (i := 7) scBest.nd rfl (Or.inl rfl) (pe_op op_sub (pe_callB (cr_sum rfl) (by rfl) G.sum (by decide +kernel) (pa_cons (pv 5) pa_nil)) (pe_callB (cr_sum rfl) (by rfl) G.sum (by decide +kernel) (pa_cons (pe_call GN (hr.mono (by decide)) rfl gN kN bN .nil pass0 (pa_cons (pv 6) (pa_cons (pv 1) pa_nil))) pa_nil))))
          (pss_one (ps_expr (pe_bm PySem.F.plainAttrs_list PySem.F.slot_list_append PySem.F.type_list_append mt_append (pv 2) (pa_cons (pe_tup (pa_cons (pv 7) (pa_cons (pe_call GC (hr.mono (by decide)) rfl gC FC.kp bC .nil pass0 (pa_cons (pv 3) (pa_cons (pe_fld (pv 0) rfl) pa_nil))) (pa_cons (pe_op op_cat (pv 3) (pv 6)) pa_nil)))) pa_nil))))))) pss_nil)))
      (pss_one (ps_ret (pe_call GA (hr.mono (by decide)) rfl gA FA.kp bA .nil pass0 (pa_cons (pv 2) pa_nil)))))), ?_⟩
    obtain ⟨dx, pf, pw, rs, h0, h1, h2, h3, h4, h5, n1, n2, n3⟩ := id hS
    have p2 := fs.p2
    have p8 := fs.p8
    have c4 := fs.c4
    have ml := moving_len s
    -- reaches
    refine ⟨_, rfl, a, dx, _, rfl, h1, sF_no (by decide +kernel) (by decide +kernel) (by decide +kernel) (by decide +kernel), ?_⟩
    refine ⟨a, pc, os, s, rfl, hS, fs, fun H0 pr s0 hR => ?_⟩
    have hR0 : ReachesAt s.box.places s.foot H0 pr := ListOf.mono ReachAt.mono _ _ _ _ (frs_same _ _) hR
    -- graded = []
    refine ⟨(by show 0 ≤ sizeLine; decide), fun g hg0 => ?_⟩
    have hg := s0.free hg0
    have s1' := same_new (o := .lst []) hg0
    have hg1 : upd H0 g (.lst []) g = some (.lst []) := upd_same
    generalize upd H0 g (.lst []) = H1 at *
    have s1 := s0.trans s1'
    -- every_plan(self.motions(), self.places)
    refine ⟨_, rfl, a, dx, _, rfl, s1 _ _ h1, sF_no (by decide +kernel) (by decide +kernel) (by decide +kernel) (by decide +kernel), ?_⟩
    refine ⟨a, pc, os, s, rfl, hS.keep s1, fs, fun H2 pm s2 hM => ?_⟩
    have s02 := s1.trans s2
    refine ⟨_, rfl, a, C, dx, _, _, rfl, s02 _ _ h1, T.cl, T.nP, sF_places, ?_⟩
    refine ⟨pm, s.box.places, s.moving.cams, rfl, ListOf.mono RowAt.mono _ _ _ _ (frs_same _ _) hM, ms_length fs, p8, by omega, fun H3 pp s3 hP => ?_⟩
    have s03 := s02.trans s3
    have hg2 := s2 _ _ hg1
    have hg3 := s3 _ _ hg2
    have hpf := plansOf_few (k := s.box.places) (ms := s.moving.cams) p8 (by omega)
    have hp4 := plan_few (l := plansOf s.box.places s.moving.cams) rfl (by omega)
    have hpl := plan_lever (n := s.box.places) (ms := s.moving.cams) (ms_length fs)
    have hne := gradesB_ne fs
    have ho := best_out' fs
    generalize plansOf s.box.places s.moving.cams = pls at *
    obtain ⟨ts, hts, htl, htat⟩ := hP.at
    have et : (ts.map V.ref).length = pls.length := by rw [List.length_map, htl]
    -- what stands, but for graded
    have sX : Same (frs H2 H3) (only (fun b => b ≠ g) H3) := same_only fun b o hb e => ⟨(fun z => by rw [z, hg2] at hb; cases hb), e⟩
    have sH0 : Same H0 (only (fun b => b ≠ g) H3) := fun b o e => only_some.mpr ⟨(fun z => by rw [z, hg0] at e; cases e), s3 _ _ (s2 _ _ (s1' _ _ e))⟩
    have xg : only (fun b => b ≠ g) H3 g = none := only_out fun z => z rfl
    have x3 : Same (only (fun b => b ≠ g) H3) H3 := only_same _ _
    generalize only (fun b => b ≠ g) H3 = X3 at *
    have sH := s0.trans sH0
    have hRX : ReachesAt s.box.places s.foot X3 pr := ListOf.mono ReachAt.mono _ _ _ _ sH0 hR0
    refine ⟨pp, rfl, ⟨_, SqL.of (x3 _ _ (sX _ _ hts))⟩, for_it (walk_list (K := K) (a := pp) (xs := ts.map V.ref)) (fun j σ H' => ∃ (v3 v4 v5 v6 v7 : Option V), σ = [some (.ref a), some (.ref pr), some (.ref g), v3, v4, v5, v6, v7] ∧ Same X3 H' ∧ Acc GradeAt (fun b => H b = none) H' g (gradesB s (pls.take j)))
      ⟨none, none, none, none, none, rfl, x3, Acc.start hg3⟩ (fun j σ H' _ ⟨_, _, _, _, _, _, s, _⟩ => SqL.of (s _ _ (sX _ _ hts))) ?_ ?_⟩
    · rintro j x σ H4' H4 hj ⟨v3, v4, v5, v6, v7, rfl, s4, hA⟩ ⟨rfl, hx⟩
      obtain ⟨t, ht, rfl⟩ := ref_get hx
      have hj' : j < pls.length := by rw [← htl]; exact get_lt ht
      have hyj : pls[j]? = some pls[j] := List.getElem?_eq_getElem hj'
      obtain ⟨t2, e2, pa, pb, g1, g2, g3⟩ := htat j pls[j] hyj
      rw [ht] at e2
      cases e2
      have hyl := hpl pls[j] (List.getElem_mem hj')
      have hy4 := hp4 pls[j] (List.getElem_mem hj')
      generalize pls[j] = y at *
      have g1' := s4 _ _ (sX _ _ g1)
      have g2' : H4 pa = some (.lst (vn y.1)) := s4 _ _ (sX _ _ g2)
      have g3' : H4 pb = some (.lst (vn y.2)) := s4 _ _ (sX _ _ g3)
      refine ⟨t, _, rfl, SqT.of g1', rfl, _, _, rfl, _, _, rfl, rfl, ?_⟩
      refine ⟨_, rfl, _, rfl, a, C, dx, _, _, rfl, s4 _ _ (sH _ _ h1), T.cl, T.nW, sF_wished, pb, pw, y.2, s.box.wish, rfl, SqL.of g3', SqL.of (s4 _ _ (sH _ _ h3)), by omega, fun H5 s5 => ⟨_, rfl, ?_⟩⟩
      have s45 := s4.trans s5
      cases c : may y.2 s.box.wish with
      | false =>
        refine if_false_of rfl ⟨_, _, _, _, _, rfl, s45, ?_⟩
        rw [gradesB_no hyj c]
        exact hA.keep GradeAt.mono s5
      | true =>
        refine if_true_of rfl ?_
        refine ⟨_, rfl, _, rfl, a, C, dx, _, _, rfl, s45 _ _ (sH _ _ h1), T.cl, T.nW, sF_wished, pb, pw, y.2, s.box.wish, rfl, SqL.of (s5 _ _ g3'), SqL.of (s45 _ _ (sH _ _ h3)), by omega, fun H6 po s6 hpo h6 => ?_⟩
        have s46 := s45.trans s6
        have ol := offs_length hyl fs.wl
        have eg : gradeB s y = (Uw41.short s.foot (offs y.2 s.box.wish), Uw42.used s.box y.1, y.1 ++ Uw41.cut s.foot (offs y.2 s.box.wish)) := rfl
        generalize offs y.2 s.box.wish = ov at *
        refine ⟨_, rfl, _, rfl, po, pr, s.box.places, ov, s.foot, rfl, SqL.of h6, ListOf.mono ReachAt.mono _ _ _ _ s46 hRX, ol, by omega, p8, fs.f4, fs.f0, fun H7 pu s7 hpu h7 => ?_⟩
        have s47 := s46.trans s7
        have cl := cut_length s.foot ov
        refine ⟨_, rfl, po, zs ov, rfl, SqL.of (by rw [s7 _ _ h6, vn_vz]), ?_⟩
        refine ⟨_, rfl, _, rfl, pu, pr, s.box.places, Uw41.cut s.foot ov, s.foot, rfl, SqL.of h7, ListOf.mono ReachAt.mono _ _ _ _ s47 hRX, by omega, by omega, p8, fs.f4, fs.f0, fun H8 pn s8 hpn h8 => ?_⟩
        have s48 := s47.trans s8
        refine ⟨pn, zs (Uw41.motion s.foot (Uw41.cut s.foot ov)), rfl, SqL.of (by rw [h8, vn_vz]), _, _, rfl, rfl, ?_⟩
        have el : V.int ((zs ov).sum - (zs (Uw41.motion s.foot (Uw41.cut s.foot ov))).sum) = V.int ((Uw41.short s.foot ov : Nat) : Int) := congrArg V.int (short_int s.foot ov)
        have s58 := s5.trans (s6.trans (s7.trans s8))
        have g2'' := s58 _ _ g2'
        have h7'' := s8 _ _ h7
        obtain ⟨acc4, hL4, _⟩ := id (hA.keep GradeAt.mono s58)
        refine ⟨_, rfl, .inl ⟨rfl, _, SqL.of hL4⟩, ?_⟩
        refine ⟨_, rfl, _, rfl, _, rfl, a, C, dx, _, _, rfl, s48 _ _ (sH _ _ h1), T.cl, T.nP, sF_places, pa, s.box, y.1, rfl, SqL.of g2'', ?_⟩
        refine ⟨_, rfl, _, rfl, pa, pu, _, _, rfl, rfl, g2'', h7'', ?_, fun pq hpq => ?_⟩
        · rw [List.length_map, List.length_map]
          exact Nat.le_of_lt (small12 (by omega))
        have w1 := same_new (o := .lst (vn y.1 ++ vn (Uw41.cut s.foot ov))) hpq
        have npq : pq ≠ g := fun z => by rw [z, hL4] at hpq; cases hpq
        have hpqf : upd H8 pq (.lst (vn y.1 ++ vn (Uw41.cut s.foot ov))) pq = some (.lst (vn (y.1 ++ Uw41.cut s.foot ov))) := by rw [upd_same, vn_append]
        generalize upd H8 pq (.lst (vn y.1 ++ vn (Uw41.cut s.foot ov))) = H9 at *
        refine ⟨(by show 3 ≤ sizeLine; decide), fun q hq => ?_⟩
        have s49 := s48.trans w1
        have w2 := same_new (o := .tup [.int ((zs ov).sum - (zs (Uw41.motion s.foot (Uw41.cut s.foot ov))).sum), .int ((Uw42.used s.box y.1 : Nat) : Int), .ref pq]) hq
        have nq : q ≠ g := fun z => by
          rw [z, w1 _ _ hL4] at hq
          cases hq
        obtain ⟨acc, a1, a2, a3⟩ := (hA.keep GradeAt.mono (s58.trans (w1.trans w2))).push GradeAt.mono (t := q) (x := gradeB s y)
          (by
            rw [eg]
            refine ⟨pq, only_some.mpr ⟨⟨(sH.trans s49).free hq, nq⟩, ?_⟩, only_some.mpr ⟨⟨(sH.trans s48).free hpq, npq⟩, w2 _ _ hpqf⟩⟩
            rw [upd_same, el])
        refine ⟨g, acc, _, rfl, rfl, a1, ?_, ?_⟩
        · rw [a2]
          have := gradesB_len s (pls.take j)
          rw [List.length_take] at this
          exact small6561 (by omega)
        · refine ⟨_, _, _, _, _, rfl, same_upd (s49.trans w2) xg, ?_⟩
          rw [gradesB_yes hyj c]
          exact a3
    · rintro σ H4 ⟨v3, v4, v5, v6, v7, rfl, s4, hA⟩
      rw [et, List.take_length] at hA
      have sHH := sH.trans s4
      refine ⟨_, rfl, g, gradesB s pls, rfl, ListOf.mono GradeAt.mono _ _ _ _ (only_same _ _) (hA.done GradeAt.mono hg), hne, (Nat.le_trans (gradesB_len s pls) hpf), fun y hy => ?_, fun H5 p s5 hp h5' => ?_⟩
      · obtain ⟨z, hz, e⟩ := List.mem_map.mp hy
        have hz' := (List.mem_filter.mp hz).1
        rw [← e]
        have l1 := hp4 z hz'
        have l2 := offs_length (hpl z hz') fs.wl
        show (z.1 ++ Uw41.cut s.foot (offs z.2 s.box.wish)).length ≤ 12
        rw [List.length_append, cut_length]
        omega
      · have s05 := sHH.trans s5
        refine k H5 pc p os (hS.keep s05) (.inl rfl) (fun _ z => .inl z) (fun b o e _ _ => s05 b o e) (sHH.free hp) ?_
        rw [h5', ho, vn_vz]
end
end Cam
set_option Elab.async false
set_option maxRecDepth 100000
set_option maxHeartbeats 2000000
namespace Cam
open PySem PySem.Spec PyProof.Rows L2
open Uw44 (Show)
abbrev sAC : Stmt := top 33
abbrev sAns : Stmt := top 34
/-- but for the things at a, at c and at b all stands as it was -/
abbrev But3 (a c b : Addr) (H H' : Hp) : Prop := ∀ d o, H d = some o → d ≠ a → d ≠ c → d ≠ b → H' d = some o
/-- answer_call: the next call is answered by a new list, the show and the reader go on -/
def spAC (K : PySem.W.Frag) (CS CR : Addr) : Sp := fun vs H Q _ => ∃ (a b pc l : Addr) (os : List Addr) (s : Show) (i : Nat) (ns t : List Int) (c : Uw44.Call), vs = [.ref a, .ref b] ∧ ShowAt CS H a pc os s ∧ Fine s ∧ RdAt CR H b l i ∧ SqL K H l (vz ns) ∧
  Told (ns.drop i) c t ∧
  ∀ (H' : Hp) (pc' p : Addr) (os' : List Addr) (j : Nat), ShowAt CS H' a pc' os' (Uw44.step s c).1 → (pc' = pc ∨ H pc' = none) → (∀ x ∈ os', x ∈ os ∨ H x = none) → RdAt CR H' b l j → ns.drop j = t → j ≤ ns.length → But3 a pc b H H' → H p = none → H' p = some (.lst (vz (outs (Uw44.step s c).2))) → Q (.ref p) H'
def spAns (K : PySem.W.Frag) : Sp := fun vs H Q _ => ∃ (a : Addr) (ns : List Int), vs = [.ref a] ∧ SqL K H a (vz ns) ∧ PyUw44.answers_asked ns = true ∧
  ∀ (H' : Hp) (p : Addr), H' p = some (.lst (vz (PyUw44.answers ns))) → Q (.ref p) H'
theorem ShowAt.has {C : Addr} {H : Hp} {a pc : Addr} {os : List Addr} {s : Show} (h : ShowAt C H a pc os s) {x : Addr} (hx : x ∈ os) : ∃ o, H x = some o := by
  obtain ⟨dx, pf, pw, rs, rfl, h1, h2, h3, h4, h5, _⟩ := h
  rcases List.mem_cons.mp hx with z | hx
  · exact ⟨_, by rw [z]; exact h2⟩
  rcases List.mem_cons.mp hx with z | hx
  · exact ⟨_, by rw [z]; exact h3⟩
  obtain ⟨i, hi, e⟩ := List.mem_iff_getElem.mp hx
  have e' : rs[i]? = some x := by rw [List.getElem?_eq_getElem hi, e]
  have hi' : i < s.box.cams.length := by rw [← h5.len]; exact hi
  obtain ⟨r, g1, g2⟩ := h5.row i _ (List.getElem?_eq_getElem hi')
  rw [e'] at g1
  cases g1
  exact ⟨_, g2⟩
theorem ShowAt.but {C : Addr} {H H' : Hp} {a pc g : Addr} {os : List Addr} {s : Show} (h : ShowAt C H a pc os s) (k : ∀ d o, H d = some o → d ≠ g → H' d = some o) (ga : a ≠ g) (gp : g ≠ pc) (go : g ∉ os) : ShowAt C H' a pc os s := by
  obtain ⟨dx, pf, pw, rs, rfl, h1, h2, h3, h4, h5, h6⟩ := h
  refine ⟨dx, pf, pw, rs, rfl, k _ _ h1 ga, k _ _ h2 fun z => ?_, k _ _ h3 fun z => ?_, k _ _ h4 (Ne.symm gp), h5.keep fun r hr o e => k r o e fun z => ?_, h6⟩
  · exact go (by rw [← z]; exact List.mem_cons_self)
  · exact go (by rw [← z]; exact List.mem_cons_of_mem _ List.mem_cons_self)
  · exact go (by rw [← z]; exact List.mem_cons_of_mem _ (List.mem_cons_of_mem _ hr))
theorem told_shorter {l t : List Int} {c : Uw44.Call} (h : Told l c t) : t.length < l.length := by
  cases h <;> simp only [List.length_cons, List.length_append] <;> omega
theorem seq_keep {K : PySem.W.Frag} {H H' : Hp} {l : Addr} {xs : List V} (h : SqL K H l xs) (k : ∀ o, H l = some o → H' l = some o) : SqL K H' l xs := by
  rcases h with (h | ⟨o, h⟩) | h
  · exact .inl (.inl (k _ h))
  · exact .inl (.inr ⟨o, k _ h⟩)
  · exact .inr h
/-- what holds between two turns of the loop over the calls -/
def AnsInv (CS CR l a b g : Addr) (H : Hp) (ns : List Int) (m : Nat) (σ : L2.St) (H' : Hp) : Prop :=
  ∃ (s : Show) (pc : Addr) (os : List Addr) (i : Nat) (gs o : List Int) (v4 : Option V), m = ns.length - i ∧ i ≤ ns.length ∧ σ = [some (.ref l), some (.ref a), some (.ref b), some (.ref g), v4] ∧ Same H H' ∧ ShowAt CS H' a pc os s ∧ Fine s ∧ H pc = none ∧ g ≠ pc ∧ g ∉ os ∧
      RdAt CR H' b l i ∧ H' g = some (.lst (vz gs)) ∧ Due s (ns.drop i) o ∧ gs ++ o = PyUw44.answers ns
section
variable {P : Program} {w : World} {K : PySem.W.Frag} {mg : Str → Option Value} {base : Heap} {CS CR : Addr}
theorem scAns : FnScope ["calls", "show", "reader", "given", "answer"] ["calls"] (defScope sAns) := ⟨rfl, rfl, rfl, by decide +kernel, rfl, by decide +kernel, by decide +kernel⟩
theorem ok_ans {f fA fSI fRI fM : Addr} {fd fdA fdSI fdRI fdM : FuncData} (F : Fun K "answers" "answers" sAns f fd) (TS : TxtS K mg CS) (TR : TxtR K mg CR) (G : TxtG mg)
    (MS : Mk K CS fSI) (GSI : FnOk P w K mg base CX0 2 fSI fdSI ["self"] (spSInit CS)) (bSI : Binds K fdSI ["self"] [])
    (MR : Mk K CR fRI) (GRI : FnOk P w K mg base CX0 1 fRI fdRI ["self", "calls"] (spRInit CR)) (bRI : Binds K fdRI ["self", "calls"] [])
    (GM : FnOk P w K mg base CX0 1 fM fdM ["self"] (spMore K CR)) (bM : Binds K fdM ["self"] []) (mM : Meth K CR "has_more" fM)
    {kA : Nat} (GA : FnOk P w K mg base CX0 (kA + 3) fA fdA ["show", "reader"] (spAC K CS CR)) (bA : Binds K fdA ["show", "reader"] []) (gA : mg "answer_call" = some (.ref fA)) (kpA : PySem.W.keepIn K (.ref fA) = true) :
    FnOk P w K mg base CX0 (kA + 4) f fd ["calls"] (spAns K) := by
  refine F.ok scAns (fun vs H Q E h => ?_) (fun cdv A outer s H vs Q E hr h => ?_)
  · obtain ⟨a, ns, rfl, _⟩ := h
    rfl
  · obtain ⟨l, ns, rfl, hl, hask, k⟩ := h
    obtain ⟨due, hlen⟩ := asked_due hask
    refine ⟨_, pss_cons (ps_set (i := 1) scAns.nd rfl (Or.inl rfl) (pe_make0 MS GSI (hr.mono (by omega)) rfl TS.gC bSI .nil pass0))
      (pss_cons (ps_set (i := 2) scAns.nd rfl (Or.inl rfl) (pe_make MR GRI (hr.mono (by omega)) rfl TR.gC bRI .nil pass0 (pa_cons (pv 0) pa_nil)))
      (pss_cons (ps_set (i := 3) scAns.nd rfl (Or.inl rfl) (pe_lst pa_nil))
      (pss_cons (ps_while PassesOwn.never (pt_val (pe_meth0 (pv 2) TR.cl mM GM (hr.mono (by omega)) bM .nil pass0))
        (pss_cons (ps_set (i := 4) scAns.nd rfl (Or.inl rfl) (pe_call GA hr rfl gA kpA bA .nil pass0 (pa_cons (pv 1) (pa_cons (pv 2) pa_nil))))
        (pss_cons (ps_expr (pe_bm PySem.F.plainAttrs_list PySem.F.slot_list_append PySem.F.type_list_append mt_append (pv 3) (pa_cons (pe_callB call_len_seq (by rfl) G.len PySem.boot_len (pa_cons (pv 4) pa_nil)) pa_nil)))
        (pss_one (ps_expr (pe_bm PySem.F.plainAttrs_list PySem.F.slot_list_extend PySem.F.type_list_extend mt_extend (pv 3) (pa_cons (pv 4) pa_nil)))))))
      (pss_one (ps_ret (pv 3)))))), ?_⟩
    -- show = Show()
    intro a da na nda nea
    refine ⟨a, da, rfl, upd_same, fun H1 pc0 os0 hS1 hpc0 ho0 k1 => ⟨rfl, ?_⟩⟩
    have s1 : Same H H1 := Same.made na nda k1
    have hpc : H pc0 = none := by
      cases z : H pc0 with
      | none => rfl
      | some o =>
        rw [upd_ne (ne_of_none z na), upd_ne (ne_of_none z nda), z] at hpc0
        cases hpc0
    -- reader = Reader(calls)
    refine ⟨_, rfl, fun b db nb ndb neb => ?_⟩
    refine ⟨b, db, l, rfl, upd_same, fun H2 hR2 k2 => ⟨rfl, ?_⟩⟩
    have s2 : Same H1 H2 := Same.made nb ndb k2
    -- given = []
    refine ⟨(by show 0 ≤ sizeLine; decide), fun g hg => ?_⟩
    have s3 : Same H2 (upd H2 g (.lst [])) := same_new hg
    have s13 : Same H (upd H2 g (.lst [])) := s1.trans (s2.trans s3)
    have hR3 : RdAt CR (upd H2 g (.lst [])) b l 0 := by
      obtain ⟨d, e⟩ := hR2
      exact ⟨d, s3 _ _ e⟩
    have fb : H b = none := s1.free nb
    have fg : H g = none := (s1.trans s2).free hg
    refine ⟨AnsInv CS CR l a b g H ns,
      ⟨ns.length - 0, Uw44.init, pc0, os0, 0, [], PyUw44.answers ns, none, rfl, Nat.zero_le _, rfl, s13, (hS1.keep s2).keep s3, fine_init, hpc, ?_, ?_, hR3, upd_same, due, rfl⟩, ?_⟩
    · intro z
      obtain ⟨_, _, _, _, _, _, _, _, e, _⟩ := hS1
      rw [← z] at e
      rw [s2 _ _ e] at hg
      cases hg
    · intro z
      obtain ⟨o, e⟩ := hS1.has z
      rw [s2 _ _ e] at hg
      cases hg
    rintro m σ H' ⟨s, pc, os, i, gs, o, v4, rfl, hi, rfl, sH, hS, fs, fpc, ngpc, ngos, hR, hg', hD, he⟩
    obtain ⟨dr, hr'⟩ := id hR
    refine ⟨_, rfl, b, dr, _, rfl, hr', rF_no (by decide +kernel) (by decide +kernel) l i, ?_⟩
    refine ⟨b, l, i, ns, rfl, hR, sH.seq hl, _, rfl, ?_⟩
    by_cases c : i < ns.length
    · refine if_true_of (decide_eq_true c) ?_
      have hDl : ns.drop i ≠ [] := fun z => by
        have := congrArg List.length z
        rw [List.length_drop] at this
        have z0 : ([] : List Int).length = 0 := rfl
        omega
      generalize hrest : ns.drop i = rest at hD hDl
      cases hD with
      | nil => exact absurd rfl hDl
      | @turn _ _ cl t o' ht hd =>
        have ga : g ≠ a := fun z => by
          obtain ⟨_, _, _, _, _, e, _⟩ := hS
          rw [← z, hg'] at e
          cases e
        have gb : g ≠ b := fun z => by rw [← z, hg'] at hr'; cases hr'
        refine ⟨fun σ' H' => ∃ m', m' < ns.length - i ∧ AnsInv CS CR l a b g H ns m' σ' H', fun _ _ z => z, ?_⟩
        refine ⟨_, rfl, _, rfl, a, b, pc, l, os, s, i, ns, t, cl, rfl, hS, fs, hR, sH.seq hl, hrest ▸ ht, fun H4 pc4 p os4 j hS4 hpc4 hos4 hR4 hj nj k4 hp hp4 => ?_⟩
        have hg4 : H4 g = some (.lst (vz gs)) := k4 g _ hg' ga ngpc gb
        have gp : p ≠ g := fun z => by rw [z, hg'] at hp; cases hp
        have lenE := congrArg List.length he
        rw [List.length_append, List.length_cons, List.length_append] at lenE
        have eo : (vz (outs (Uw44.step s cl).2)).length = (outs (Uw44.step s cl).2).length := List.length_map ..
        have eg : (vz gs).length = gs.length := List.length_map ..
        have big : 10000000 < sizeLine := by decide
        refine ⟨_, rfl, .inl ⟨rfl, _, SqL.of hg4⟩, _, rfl, p, _, rfl, .inl (SqL.of hp4), g, _, _, rfl, rfl, hg4, by rw [eg]; omega, ?_⟩
        refine ⟨_, rfl, .inl ⟨rfl, _, SqL.of upd_same⟩, _, rfl, g, p, _, _, rfl, rfl, upd_same, (upd_ne gp).trans hp4, ?_, ?_⟩
        · rw [List.length_append, eg, eo]
          show gs.length + 1 + _ ≤ _
          omega
        rw [upd_upd, eo]
        have shorter := told_shorter ht
        have lj := congrArg List.length hj
        rw [List.length_drop] at lj
        rw [← hrest, List.length_drop] at shorter
        have keep : ∀ d o, H4 d = some o → d ≠ g → upd H4 g (.lst (vz gs ++ [V.int ((outs (Uw44.step s cl).2).length : Int)] ++ vz (outs (Uw44.step s cl).2))) d = some o := fun d o e nd => by
          rw [upd_ne nd]
          exact e
        have sH4 : ∀ d o, H d = some o → H4 d = some o := fun d o e => k4 d o (sH d o e) (ne_of_none e na) (ne_of_none e fpc) (ne_of_none e fb)
        have fpc4 : H pc4 = none := by
          rcases hpc4 with z | z
          · rw [z]; exact fpc
          · exact sH.free z
        have gpc4 : g ≠ pc4 := fun z => by
          rcases hpc4 with y | y
          · exact ngpc (z.trans y)
          · rw [← z, hg'] at y; cases y
        have gos4 : g ∉ os4 := fun z => by
          rcases hos4 g z with y | y
          · exact ngos y
          · rw [hg'] at y; cases y
        have ga4 : a ≠ g := Ne.symm ga
        refine ⟨ns.length - j, by omega, (Uw44.step s cl).1, pc4, os4, j, gs ++ (((outs (Uw44.step s cl).2).length : Int) :: outs (Uw44.step s cl).2), o', some (.ref p), rfl, nj, rfl, fun d o e => keep d o (sH4 d o e) (ne_of_none e fg), hS4.but keep ga4 gpc4 gos4, fine_step fs cl, fpc4, gpc4, gos4, ?_, ?_, ?_, ?_⟩
        · obtain ⟨d, e⟩ := hR4
          exact ⟨d, keep _ _ e (Ne.symm gb)⟩
        · rw [upd_same, List.append_assoc]
          show _ = some (HO.lst (List.map V.int (gs ++ _)))
          rw [List.map_append]
          rfl
        · rw [hj]
          exact hd
        · rw [← he, List.append_assoc]
          rfl
    · refine if_false_of (decide_eq_false c) ?_
      have e0 : ns.drop i = [] := List.drop_eq_nil_of_le (by omega)
      rw [e0] at hD
      cases hD with
      | nil =>
        refine ⟨_, rfl, k _ g ?_⟩
        rw [hg', ← he, List.append_nil]
      | turn ht _ => cases ht
end
end Cam
set_option Elab.async false
set_option maxRecDepth 100000
set_option maxHeartbeats 2000000
namespace Cam
open PySem PySem.Spec PyProof.Rows L2
open Uw44 (Show)
theorem drop_cons {ns r : List Int} {i : Nat} {x : Int} (h : ns.drop i = x :: r) : ns[i]? = some x ∧ ns.drop (i + 1) = r ∧ i + 1 ≤ ns.length := by
  refine ⟨?_, ?_, ?_⟩
  · have := congrArg (fun q => q[0]?) h
    simpa using this
  · rw [← List.drop_drop, h]
    rfl
  · have := congrArg List.length h
    rw [List.length_drop, List.length_cons] at this
    omega
theorem row_end {ns t : List Int} {r : List Nat} {i : Nat} {x : Int} (h : ns.drop i = x :: (zs r ++ t)) : ns.drop (i + 1 + r.length) = t ∧ i + 1 + r.length ≤ ns.length := by
  obtain ⟨e7, e8, e9⟩ := drop_cons h
  constructor
  · rw [← List.drop_drop, e8]
    have : r.length = (zs r).length := (List.length_map ..).symm
    rw [this, List.drop_left]
  · have := congrArg List.length e8
    rw [List.length_drop, List.length_append, List.length_map] at this
    omega
theorem vz_zs (l : List Nat) : vz (zs l) = vn l := by
  rw [vz, zs, List.map_map]
  rfl
theorem ShowAt.hasL {C : Addr} {H : Hp} {a pc : Addr} {os : List Addr} {s : Show} (h : ShowAt C H a pc os s) {x : Addr} (hx : x ∈ os) : ∃ l, H x = some (.lst l) := by
  obtain ⟨dx, pf, pw, rs, rfl, h1, h2, h3, h4, h5, _⟩ := h
  rcases List.mem_cons.mp hx with z | hx
  · exact ⟨_, by rw [z]; exact h2⟩
  rcases List.mem_cons.mp hx with z | hx
  · exact ⟨_, by rw [z]; exact h3⟩
  obtain ⟨i, hi, e⟩ := List.mem_iff_getElem.mp hx
  have e' : rs[i]? = some x := by rw [List.getElem?_eq_getElem hi, e]
  have hi' : i < s.box.cams.length := by rw [← h5.len]; exact hi
  obtain ⟨r, g1, g2⟩ := h5.row i _ (List.getElem?_eq_getElem hi')
  rw [e'] at g1
  cases g1
  exact ⟨_, g2⟩
section
variable {CS CR : Addr} {H H2 : Hp} {a b pc l : Addr} {os : List Addr} {s : Show} {i j : Nat}
/-- the reader is no part of the show -/
theorem apart (hS : ShowAt CS H a pc os s) (hR : RdAt CR H b l i) : b ≠ a ∧ b ≠ pc ∧ b ∉ os := by
  obtain ⟨d, hb⟩ := hR
  refine ⟨?_, ?_, fun z => ?_⟩
  · obtain ⟨dx, pf, pw, rs, _, h1, _⟩ := hS
    refine ne_of hb h1 fun z => ?_
    injection z with _ _ z
    have := congrArg List.length z
    cases this
  · obtain ⟨dx, pf, pw, rs, _, _, _, _, h4, _⟩ := hS
    exact ne_of hb h4 (by intro z; cases z)
  · obtain ⟨x, e⟩ := hS.hasL z
    rw [hb] at e
    cases e
theorem free_but (k : But b H H2) (hR : RdAt CR H2 b l j) {x : Addr} (h : H2 x = none) : H x = none := by
  cases z : H x with
  | none => rfl
  | some o =>
    by_cases e : x = b
    · obtain ⟨d, y⟩ := hR
      rw [e, y] at h
      cases h
    · rw [k x o z e] at h
      cases h
/-- the show stands while the reader reads -/
theorem show_but (hS : ShowAt CS H a pc os s) (hR : RdAt CR H b l i) (k : But b H H2) : ShowAt CS H2 a pc os s := by
  obtain ⟨h1, h2, h3⟩ := apart hS hR
  exact hS.but (fun d o e n => k d o e n) (Ne.symm h1) h2 h3
theorem seq_but {K : PySem.W.Frag} {xs : List V} (hl : SqL K H l xs) (hR : RdAt CR H b l i) (k : But b H H2) : SqL K H2 l xs := by
  obtain ⟨d, hb⟩ := hR
  rcases hl with (hl | ⟨o, hl⟩) | hl
  · exact .inl (.inl (k _ _ hl (ne_of hl hb (by intro z; cases z))))
  · exact .inl (.inr ⟨o, k _ _ hl (ne_of hl hb (by intro z; cases z))⟩)
  · exact .inr hl
/-- what is left of answer_call's promise behind the reading -/
theorem after_of {ns t : List Int} {c : Uw44.Call} {Q : VK} {xs : List Addr} (hS : ShowAt CS H a pc os s) (hR : RdAt CR H b l i) (k2 : But b H H2) (hR2 : RdAt CR H2 b l j) (hj : ns.drop j = t) (nj : j ≤ ns.length) (hx : ∀ x ∈ xs, H x = none)
    (k : ∀ (H' : Hp) (pc' p : Addr) (os' : List Addr) (j : Nat), ShowAt CS H' a pc' os' (Uw44.step s c).1 → (pc' = pc ∨ H pc' = none) → (∀ x ∈ os', x ∈ os ∨ H x = none) → RdAt CR H' b l j → ns.drop j = t → j ≤ ns.length → But3 a pc b H H' → H p = none → H' p = some (.lst (vz (outs (Uw44.step s c).2))) → Q (.ref p) H') :
    After CS a pc os xs H2 (Uw44.step s c).1 (outs (Uw44.step s c).2) Q := by
  obtain ⟨h1, h2, h3⟩ := apart hS hR
  intro H' pc' p os' hS' hpc' hos' k' hp hp'
  refine k H' pc' p os' j hS' (hpc'.imp id (free_but k2 hR2)) (fun x hx' => ?_) ?_ hj nj (fun d o e na nc nb => k' d o (k2 d o e nb) na nc) (free_but k2 hR2 hp) hp'
  · rcases hos' x hx' with z | z | z
    · exact .inl z
    · exact .inr (hx x z)
    · exact .inr (free_but k2 hR2 z)
  · obtain ⟨d, e⟩ := hR2
    exact ⟨d, k' _ _ e h1 h2⟩
end
theorem But.trans {b : Addr} {H H1 H2 : Hp} (h : But b H H1) (k : But b H1 H2) : But b H H2 := fun d o e n => k d o (h d o e n) n
/-- the calls' numbers -/
structure TxtN (mg : Str → Option Value) : Prop where
  n0 : ∃ t, mg "BEGINS" = some (.int 0 t)
  n1 : ∃ t, mg "CAM" = some (.int 1 t)
  n2 : ∃ t, mg "WISH" = some (.int 2 t)
  n3 : ∃ t, mg "MOVES" = some (.int 3 t)
  n4 : ∃ t, mg "SUM" = some (.int 4 t)
  n5 : ∃ t, mg "NEAREST" = some (.int 5 t)
  n6 : ∃ t, mg "BEST" = some (.int 6 t)
section
variable {P : Program} {w : World} {K : PySem.W.Frag} {mg : Str → Option Value} {base : Heap} {CS CR : Addr}
theorem scAC : FnScope ["show", "reader", "call", "places"] ["show", "reader"] (defScope sAC) := ⟨rfl, rfl, rfl, by decide +kernel, rfl, by decide +kernel, by decide +kernel⟩
theorem ok_ac {f fN fW f0 f1 f2 f3 f4 f5 f6 : Addr} {fd fdN fdW fd0 fd1 fd2 fd3 fd4 fd5 fd6 : FuncData} (F : Fun K "answer_call" "answer_call" sAC f fd) (TS : TxtS K mg CS) (TR : TxtR K mg CR) (N : TxtN mg)
    (GN : FnOk P w K mg base CX0 1 fN fdN ["self"] (spNumber K CR)) (bN : Binds K fdN ["self"] []) (mN : Meth K CR "number" fN)
    (GW : FnOk P w K mg base CX0 2 fW fdW ["self"] (spRow K CR)) (bW : Binds K fdW ["self"] []) (mW : Meth K CR "row" fW)
    (G0 : FnOk P w K mg base CX0 3 f0 fd0 ["self", "places", "foot"] (spBegins CS)) (b0 : Binds K fd0 ["self", "places", "foot"] []) (m0 : Meth K CS "begins" f0)
    (G1 : FnOk P w K mg base CX0 3 f1 fd1 ["self", "radii"] (spCam CS)) (b1 : Binds K fd1 ["self", "radii"] []) (m1 : Meth K CS "cam" f1)
    (G2 : FnOk P w K mg base CX0 3 f2 fd2 ["self", "heights"] (spWish CS)) (b2 : Binds K fd2 ["self", "heights"] []) (m2 : Meth K CS "wish" f2)
    (G3 : FnOk P w K mg base CX0 3 f3 fd3 ["self", "cam"] (spMoves CS)) (b3 : Binds K fd3 ["self", "cam"] []) (m3 : Meth K CS "moves" f3)
    (G4 : FnOk P w K mg base CX0 4 f4 fd4 ["self", "plan"] (spSum CS)) (b4 : Binds K fd4 ["self", "plan"] []) (m4 : Meth K CS "sum_by" f4)
    (G5 : FnOk P w K mg base CX0 4 f5 fd5 ["self"] (spNearest CS)) (b5 : Binds K fd5 ["self"] []) (m5 : Meth K CS "nearest" f5)
    (G6 : FnOk P w K mg base CX0 4 f6 fd6 ["self"] (spBest CS)) (b6 : Binds K fd6 ["self"] []) (m6 : Meth K CS "best" f6) :
    FnOk P w K mg base CX0 5 f fd ["show", "reader"] (spAC K CS CR) := by
  obtain ⟨t0, g0⟩ := N.n0
  obtain ⟨t1, g1⟩ := N.n1
  obtain ⟨t2, g2⟩ := N.n2
  obtain ⟨t3, g3⟩ := N.n3
  obtain ⟨t4, g4⟩ := N.n4
  obtain ⟨t5, g5⟩ := N.n5
  obtain ⟨t6, g6⟩ := N.n6
  refine F.ok scAC (fun vs H Q E h => ?_) (fun cdv A outer s H vs Q E hr h => ?_)
  · obtain ⟨a, b, pc, l, os, s, i, ns, t, c, rfl, _⟩ := h
    rfl
  · obtain ⟨a, b, pc, l, os, s, i, ns, t, c, rfl, hS, fs, hR, hl, ht, k⟩ := h
    have hr1 : Room 1 _ := hr.mono (by decide)
    have hr2 : Room 2 _ := hr.mono (by decide)
    have hr3 : Room 3 _ := hr.mono (by decide)
    refine ⟨_, pss_cons (ps_set (i := 2) scAC.nd rfl (Or.inl rfl) (pe_meth0 (pv 1) TR.cl mN GN hr1 bN .nil pass0))
      (pss_cons (ps_if (pt_cmpR op_eq (pv 2) (pe_glob rfl g0 rel_int) (nomark _))
        (pss_cons (ps_set (i := 3) scAC.nd rfl (Or.inl rfl) (pe_meth0 (pv 1) TR.cl mN GN hr1 bN .nil pass0))
          (pss_one (ps_ret (pe_meth (pv 0) TS.cl m0 G0 hr3 b0 .nil pass0 (pa_cons (pv 3) (pa_cons (pe_meth0 (pv 1) TR.cl mW GW hr2 bW .nil pass0) pa_nil)))))) pss_nil)
      (pss_cons (ps_if (pt_cmpR op_eq (pv 2) (pe_glob rfl g1 rel_int) (nomark _))
        (pss_one (ps_ret (pe_meth (pv 0) TS.cl m1 G1 hr3 b1 .nil pass0 (pa_cons (pe_meth0 (pv 1) TR.cl mW GW hr2 bW .nil pass0) pa_nil)))) pss_nil)
      (pss_cons (ps_if (pt_cmpR op_eq (pv 2) (pe_glob rfl g2 rel_int) (nomark _))
        (pss_one (ps_ret (pe_meth (pv 0) TS.cl m2 G2 hr3 b2 .nil pass0 (pa_cons (pe_meth0 (pv 1) TR.cl mW GW hr2 bW .nil pass0) pa_nil)))) pss_nil)
      (pss_cons (ps_if (pt_cmpR op_eq (pv 2) (pe_glob rfl g3 rel_int) (nomark _))
        (pss_one (ps_ret (pe_meth (pv 0) TS.cl m3 G3 hr3 b3 .nil pass0 (pa_cons (pe_meth0 (pv 1) TR.cl mN GN hr1 bN .nil pass0) pa_nil)))) pss_nil)
      (pss_cons (ps_if (pt_cmpR op_eq (pv 2) (pe_glob rfl g4 rel_int) (nomark _))
        (pss_one (ps_ret (pe_meth (pv 0) TS.cl m4 G4 hr b4 .nil pass0 (pa_cons (pe_meth0 (pv 1) TR.cl mW GW hr2 bW .nil pass0) pa_nil)))) pss_nil)
      (pss_cons (ps_if (pt_cmpR op_eq (pv 2) (pe_glob rfl g5 rel_int) (nomark _))
        (pss_one (ps_ret (pe_meth0 (pv 0) TS.cl m5 G5 hr b5 .nil pass0))) pss_nil)
      (pss_cons (ps_if (pt_cmpR op_eq (pv 2) (pe_glob rfl g6 rel_int) (nomark _))
        (pss_one (ps_ret (pe_meth0 (pv 0) TS.cl m6 G6 hr b6 .nil pass0))) pss_nil)
      (pss_one ps_never)))))))), ?_⟩
    obtain ⟨x0, rest, hrest⟩ : ∃ x r, ns.drop i = x :: r := by
      cases e : ns.drop i with
      | nil => rw [e] at ht; cases ht
      | cons x r => exact ⟨x, r, rfl⟩
    obtain ⟨e1, e2, e3⟩ := drop_cons hrest
    rw [hrest] at ht
    obtain ⟨dr, hr'⟩ := id hR
    refine ⟨_, rfl, b, dr, _, rfl, hr', rF_no (by decide +kernel) (by decide +kernel) l i, ?_⟩
    refine ⟨b, l, i, ns, x0, rfl, hR, hl, e1, fun H1 hR1 k1 => ?_⟩
    have hS1 := show_but hS hR k1
    have hl1 := seq_but hl hR k1
    obtain ⟨d1, hr1'⟩ := id hR1
    obtain ⟨ds, pf, pw, rs, _, hs1, _⟩ := id hS1
    refine ⟨_, rfl, rfl, _, rfl, ?_⟩
    cases ht with
    | begins n f t hn hf hf2 =>
      refine if_true_of (eq_int_true rfl) ?_
      obtain ⟨e4, e5, e6⟩ := drop_cons e2
      refine ⟨_, rfl, b, d1, _, rfl, hr1', rF_no (by decide +kernel) (by decide +kernel) l _, ?_⟩
      refine ⟨b, l, i + 1, ns, (n : Int), rfl, hR1, hl1, e4, fun H2 hR2 k2 => ?_⟩
      have hS2 := show_but hS1 hR1 k2
      have hl2 := seq_but hl1 hR1 k2
      obtain ⟨d2, hr2'⟩ := id hR2
      obtain ⟨ds2, pf2, pw2, rs2, _, hs2, _⟩ := id hS2
      refine ⟨_, rfl, a, ds2, _, rfl, hs2, sF_no (by decide +kernel) (by decide +kernel) (by decide +kernel) (by decide +kernel), _, rfl, ?_⟩
      refine ⟨_, rfl, b, d2, _, rfl, hr2', rF_no (by decide +kernel) (by decide +kernel) l _, ?_⟩
      refine ⟨b, l, i + 1 + 1, f.length, ns, zs f, t, rfl, hR2, hl2, e5, List.length_map .., fun H3 q hR3 k3 hq hq3 => ?_⟩
      have hS3 := show_but hS2 hR2 k3
      have k03 := (k1.trans k2).trans k3
      obtain ⟨ej, nj⟩ := row_end e5
      refine ⟨a, pc, q, os, s, n, f, rfl, hS3, by rw [hq3, vz_zs], by omega, ?_⟩
      exact after_of hS hR k03 hR3 ej nj (fun x hx => by rw [List.mem_singleton.mp hx]; exact free_but (k1.trans k2) hR2 hq) k
    | cam r t hr12 hf2 =>
      refine if_false_of (eq_int_false (by decide)) ?_
      refine ⟨_, rfl, rfl, _, rfl, if_true_of (eq_int_true rfl) ?_⟩
      refine ⟨_, rfl, a, ds, _, rfl, hs1, sF_no (by decide +kernel) (by decide +kernel) (by decide +kernel) (by decide +kernel), ?_⟩
      refine ⟨_, rfl, b, d1, _, rfl, hr1', rF_no (by decide +kernel) (by decide +kernel) l _, ?_⟩
      refine ⟨b, l, i + 1, r.length, ns, zs r, t, rfl, hR1, hl1, e2, List.length_map .., fun H3 q hR3 k3 hq hq3 => ?_⟩
      have hS3 := show_but hS1 hR1 k3
      obtain ⟨ej, nj⟩ := row_end e2
      refine ⟨a, pc, q, os, s, r, rfl, hS3, fs, by rw [hq3, vz_zs], ?_, hr12, ?_⟩
      · obtain ⟨_, _, _, _, _, _, _, _, z, _⟩ := hS1
        exact Ne.symm (ne_of_none z hq)
      · exact after_of hS hR (k1.trans k3) hR3 ej nj (fun x hx => by rw [List.mem_singleton.mp hx]; exact free_but k1 hR1 hq) k
    | wish r t hr12 hf2 =>
      refine if_false_of (eq_int_false (by decide)) ?_
      refine ⟨_, rfl, rfl, _, rfl, if_false_of (eq_int_false (by decide)) ?_⟩
      refine ⟨_, rfl, rfl, _, rfl, if_true_of (eq_int_true rfl) ?_⟩
      refine ⟨_, rfl, a, ds, _, rfl, hs1, sF_no (by decide +kernel) (by decide +kernel) (by decide +kernel) (by decide +kernel), ?_⟩
      refine ⟨_, rfl, b, d1, _, rfl, hr1', rF_no (by decide +kernel) (by decide +kernel) l _, ?_⟩
      refine ⟨b, l, i + 1, r.length, ns, zs r, t, rfl, hR1, hl1, e2, List.length_map .., fun H3 q hR3 k3 hq hq3 => ?_⟩
      have hS3 := show_but hS1 hR1 k3
      obtain ⟨ej, nj⟩ := row_end e2
      refine ⟨a, pc, q, os, s, r, rfl, hS3, by rw [hq3, vz_zs], ?_, hr12, ?_⟩
      · obtain ⟨_, _, _, _, _, _, _, _, z, _⟩ := hS1
        exact Ne.symm (ne_of_none z hq)
      · exact after_of hS hR (k1.trans k3) hR3 ej nj (fun x hx => by rw [List.mem_singleton.mp hx]; exact free_but k1 hR1 hq) k
    | moves m t hm =>
      refine if_false_of (eq_int_false (by decide)) ?_
      refine ⟨_, rfl, rfl, _, rfl, if_false_of (eq_int_false (by decide)) ?_⟩
      refine ⟨_, rfl, rfl, _, rfl, if_false_of (eq_int_false (by decide)) ?_⟩
      refine ⟨_, rfl, rfl, _, rfl, if_true_of (eq_int_true rfl) ?_⟩
      obtain ⟨e4, e5, e6⟩ := drop_cons e2
      refine ⟨_, rfl, a, ds, _, rfl, hs1, sF_no (by decide +kernel) (by decide +kernel) (by decide +kernel) (by decide +kernel), ?_⟩
      refine ⟨_, rfl, b, d1, _, rfl, hr1', rF_no (by decide +kernel) (by decide +kernel) l _, ?_⟩
      refine ⟨b, l, i + 1, ns, (m : Int), rfl, hR1, hl1, e4, fun H2 hR2 k2 => ?_⟩
      have hS2 := show_but hS1 hR1 k2
      refine ⟨a, pc, os, s, m, rfl, hS2, fs, ?_⟩
      exact after_of hS hR (k1.trans k2) hR2 e5 e6 (fun x hx => nomatch hx) k
    | sum r t hr12 hf2 =>
      refine if_false_of (eq_int_false (by decide)) ?_
      refine ⟨_, rfl, rfl, _, rfl, if_false_of (eq_int_false (by decide)) ?_⟩
      refine ⟨_, rfl, rfl, _, rfl, if_false_of (eq_int_false (by decide)) ?_⟩
      refine ⟨_, rfl, rfl, _, rfl, if_false_of (eq_int_false (by decide)) ?_⟩
      refine ⟨_, rfl, rfl, _, rfl, if_true_of (eq_int_true rfl) ?_⟩
      refine ⟨_, rfl, a, ds, _, rfl, hs1, sF_no (by decide +kernel) (by decide +kernel) (by decide +kernel) (by decide +kernel), ?_⟩
      refine ⟨_, rfl, b, d1, _, rfl, hr1', rF_no (by decide +kernel) (by decide +kernel) l _, ?_⟩
      refine ⟨b, l, i + 1, r.length, ns, zs r, t, rfl, hR1, hl1, e2, List.length_map .., fun H3 q hR3 k3 hq hq3 => ?_⟩
      have hS3 := show_but hS1 hR1 k3
      obtain ⟨ej, nj⟩ := row_end e2
      refine ⟨a, pc, q, os, s, r, rfl, hS3, fs, by rw [hq3, vz_zs], hr12, ?_⟩
      exact after_of hS hR (k1.trans k3) hR3 ej nj (fun x hx => nomatch hx) k
    | nearest t =>
      refine if_false_of (eq_int_false (by decide)) ?_
      refine ⟨_, rfl, rfl, _, rfl, if_false_of (eq_int_false (by decide)) ?_⟩
      refine ⟨_, rfl, rfl, _, rfl, if_false_of (eq_int_false (by decide)) ?_⟩
      refine ⟨_, rfl, rfl, _, rfl, if_false_of (eq_int_false (by decide)) ?_⟩
      refine ⟨_, rfl, rfl, _, rfl, if_false_of (eq_int_false (by decide)) ?_⟩
      refine ⟨_, rfl, rfl, _, rfl, if_true_of (eq_int_true rfl) ?_⟩
      refine ⟨_, rfl, a, ds, _, rfl, hs1, sF_no (by decide +kernel) (by decide +kernel) (by decide +kernel) (by decide +kernel), ?_⟩
      refine ⟨a, pc, os, s, rfl, hS1, fs, ?_⟩
      exact after_of hS hR k1 hR1 e2 e3 (fun x hx => nomatch hx) k
    | best t =>
      refine if_false_of (eq_int_false (by decide)) ?_
      refine ⟨_, rfl, rfl, _, rfl, if_false_of (eq_int_false (by decide)) ?_⟩
      refine ⟨_, rfl, rfl, _, rfl, if_false_of (eq_int_false (by decide)) ?_⟩
      refine ⟨_, rfl, rfl, _, rfl, if_false_of (eq_int_false (by decide)) ?_⟩
      refine ⟨_, rfl, rfl, _, rfl, if_false_of (eq_int_false (by decide)) ?_⟩
      refine ⟨_, rfl, rfl, _, rfl, if_false_of (eq_int_false (by decide)) ?_⟩
      refine ⟨_, rfl, rfl, _, rfl, if_true_of (eq_int_true rfl) ?_⟩
      refine ⟨_, rfl, a, ds, _, rfl, hs1, sF_no (by decide +kernel) (by decide +kernel) (by decide +kernel) (by decide +kernel), ?_⟩
      refine ⟨a, pc, os, s, rfl, hS1, fs, ?_⟩
      exact after_of hS hR k1 hR1 e2 e3 (fun x hx => nomatch hx) k
end
end Cam
set_option Elab.async false
set_option maxRecDepth 100000
set_option maxHeartbeats 2000000
namespace Cam
open PySem PySem.Spec PyProof.Rows L2
open PySem.W (Codec)
theorem all_mk {P : Program} {w : World} {K : PySem.W.Frag} {h : Heap} {mg : Str → Option Value} {fa CR CS fRI fRM fRN fRR fSI fSA fSB fSC fSW fSM fSU fSN fSE fSR fSO fNA fIF fFP fRF fHO fMO fRU fCF fSH fTO fOP fNH fCO fEP fAO fAC fAN : Addr} (X : K.In h) (G : h.Ns mainGlobals mg) (hfa : mg "answers" = some (.ref fa))
    {odRI odRM odRN odRR odSI odSA odSB odSC odSW odSM odSU odSN odSE odSR odSO odNA odIF odFP odRF odHO odMO odRU odCF odSH odTO odOP odNH odCO odEP odAO odAC odAN anRI anRM anRN anRR anSI anSA anSB anSC anSW anSM anSU anSN anSE anSR anSO anNA anIF anFP anRF anHO anMO anRU anCF anSH anTO anOP anNH anCO anEP anAO anAC anAN : Option Addr} {slRI slRM slRN slRR slSI slSA slSB slSC slSW slSM slSU slSN slSE slSR slSO slNA slIF slFP slRF slHO slMO slRU slCF slSH slTO slOP slNH slCO slEP slAO slAC slAN : Array (Option Value)} {ocRI ocRM ocRN ocRR ocSI ocSA ocSB ocSC ocSW ocSM ocSU ocSN ocSE ocSR ocSO ocNA ocIF ocFP ocRF ocHO ocMO ocRU ocCF ocSH ocTO ocOP ocNH ocCO ocEP ocAO ocAC ocAN kVRI kVRM kVRN kVRR kVSI kVSA kVSB kVSC kVSW kVSM kVSU kVSN kVSE kVSR kVSO kVNA kVIF kVFP kVRF kVHO kVMO kVRU kVCF kVSH kVTO kVOP kVNH kVCO kVEP kVAO kVAC kVAN dcRI dcRM dcRN dcRR dcSI dcSA dcSB dcSC dcSW dcSM dcSU dcSN dcSE dcSR dcSO dcNA dcIF dcFP dcRF dcHO dcMO dcRU dcCF dcSH dcTO dcOP dcNH dcCO dcEP dcAO dcAC dcAN pmRI pmRM pmRN pmRR pmSI pmSA pmSB pmSC pmSW pmSM pmSU pmSN pmSE pmSR pmSO pmNA pmIF pmFP pmRF pmHO pmMO pmRU pmCF pmSH pmTO pmOP pmNH pmCO pmEP pmAO pmAC pmAN cdRI cdRM cdRN cdRR cdSI cdSA cdSB cdSC cdSW cdSM cdSU cdSN cdSE cdSR cdSO cdNA cdIF cdFP cdRF cdHO cdMO cdRU cdCF cdSH cdTO cdOP cdNH cdCO cdEP cdAO cdAC cdAN ctRI ctRM ctRN ctRR ctSI ctSA ctSB ctSC ctSW ctSM ctSU ctSN ctSE ctSR ctSO ctNA ctIF ctFP ctRF ctHO ctMO ctRU ctCF ctSH ctTO ctOP ctNH ctCO ctEP ctAO ctAC ctAN : Value} {t_FEWEST_PLACES t_MOST_PLACES t_MOST_CAMS t_LONGEST_FOOT t_GREATEST_LIFT t_GREATEST_RADIUS t_GREATEST_HEIGHT t_BEGINS t_CAM t_WISH t_MOVES t_SUM t_NEAREST t_BEST : Tok}
    (aCR : PySem.W.nsIn K mainGlobals "Reader" = some (some (.ref CR)))
    (pgR : PySem.W.plainGet K CR Str.empty = true)
    (hdR : PySem.W.hasDictIn K CR = true)
    (poR : PySem.W.plainOver K CR = true)
    (saR : PySem.W.findIn K (.ref CR) "__setattr__" = some (some (.builtin "object.__setattr__")))
    (mkR : PySem.W.makesIn K CR = true)
    (kcR : PySem.W.keepIn K (.ref CR) = true)
    (nR_calls : PySem.W.findIn K (.ref CR) "calls" = some none)
    (nR_at : PySem.W.findIn K (.ref CR) "at" = some none)
    (aCS : PySem.W.nsIn K mainGlobals "Show" = some (some (.ref CS)))
    (pgS : PySem.W.plainGet K CS Str.empty = true)
    (hdS : PySem.W.hasDictIn K CS = true)
    (poS : PySem.W.plainOver K CS = true)
    (saS : PySem.W.findIn K (.ref CS) "__setattr__" = some (some (.builtin "object.__setattr__")))
    (mkS : PySem.W.makesIn K CS = true)
    (kcS : PySem.W.keepIn K (.ref CS) = true)
    (nS_places : PySem.W.findIn K (.ref CS) "places" = some none)
    (nS_foot : PySem.W.findIn K (.ref CS) "foot" = some none)
    (nS_cams : PySem.W.findIn K (.ref CS) "cams" = some none)
    (nS_wished : PySem.W.findIn K (.ref CS) "wished" = some none)
    (aRI : PySem.W.findIn K (.ref CR) "__init__" = some (some (.ref fRI)))
    (iRI : PySem.W.isFn K (.ref fRI) = true)
    (lRI : K.lookup fRI = some ⟨ocRI, odRI, .func (PySem.W.fnOf "__init__" "Reader.__init__" (defArgs sRInit) (defBody sRInit) (defScope sRInit) .none kVRI dcRI pmRI anRI cdRI ctRI), slRI⟩)
    (cRI : PySem.W.codeIn K cdRI "Reader.__init__" = true)
    (kRI : PySem.W.keepIn K (.ref fRI) = true)
    (aRM : PySem.W.findIn K (.ref CR) "has_more" = some (some (.ref fRM)))
    (iRM : PySem.W.isFn K (.ref fRM) = true)
    (lRM : K.lookup fRM = some ⟨ocRM, odRM, .func (PySem.W.fnOf "has_more" "Reader.has_more" (defArgs sMore) (defBody sMore) (defScope sMore) .none kVRM dcRM pmRM anRM cdRM ctRM), slRM⟩)
    (cRM : PySem.W.codeIn K cdRM "Reader.has_more" = true)
    (kRM : PySem.W.keepIn K (.ref fRM) = true)
    (aRN : PySem.W.findIn K (.ref CR) "number" = some (some (.ref fRN)))
    (iRN : PySem.W.isFn K (.ref fRN) = true)
    (lRN : K.lookup fRN = some ⟨ocRN, odRN, .func (PySem.W.fnOf "number" "Reader.number" (defArgs sNumber) (defBody sNumber) (defScope sNumber) .none kVRN dcRN pmRN anRN cdRN ctRN), slRN⟩)
    (cRN : PySem.W.codeIn K cdRN "Reader.number" = true)
    (kRN : PySem.W.keepIn K (.ref fRN) = true)
    (aRR : PySem.W.findIn K (.ref CR) "row" = some (some (.ref fRR)))
    (iRR : PySem.W.isFn K (.ref fRR) = true)
    (lRR : K.lookup fRR = some ⟨ocRR, odRR, .func (PySem.W.fnOf "row" "Reader.row" (defArgs sRow) (defBody sRow) (defScope sRow) .none kVRR dcRR pmRR anRR cdRR ctRR), slRR⟩)
    (cRR : PySem.W.codeIn K cdRR "Reader.row" = true)
    (kRR : PySem.W.keepIn K (.ref fRR) = true)
    (aSI : PySem.W.findIn K (.ref CS) "__init__" = some (some (.ref fSI)))
    (iSI : PySem.W.isFn K (.ref fSI) = true)
    (lSI : K.lookup fSI = some ⟨ocSI, odSI, .func (PySem.W.fnOf "__init__" "Show.__init__" (defArgs sSInit) (defBody sSInit) (defScope sSInit) .none kVSI dcSI pmSI anSI cdSI ctSI), slSI⟩)
    (cSI : PySem.W.codeIn K cdSI "Show.__init__" = true)
    (kSI : PySem.W.keepIn K (.ref fSI) = true)
    (aSA : PySem.W.findIn K (.ref CS) "start_anew" = some (some (.ref fSA)))
    (iSA : PySem.W.isFn K (.ref fSA) = true)
    (lSA : K.lookup fSA = some ⟨ocSA, odSA, .func (PySem.W.fnOf "start_anew" "Show.start_anew" (defArgs sAnew) (defBody sAnew) (defScope sAnew) .none kVSA dcSA pmSA anSA cdSA ctSA), slSA⟩)
    (cSA : PySem.W.codeIn K cdSA "Show.start_anew" = true)
    (kSA : PySem.W.keepIn K (.ref fSA) = true)
    (aSB : PySem.W.findIn K (.ref CS) "begins" = some (some (.ref fSB)))
    (iSB : PySem.W.isFn K (.ref fSB) = true)
    (lSB : K.lookup fSB = some ⟨ocSB, odSB, .func (PySem.W.fnOf "begins" "Show.begins" (defArgs sBegins) (defBody sBegins) (defScope sBegins) .none kVSB dcSB pmSB anSB cdSB ctSB), slSB⟩)
    (cSB : PySem.W.codeIn K cdSB "Show.begins" = true)
    (kSB : PySem.W.keepIn K (.ref fSB) = true)
    (aSC : PySem.W.findIn K (.ref CS) "cam" = some (some (.ref fSC)))
    (iSC : PySem.W.isFn K (.ref fSC) = true)
    (lSC : K.lookup fSC = some ⟨ocSC, odSC, .func (PySem.W.fnOf "cam" "Show.cam" (defArgs sCam) (defBody sCam) (defScope sCam) .none kVSC dcSC pmSC anSC cdSC ctSC), slSC⟩)
    (cSC : PySem.W.codeIn K cdSC "Show.cam" = true)
    (kSC : PySem.W.keepIn K (.ref fSC) = true)
    (aSW : PySem.W.findIn K (.ref CS) "wish" = some (some (.ref fSW)))
    (iSW : PySem.W.isFn K (.ref fSW) = true)
    (lSW : K.lookup fSW = some ⟨ocSW, odSW, .func (PySem.W.fnOf "wish" "Show.wish" (defArgs sWish) (defBody sWish) (defScope sWish) .none kVSW dcSW pmSW anSW cdSW ctSW), slSW⟩)
    (cSW : PySem.W.codeIn K cdSW "Show.wish" = true)
    (kSW : PySem.W.keepIn K (.ref fSW) = true)
    (aSM : PySem.W.findIn K (.ref CS) "moves" = some (some (.ref fSM)))
    (iSM : PySem.W.isFn K (.ref fSM) = true)
    (lSM : K.lookup fSM = some ⟨ocSM, odSM, .func (PySem.W.fnOf "moves" "Show.moves" (defArgs sMoves) (defBody sMoves) (defScope sMoves) .none kVSM dcSM pmSM anSM cdSM ctSM), slSM⟩)
    (cSM : PySem.W.codeIn K cdSM "Show.moves" = true)
    (kSM : PySem.W.keepIn K (.ref fSM) = true)
    (aSU : PySem.W.findIn K (.ref CS) "sum_by" = some (some (.ref fSU)))
    (iSU : PySem.W.isFn K (.ref fSU) = true)
    (lSU : K.lookup fSU = some ⟨ocSU, odSU, .func (PySem.W.fnOf "sum_by" "Show.sum_by" (defArgs sSum) (defBody sSum) (defScope sSum) .none kVSU dcSU pmSU anSU cdSU ctSU), slSU⟩)
    (cSU : PySem.W.codeIn K cdSU "Show.sum_by" = true)
    (kSU : PySem.W.keepIn K (.ref fSU) = true)
    (aSN : PySem.W.findIn K (.ref CS) "nearest" = some (some (.ref fSN)))
    (iSN : PySem.W.isFn K (.ref fSN) = true)
    (lSN : K.lookup fSN = some ⟨ocSN, odSN, .func (PySem.W.fnOf "nearest" "Show.nearest" (defArgs sNearest) (defBody sNearest) (defScope sNearest) .none kVSN dcSN pmSN anSN cdSN ctSN), slSN⟩)
    (cSN : PySem.W.codeIn K cdSN "Show.nearest" = true)
    (kSN : PySem.W.keepIn K (.ref fSN) = true)
    (aSE : PySem.W.findIn K (.ref CS) "best" = some (some (.ref fSE)))
    (iSE : PySem.W.isFn K (.ref fSE) = true)
    (lSE : K.lookup fSE = some ⟨ocSE, odSE, .func (PySem.W.fnOf "best" "Show.best" (defArgs sBest) (defBody sBest) (defScope sBest) .none kVSE dcSE pmSE anSE cdSE ctSE), slSE⟩)
    (cSE : PySem.W.codeIn K cdSE "Show.best" = true)
    (kSE : PySem.W.keepIn K (.ref fSE) = true)
    (aSR : PySem.W.findIn K (.ref CS) "reaches" = some (some (.ref fSR)))
    (iSR : PySem.W.isFn K (.ref fSR) = true)
    (lSR : K.lookup fSR = some ⟨ocSR, odSR, .func (PySem.W.fnOf "reaches" "Show.reaches" (defArgs sReaches) (defBody sReaches) (defScope sReaches) .none kVSR dcSR pmSR anSR cdSR ctSR), slSR⟩)
    (cSR : PySem.W.codeIn K cdSR "Show.reaches" = true)
    (kSR : PySem.W.keepIn K (.ref fSR) = true)
    (aSO : PySem.W.findIn K (.ref CS) "motions" = some (some (.ref fSO)))
    (iSO : PySem.W.isFn K (.ref fSO) = true)
    (lSO : K.lookup fSO = some ⟨ocSO, odSO, .func (PySem.W.fnOf "motions" "Show.motions" (defArgs sMotions) (defBody sMotions) (defScope sMotions) .none kVSO dcSO pmSO anSO cdSO ctSO), slSO⟩)
    (cSO : PySem.W.codeIn K cdSO "Show.motions" = true)
    (kSO : PySem.W.keepIn K (.ref fSO) = true)
    (aNA : PySem.W.nsIn K mainGlobals "none_above" = some (some (.ref fNA)))
    (lNA : K.lookup fNA = some ⟨ocNA, odNA, .func (PySem.W.fnOf "none_above" "none_above" (defArgs sNone) (defBody sNone) (defScope sNone) .none kVNA dcNA pmNA anNA cdNA ctNA), slNA⟩)
    (cNA : PySem.W.codeIn K cdNA "none_above" = true)
    (kNA : PySem.W.keepIn K (.ref fNA) = true)
    (aIF : PySem.W.nsIn K mainGlobals "is_foot" = some (some (.ref fIF)))
    (lIF : K.lookup fIF = some ⟨ocIF, odIF, .func (PySem.W.fnOf "is_foot" "is_foot" (defArgs sIsFoot) (defBody sIsFoot) (defScope sIsFoot) .none kVIF dcIF pmIF anIF cdIF ctIF), slIF⟩)
    (cIF : PySem.W.codeIn K cdIF "is_foot" = true)
    (kIF : PySem.W.keepIn K (.ref fIF) = true)
    (aFP : PySem.W.nsIn K mainGlobals "fits" = some (some (.ref fFP)))
    (lFP : K.lookup fFP = some ⟨ocFP, odFP, .func (PySem.W.fnOf "fits" "fits" (defArgs sFits) (defBody sFits) (defScope sFits) .none kVFP dcFP pmFP anFP cdFP ctFP), slFP⟩)
    (cFP : PySem.W.codeIn K cdFP "fits" = true)
    (kFP : PySem.W.keepIn K (.ref fFP) = true)
    (aRF : PySem.W.nsIn K mainGlobals "reach_from" = some (some (.ref fRF)))
    (lRF : K.lookup fRF = some ⟨ocRF, odRF, .func (PySem.W.fnOf "reach_from" "reach_from" (defArgs sReach) (defBody sReach) (defScope sReach) .none kVRF dcRF pmRF anRF cdRF ctRF), slRF⟩)
    (cRF : PySem.W.codeIn K cdRF "reach_from" = true)
    (kRF : PySem.W.keepIn K (.ref fRF) = true)
    (aHO : PySem.W.nsIn K mainGlobals "height_over" = some (some (.ref fHO)))
    (lHO : K.lookup fHO = some ⟨ocHO, odHO, .func (PySem.W.fnOf "height_over" "height_over" (defArgs sHeight) (defBody sHeight) (defScope sHeight) .none kVHO dcHO pmHO anHO cdHO ctHO), slHO⟩)
    (cHO : PySem.W.codeIn K cdHO "height_over" = true)
    (kHO : PySem.W.keepIn K (.ref fHO) = true)
    (aMO : PySem.W.nsIn K mainGlobals "motion_of" = some (some (.ref fMO)))
    (lMO : K.lookup fMO = some ⟨ocMO, odMO, .func (PySem.W.fnOf "motion_of" "motion_of" (defArgs sMotion) (defBody sMotion) (defScope sMotion) .none kVMO dcMO pmMO anMO cdMO ctMO), slMO⟩)
    (cMO : PySem.W.codeIn K cdMO "motion_of" = true)
    (kMO : PySem.W.keepIn K (.ref fMO) = true)
    (aRU : PySem.W.nsIn K mainGlobals "radius_under" = some (some (.ref fRU)))
    (lRU : K.lookup fRU = some ⟨ocRU, odRU, .func (PySem.W.fnOf "radius_under" "radius_under" (defArgs sRadius) (defBody sRadius) (defScope sRadius) .none kVRU dcRU pmRU anRU cdRU ctRU), slRU⟩)
    (cRU : PySem.W.codeIn K cdRU "radius_under" = true)
    (kRU : PySem.W.keepIn K (.ref fRU) = true)
    (aCF : PySem.W.nsIn K mainGlobals "cut_from" = some (some (.ref fCF)))
    (lCF : K.lookup fCF = some ⟨ocCF, odCF, .func (PySem.W.fnOf "cut_from" "cut_from" (defArgs sCut) (defBody sCut) (defScope sCut) .none kVCF dcCF pmCF anCF cdCF ctCF), slCF⟩)
    (cCF : PySem.W.codeIn K cdCF "cut_from" = true)
    (kCF : PySem.W.keepIn K (.ref fCF) = true)
    (aSH : PySem.W.nsIn K mainGlobals "share_of" = some (some (.ref fSH)))
    (lSH : K.lookup fSH = some ⟨ocSH, odSH, .func (PySem.W.fnOf "share_of" "share_of" (defArgs sShare) (defBody sShare) (defScope sShare) .none kVSH dcSH pmSH anSH cdSH ctSH), slSH⟩)
    (cSH : PySem.W.codeIn K cdSH "share_of" = true)
    (kSH : PySem.W.keepIn K (.ref fSH) = true)
    (aTO : PySem.W.nsIn K mainGlobals "together" = some (some (.ref fTO)))
    (lTO : K.lookup fTO = some ⟨ocTO, odTO, .func (PySem.W.fnOf "together" "together" (defArgs sTogether) (defBody sTogether) (defScope sTogether) .none kVTO dcTO pmTO anTO cdTO ctTO), slTO⟩)
    (cTO : PySem.W.codeIn K cdTO "together" = true)
    (kTO : PySem.W.keepIn K (.ref fTO) = true)
    (aOP : PySem.W.nsIn K mainGlobals "off_by_place" = some (some (.ref fOP)))
    (lOP : K.lookup fOP = some ⟨ocOP, odOP, .func (PySem.W.fnOf "off_by_place" "off_by_place" (defArgs sOff) (defBody sOff) (defScope sOff) .none kVOP dcOP pmOP anOP cdOP ctOP), slOP⟩)
    (cOP : PySem.W.codeIn K cdOP "off_by_place" = true)
    (kOP : PySem.W.keepIn K (.ref fOP) = true)
    (aNH : PySem.W.nsIn K mainGlobals "is_nowhere_higher" = some (some (.ref fNH)))
    (lNH : K.lookup fNH = some ⟨ocNH, odNH, .func (PySem.W.fnOf "is_nowhere_higher" "is_nowhere_higher" (defArgs sNowhere) (defBody sNowhere) (defScope sNowhere) .none kVNH dcNH pmNH anNH cdNH ctNH), slNH⟩)
    (cNH : PySem.W.codeIn K cdNH "is_nowhere_higher" = true)
    (kNH : PySem.W.keepIn K (.ref fNH) = true)
    (aCO : PySem.W.nsIn K mainGlobals "cams_on" = some (some (.ref fCO)))
    (lCO : K.lookup fCO = some ⟨ocCO, odCO, .func (PySem.W.fnOf "cams_on" "cams_on" (defArgs sCamsOn) (defBody sCamsOn) (defScope sCamsOn) .none kVCO dcCO pmCO anCO cdCO ctCO), slCO⟩)
    (cCO : PySem.W.codeIn K cdCO "cams_on" = true)
    (kCO : PySem.W.keepIn K (.ref fCO) = true)
    (aEP : PySem.W.nsIn K mainGlobals "every_plan" = some (some (.ref fEP)))
    (lEP : K.lookup fEP = some ⟨ocEP, odEP, .func (PySem.W.fnOf "every_plan" "every_plan" (defArgs sEvery) (defBody sEvery) (defScope sEvery) .none kVEP dcEP pmEP anEP cdEP ctEP), slEP⟩)
    (cEP : PySem.W.codeIn K cdEP "every_plan" = true)
    (kEP : PySem.W.keepIn K (.ref fEP) = true)
    (aAO : PySem.W.nsIn K mainGlobals "answer_of" = some (some (.ref fAO)))
    (lAO : K.lookup fAO = some ⟨ocAO, odAO, .func (PySem.W.fnOf "answer_of" "answer_of" (defArgs sAnsOf) (defBody sAnsOf) (defScope sAnsOf) .none kVAO dcAO pmAO anAO cdAO ctAO), slAO⟩)
    (cAO : PySem.W.codeIn K cdAO "answer_of" = true)
    (kAO : PySem.W.keepIn K (.ref fAO) = true)
    (aAC : PySem.W.nsIn K mainGlobals "answer_call" = some (some (.ref fAC)))
    (lAC : K.lookup fAC = some ⟨ocAC, odAC, .func (PySem.W.fnOf "answer_call" "answer_call" (defArgs sAC) (defBody sAC) (defScope sAC) .none kVAC dcAC pmAC anAC cdAC ctAC), slAC⟩)
    (cAC : PySem.W.codeIn K cdAC "answer_call" = true)
    (kAC : PySem.W.keepIn K (.ref fAC) = true)
    (aAN : PySem.W.nsIn K mainGlobals "answers" = some (some (.ref fAN)))
    (lAN : K.lookup fAN = some ⟨ocAN, odAN, .func (PySem.W.fnOf "answers" "answers" (defArgs sAns) (defBody sAns) (defScope sAns) .none kVAN dcAN pmAN anAN cdAN ctAN), slAN⟩)
    (cAN : PySem.W.codeIn K cdAN "answers" = true)
    (kAN : PySem.W.keepIn K (.ref fAN) = true)
    (g_FEWEST_PLACES : PySem.W.nsIn K mainGlobals "FEWEST_PLACES" = some (some (.int 2 t_FEWEST_PLACES)))
    (g_MOST_PLACES : PySem.W.nsIn K mainGlobals "MOST_PLACES" = some (some (.int 8 t_MOST_PLACES)))
    (g_MOST_CAMS : PySem.W.nsIn K mainGlobals "MOST_CAMS" = some (some (.int 4 t_MOST_CAMS)))
    (g_LONGEST_FOOT : PySem.W.nsIn K mainGlobals "LONGEST_FOOT" = some (some (.int 4 t_LONGEST_FOOT)))
    (g_GREATEST_LIFT : PySem.W.nsIn K mainGlobals "GREATEST_LIFT" = some (some (.int 100 t_GREATEST_LIFT)))
    (g_GREATEST_RADIUS : PySem.W.nsIn K mainGlobals "GREATEST_RADIUS" = some (some (.int 100 t_GREATEST_RADIUS)))
    (g_GREATEST_HEIGHT : PySem.W.nsIn K mainGlobals "GREATEST_HEIGHT" = some (some (.int 400 t_GREATEST_HEIGHT)))
    (g_BEGINS : PySem.W.nsIn K mainGlobals "BEGINS" = some (some (.int 0 t_BEGINS)))
    (g_CAM : PySem.W.nsIn K mainGlobals "CAM" = some (some (.int 1 t_CAM)))
    (g_WISH : PySem.W.nsIn K mainGlobals "WISH" = some (some (.int 2 t_WISH)))
    (g_MOVES : PySem.W.nsIn K mainGlobals "MOVES" = some (some (.int 3 t_MOVES)))
    (g_SUM : PySem.W.nsIn K mainGlobals "SUM" = some (some (.int 4 t_SUM)))
    (g_NEAREST : PySem.W.nsIn K mainGlobals "NEAREST" = some (some (.int 5 t_NEAREST)))
    (g_BEST : PySem.W.nsIn K mainGlobals "BEST" = some (some (.int 6 t_BEST)))
    (z_all : PySem.W.nsIn K mainGlobals "all" = some none)
    (z_len : PySem.W.nsIn K mainGlobals "len" = some none)
    (z_max : PySem.W.nsIn K mainGlobals "max" = some none)
    (z_range : PySem.W.nsIn K mainGlobals "range" = some none)
    (z_enumerate : PySem.W.nsIn K mainGlobals "enumerate" = some none)
    (z_min : PySem.W.nsIn K mainGlobals "min" = some none)
    (z_sum : PySem.W.nsIn K mainGlobals "sum" = some none)
    (z_abs : PySem.W.nsIn K mainGlobals "abs" = some none)
    (z_zip : PySem.W.nsIn K mainGlobals "zip" = some none)
    (z_list : PySem.W.nsIn K mainGlobals "list" = some none) :
    ∃ fd : FuncData, (∀ (s : Shared) (us : List Value), us.length = (["calls"] : List Str).length → BindsTo s fd ⟨us, []⟩ ((["calls"] : List Str).zip us)) ∧ ∀ base : Heap, K.In base → base.Ns mainGlobals mg → FnOk P w K mg base CX0 6 fa fd ["calls"] (spAns K) := by
  have e := hfa.symm.trans (PySem.W.mg_of X G aAN)
  cases e
  have clR : Cls K CR := ⟨pgR, hdR, poR, saR⟩
  have clS : Cls K CS := ⟨pgS, hdS, poS, saS⟩
  have FRI := fun_mk (st := sRInit) lRI cRI kRI
  have bRI := FRI.binds (ps := ["self", "calls"]) fun _ _ _ _ _ _ us hl => match us, hl with | [_, _], _ => rfl
  have FRM := fun_mk (st := sMore) lRM cRM kRM
  have bRM := FRM.binds (ps := ["self"]) fun _ _ _ _ _ _ us hl => match us, hl with | [_], _ => rfl
  have FRN := fun_mk (st := sNumber) lRN cRN kRN
  have bRN := FRN.binds (ps := ["self"]) fun _ _ _ _ _ _ us hl => match us, hl with | [_], _ => rfl
  have FRR := fun_mk (st := sRow) lRR cRR kRR
  have bRR := FRR.binds (ps := ["self"]) fun _ _ _ _ _ _ us hl => match us, hl with | [_], _ => rfl
  have FSI := fun_mk (st := sSInit) lSI cSI kSI
  have bSI := FSI.binds (ps := ["self"]) fun _ _ _ _ _ _ us hl => match us, hl with | [_], _ => rfl
  have FSA := fun_mk (st := sAnew) lSA cSA kSA
  have bSA := FSA.binds (ps := ["self", "places", "foot"]) fun _ _ _ _ _ _ us hl => match us, hl with | [_, _, _], _ => rfl
  have FSB := fun_mk (st := sBegins) lSB cSB kSB
  have bSB := FSB.binds (ps := ["self", "places", "foot"]) fun _ _ _ _ _ _ us hl => match us, hl with | [_, _, _], _ => rfl
  have FSC := fun_mk (st := sCam) lSC cSC kSC
  have bSC := FSC.binds (ps := ["self", "radii"]) fun _ _ _ _ _ _ us hl => match us, hl with | [_, _], _ => rfl
  have FSW := fun_mk (st := sWish) lSW cSW kSW
  have bSW := FSW.binds (ps := ["self", "heights"]) fun _ _ _ _ _ _ us hl => match us, hl with | [_, _], _ => rfl
  have FSM := fun_mk (st := sMoves) lSM cSM kSM
  have bSM := FSM.binds (ps := ["self", "cam"]) fun _ _ _ _ _ _ us hl => match us, hl with | [_, _], _ => rfl
  have FSU := fun_mk (st := sSum) lSU cSU kSU
  have bSU := FSU.binds (ps := ["self", "plan"]) fun _ _ _ _ _ _ us hl => match us, hl with | [_, _], _ => rfl
  have FSN := fun_mk (st := sNearest) lSN cSN kSN
  have bSN := FSN.binds (ps := ["self"]) fun _ _ _ _ _ _ us hl => match us, hl with | [_], _ => rfl
  have FSE := fun_mk (st := sBest) lSE cSE kSE
  have bSE := FSE.binds (ps := ["self"]) fun _ _ _ _ _ _ us hl => match us, hl with | [_], _ => rfl
  have FSR := fun_mk (st := sReaches) lSR cSR kSR
  have bSR := FSR.binds (ps := ["self"]) fun _ _ _ _ _ _ us hl => match us, hl with | [_], _ => rfl
  have FSO := fun_mk (st := sMotions) lSO cSO kSO
  have bSO := FSO.binds (ps := ["self"]) fun _ _ _ _ _ _ us hl => match us, hl with | [_], _ => rfl
  have FNA := fun_mk (st := sNone) lNA cNA kNA
  have bNA := FNA.binds (ps := ["numbers", "greatest"]) fun _ _ _ _ _ _ us hl => match us, hl with | [_, _], _ => rfl
  have FIF := fun_mk (st := sIsFoot) lIF cIF kIF
  have bIF := FIF.binds (ps := ["numbers"]) fun _ _ _ _ _ _ us hl => match us, hl with | [_], _ => rfl
  have FFP := fun_mk (st := sFits) lFP cFP kFP
  have bFP := FFP.binds (ps := ["numbers", "length", "greatest"]) fun _ _ _ _ _ _ us hl => match us, hl with | [_, _, _], _ => rfl
  have FRF := fun_mk (st := sReach) lRF cRF kRF
  have bRF := FRF.binds (ps := ["place", "places", "foot"]) fun _ _ _ _ _ _ us hl => match us, hl with | [_, _, _], _ => rfl
  have FHO := fun_mk (st := sHeight) lHO cHO kHO
  have bHO := FHO.binds (ps := ["radii", "reach"]) fun _ _ _ _ _ _ us hl => match us, hl with | [_, _], _ => rfl
  have FMO := fun_mk (st := sMotion) lMO cMO kMO
  have bMO := FMO.binds (ps := ["radii", "reaches"]) fun _ _ _ _ _ _ us hl => match us, hl with | [_, _], _ => rfl
  have FRU := fun_mk (st := sRadius) lRU cRU kRU
  have bRU := FRU.binds (ps := ["left", "reach"]) fun _ _ _ _ _ _ us hl => match us, hl with | [_, _], _ => rfl
  have FCF := fun_mk (st := sCut) lCF cCF kCF
  have bCF := FCF.binds (ps := ["left", "reaches"]) fun _ _ _ _ _ _ us hl => match us, hl with | [_, _], _ => rfl
  have FSH := fun_mk (st := sShare) lSH cSH kSH
  have bSH := FSH.binds (ps := ["motion", "turn"]) fun _ _ _ _ _ _ us hl => match us, hl with | [_, _], _ => rfl
  have FTO := fun_mk (st := sTogether) lTO cTO kTO
  have bTO := FTO.binds (ps := ["lever", "share"]) fun _ _ _ _ _ _ us hl => match us, hl with | [_, _], _ => rfl
  have FOP := fun_mk (st := sOff) lOP cOP kOP
  have bOP := FOP.binds (ps := ["lever", "wished"]) fun _ _ _ _ _ _ us hl => match us, hl with | [_, _], _ => rfl
  have FNH := fun_mk (st := sNowhere) lNH cNH kNH
  have bNH := FNH.binds (ps := ["lever", "wished"]) fun _ _ _ _ _ _ us hl => match us, hl with | [_, _], _ => rfl
  have FCO := fun_mk (st := sCamsOn) lCO cCO kCO
  have bCO := FCO.binds (ps := ["plan", "places"]) fun _ _ _ _ _ _ us hl => match us, hl with | [_, _], _ => rfl
  have FEP := fun_mk (st := sEvery) lEP cEP kEP
  have bEP := FEP.binds (ps := ["motions", "places"]) fun _ _ _ _ _ _ us hl => match us, hl with | [_, _], _ => rfl
  have FAO := fun_mk (st := sAnsOf) lAO cAO kAO
  have bAO := FAO.binds (ps := ["graded"]) fun _ _ _ _ _ _ us hl => match us, hl with | [_], _ => rfl
  have FAC := fun_mk (st := sAC) lAC cAC kAC
  have bAC := FAC.binds (ps := ["show", "reader"]) fun _ _ _ _ _ _ us hl => match us, hl with | [_, _], _ => rfl
  have FAN := fun_mk (st := sAns) lAN cAN kAN
  have bAN := FAN.binds (ps := ["calls"]) fun _ _ _ _ _ _ us hl => match us, hl with | [_], _ => rfl
  have m_FEWEST_PLACES := PySem.W.mg_of X G g_FEWEST_PLACES
  have m_MOST_PLACES := PySem.W.mg_of X G g_MOST_PLACES
  have m_MOST_CAMS := PySem.W.mg_of X G g_MOST_CAMS
  have m_LONGEST_FOOT := PySem.W.mg_of X G g_LONGEST_FOOT
  have m_GREATEST_LIFT := PySem.W.mg_of X G g_GREATEST_LIFT
  have m_GREATEST_RADIUS := PySem.W.mg_of X G g_GREATEST_RADIUS
  have m_GREATEST_HEIGHT := PySem.W.mg_of X G g_GREATEST_HEIGHT
  have m_BEGINS := PySem.W.mg_of X G g_BEGINS
  have m_CAM := PySem.W.mg_of X G g_CAM
  have m_WISH := PySem.W.mg_of X G g_WISH
  have m_MOVES := PySem.W.mg_of X G g_MOVES
  have m_SUM := PySem.W.mg_of X G g_SUM
  have m_NEAREST := PySem.W.mg_of X G g_NEAREST
  have m_BEST := PySem.W.mg_of X G g_BEST
  have m_all := PySem.W.mg_none_of X G z_all
  have m_len := PySem.W.mg_none_of X G z_len
  have m_max := PySem.W.mg_none_of X G z_max
  have m_range := PySem.W.mg_none_of X G z_range
  have m_enumerate := PySem.W.mg_none_of X G z_enumerate
  have m_min := PySem.W.mg_none_of X G z_min
  have m_sum := PySem.W.mg_none_of X G z_sum
  have m_abs := PySem.W.mg_none_of X G z_abs
  have m_zip := PySem.W.mg_none_of X G z_zip
  have m_list := PySem.W.mg_none_of X G z_list
  have TR : TxtR K mg CR := ⟨clR, nR_calls, nR_at, PySem.W.mg_of X G aCR, m_len⟩
  have TS : TxtS K mg CS := ⟨clS, nS_places, nS_foot, nS_cams, nS_wished, PySem.W.mg_of X G aCS, ⟨_, m_FEWEST_PLACES⟩, ⟨_, m_MOST_PLACES⟩, ⟨_, m_MOST_CAMS⟩, ⟨_, m_GREATEST_RADIUS⟩, ⟨_, m_GREATEST_HEIGHT⟩⟩
  have TG : TxtG mg := ⟨m_all, m_len, m_max, m_range, m_enumerate, m_min, m_sum, m_abs, m_zip, m_list, ⟨_, m_LONGEST_FOOT⟩, ⟨_, m_GREATEST_LIFT⟩⟩
  have TN : TxtN mg := ⟨⟨_, m_BEGINS⟩, ⟨_, m_CAM⟩, ⟨_, m_WISH⟩, ⟨_, m_MOVES⟩, ⟨_, m_SUM⟩, ⟨_, m_NEAREST⟩, ⟨_, m_BEST⟩⟩
  refine ⟨PySem.W.fnOf "answers" "answers" (defArgs sAns) (defBody sAns) (defScope sAns) .none kVAN dcAN pmAN anAN cdAN ctAN, fun s us hu => match us, hu with | [_], _ => .of_eq rfl, fun base _ _ => ?_⟩
  have gNA := PySem.W.mg_of X G aNA
  have gMO := PySem.W.mg_of X G aMO
  have gSH := PySem.W.mg_of X G aSH
  have gTO := PySem.W.mg_of X G aTO
  have gOP := PySem.W.mg_of X G aOP
  have gCO := PySem.W.mg_of X G aCO
  have gAO := PySem.W.mg_of X G aAO
  have gEP := PySem.W.mg_of X G aEP
  have gFP := PySem.W.mg_of X G aFP
  have GIF : FnOk P w K mg base CX0 2 _ _ _ _ := ok_isfoot FIF TG FNA bNA gNA
  have GFP : FnOk P w K mg base CX0 2 _ _ _ _ := ok_fits FFP TG FNA bNA gNA
  have GMO : ∀ base : Heap, FnOk P w K mg base CX0 2 _ _ _ _ := fun base => ok_motion FMO TG FHO bHO (PySem.W.mg_of X G aHO)
  have GCF : FnOk P w K mg base CX0 2 _ _ _ _ := ok_cut FCF TG FRU bRU (PySem.W.mg_of X G aRU)
  have GEP : FnOk P w K mg base CX0 2 _ _ _ _ := ok_every FEP TG FSH bSH gSH FTO bTO gTO
  have GSR : FnOk P w K mg base CX0 2 _ _ _ _ := ok_reaches FSR TS TG FRF bRF (PySem.W.mg_of X G aRF)
  have mSR : Meth K CS "reaches" fSR := ⟨aSR, iSR, kSR⟩
  have GSO : FnOk P w K mg base CX0 3 _ _ _ _ := ok_motions FSO TS GSR bSR mSR GMO bMO gMO kMO
  have mSO : Meth K CS "motions" fSO := ⟨aSO, iSO, kSO⟩
  have mA : Meth K CS "start_anew" fSA := ⟨aSA, iSA, kSA⟩
  have GSI : FnOk P w K mg base CX0 2 _ _ _ _ := ok_sinit FSI TS FSA bSA mA
  have GSB : FnOk P w K mg base CX0 3 _ _ _ _ := ok_begins FSB TS FSA bSA mA GIF bIF (PySem.W.mg_of X G aIF) kIF
  have GSC : FnOk P w K mg base CX0 3 _ _ _ _ := ok_cam FSC TS TG GFP bFP gFP kFP
  have GSW : FnOk P w K mg base CX0 3 _ _ _ _ := ok_wish FSW TS GFP bFP gFP kFP
  have GSM : FnOk P w K mg base CX0 3 _ _ _ _ := ok_moves FSM TS TG GSR bSR mSR (GMO base) bMO gMO kMO
  have GSU : FnOk P w K mg base CX0 4 _ _ _ _ := ok_sum FSU TS TG GFP bFP gFP kFP GSO bSO mSO FSH bSH gSH FTO bTO gTO FOP bOP gOP
  have GSN : FnOk P w K mg base CX0 4 _ _ _ _ := ok_nearest FSN TS TG GSO bSO mSO GEP bEP gEP kEP FOP bOP gOP FCO bCO gCO FAO bAO gAO
  have GSE : FnOk P w K mg base CX0 4 _ _ _ _ := ok_best FSE TS TG GSR bSR mSR GSO bSO mSO GEP bEP gEP kEP FNH bNH (PySem.W.mg_of X G aNH) FOP bOP gOP GCF bCF (PySem.W.mg_of X G aCF) kCF (GMO base) bMO gMO kMO FCO bCO gCO FAO bAO gAO
  have GRN : FnOk P w K mg base CX0 1 _ _ _ _ := ok_number FRN TR
  have mRN : Meth K CR "number" fRN := ⟨aRN, iRN, kRN⟩
  have GRR : FnOk P w K mg base CX0 2 _ _ _ _ := ok_row FRR TR FRN bRN mRN
  have GAC : FnOk P w K mg base CX0 5 _ _ _ _ := ok_ac FAC TS TR TN GRN bRN mRN GRR bRR ⟨aRR, iRR, kRR⟩ GSB bSB ⟨aSB, iSB, kSB⟩ GSC bSC ⟨aSC, iSC, kSC⟩ GSW bSW ⟨aSW, iSW, kSW⟩ GSM bSM ⟨aSM, iSM, kSM⟩ GSU bSU ⟨aSU, iSU, kSU⟩ GSN bSN ⟨aSN, iSN, kSN⟩ GSE bSE ⟨aSE, iSE, kSE⟩
  exact ok_ans (kA := 2) FAN TS TR TG ⟨mkS, aSI, iSI, kcS⟩ GSI bSI ⟨mkR, aRI, iRI, kcR⟩ (ok_rinit FRI TR) bRI (ok_more FRM TR) bRM ⟨aRM, iRM, kRM⟩ GAC bAC (PySem.W.mg_of X G aAC) kAC
end Cam
open PySem PySem.W PyProof.Rows
set_option maxRecDepth 100000 in
set_option maxHeartbeats 0 in
theorem PySem.Challenge.cw_camshow_s01_answers_holds : PySem.Challenge.rw_camshow_s01_answers.Holds := by
  w_on; k_headS; (case hw => exact ⟨[.list [.int 3, .int 0]], by decide +kernel, by decide +kernel⟩)
  k_fillS
  refine L2.walk_specK (r := PySem.Challenge.rw_camshow_s01_answers) (k := 6) (CX := L2.CX0) (ps := ["calls"]) (sp := Cam.spAns) (by decide +kernel) rfl rfl ⟨rfl, by decide, by decide⟩ (fun w h Y => PySem.W.kIn_of Y) ?F ?S (fun _ _ _ _ z => z)
  case F =>
    intro w mg fa h Y KX G hmg
    refine' Cam.all_mk KX G hmg ?aCR ?pgR ?hdR ?poR ?saR ?mkR ?kcR ?nR_calls ?nR_at ?aCS ?pgS ?hdS ?poS ?saS ?mkS ?kcS ?nS_places ?nS_foot ?nS_cams ?nS_wished ?aRI ?iRI ?lRI ?cRI ?kRI ?aRM ?iRM ?lRM ?cRM ?kRM ?aRN ?iRN ?lRN ?cRN ?kRN ?aRR ?iRR ?lRR ?cRR ?kRR ?aSI ?iSI ?lSI ?cSI ?kSI ?aSA ?iSA ?lSA ?cSA ?kSA ?aSB ?iSB ?lSB ?cSB ?kSB ?aSC ?iSC ?lSC ?cSC ?kSC ?aSW ?iSW ?lSW ?cSW ?kSW ?aSM ?iSM ?lSM ?cSM ?kSM ?aSU ?iSU ?lSU ?cSU ?kSU ?aSN ?iSN ?lSN ?cSN ?kSN ?aSE ?iSE ?lSE ?cSE ?kSE ?aSR ?iSR ?lSR ?cSR ?kSR ?aSO ?iSO ?lSO ?cSO ?kSO ?aNA ?lNA ?cNA ?kNA ?aIF ?lIF ?cIF ?kIF ?aFP ?lFP ?cFP ?kFP ?aRF ?lRF ?cRF ?kRF ?aHO ?lHO ?cHO ?kHO ?aMO ?lMO ?cMO ?kMO ?aRU ?lRU ?cRU ?kRU ?aCF ?lCF ?cCF ?kCF ?aSH ?lSH ?cSH ?kSH ?aTO ?lTO ?cTO ?kTO ?aOP ?lOP ?cOP ?kOP ?aNH ?lNH ?cNH ?kNH ?aCO ?lCO ?cCO ?kCO ?aEP ?lEP ?cEP ?kEP ?aAO ?lAO ?cAO ?kAO ?aAC ?lAC ?cAC ?kAC ?aAN ?lAN ?cAN ?kAN ?g_FEWEST_PLACES ?g_MOST_PLACES ?g_MOST_CAMS ?g_LONGEST_FOOT ?g_GREATEST_LIFT ?g_GREATEST_RADIUS ?g_GREATEST_HEIGHT ?g_BEGINS ?g_CAM ?g_WISH ?g_MOVES ?g_SUM ?g_NEAREST ?g_BEST ?z_all ?z_len ?z_max ?z_range ?z_enumerate ?z_min ?z_sum ?z_abs ?z_zip ?z_list
    (case aCR => k_is)
    (case pgR => k_is)
    (case hdR => k_is)
    (case poR => k_is)
    (case saR => k_is)
    (case mkR => k_is)
    (case kcR => k_is)
    (case nR_calls => k_is)
    (case nR_at => k_is)
    (case aCS => k_is)
    (case pgS => k_is)
    (case hdS => k_is)
    (case poS => k_is)
    (case saS => k_is)
    (case mkS => k_is)
    (case kcS => k_is)
    (case nS_places => k_is)
    (case nS_foot => k_is)
    (case nS_cams => k_is)
    (case nS_wished => k_is)
    (case aRI => k_is)
    (case iRI => k_is)
    (case lRI => k_is)
    (case cRI => k_is)
    (case kRI => k_is)
    (case aRM => k_is)
    (case iRM => k_is)
    (case lRM => k_is)
    (case cRM => k_is)
    (case kRM => k_is)
    (case aRN => k_is)
    (case iRN => k_is)
    (case lRN => k_is)
    (case cRN => k_is)
    (case kRN => k_is)
    (case aRR => k_is)
    (case iRR => k_is)
    (case lRR => k_is)
    (case cRR => k_is)
    (case kRR => k_is)
    (case aSI => k_is)
    (case iSI => k_is)
    (case lSI => k_is)
    (case cSI => k_is)
    (case kSI => k_is)
    (case aSA => k_is)
    (case iSA => k_is)
    (case lSA => k_is)
    (case cSA => k_is)
    (case kSA => k_is)
    (case aSB => k_is)
    (case iSB => k_is)
    (case lSB => k_is)
    (case cSB => k_is)
    (case kSB => k_is)
    (case aSC => k_is)
    (case iSC => k_is)
    (case lSC => k_is)
    (case cSC => k_is)
    (case kSC => k_is)
    (case aSW => k_is)
    (case iSW => k_is)
    (case lSW => k_is)
    (case cSW => k_is)
    (case kSW => k_is)
    (case aSM => k_is)
    (case iSM => k_is)
    (case lSM => k_is)
    (case cSM => k_is)
    (case kSM => k_is)
    (case aSU => k_is)
    (case iSU => k_is)
    (case lSU => k_is)
    (case cSU => k_is)
    (case kSU => k_is)
    (case aSN => k_is)
    (case iSN => k_is)
    (case lSN => k_is)
    (case cSN => k_is)
    (case kSN => k_is)
    (case aSE => k_is)
    (case iSE => k_is)
    (case lSE => k_is)
    (case cSE => k_is)
    (case kSE => k_is)
    (case aSR => k_is)
    (case iSR => k_is)
    (case lSR => k_is)
    (case cSR => k_is)
    (case kSR => k_is)
    (case aSO => k_is)
    (case iSO => k_is)
    (case lSO => k_is)
    (case cSO => k_is)
    (case kSO => k_is)
    (case aNA => k_is)
    (case lNA => k_is)
    (case cNA => k_is)
    (case kNA => k_is)
    (case aIF => k_is)
    (case lIF => k_is)
    (case cIF => k_is)
    (case kIF => k_is)
    (case aFP => k_is)
    (case lFP => k_is)
    (case cFP => k_is)
    (case kFP => k_is)
    (case aRF => k_is)
    (case lRF => k_is)
    (case cRF => k_is)
    (case kRF => k_is)
    (case aHO => k_is)
    (case lHO => k_is)
    (case cHO => k_is)
    (case kHO => k_is)
    (case aMO => k_is)
    (case lMO => k_is)
    (case cMO => k_is)
    (case kMO => k_is)
    (case aRU => k_is)
    (case lRU => k_is)
    (case cRU => k_is)
    (case kRU => k_is)
    (case aCF => k_is)
    (case lCF => k_is)
    (case cCF => k_is)
    (case kCF => k_is)
    (case aSH => k_is)
    (case lSH => k_is)
    (case cSH => k_is)
    (case kSH => k_is)
    (case aTO => k_is)
    (case lTO => k_is)
    (case cTO => k_is)
    (case kTO => k_is)
    (case aOP => k_is)
    (case lOP => k_is)
    (case cOP => k_is)
    (case kOP => k_is)
    (case aNH => k_is)
    (case lNH => k_is)
    (case cNH => k_is)
    (case kNH => k_is)
    (case aCO => k_is)
    (case lCO => k_is)
    (case cCO => k_is)
    (case kCO => k_is)
    (case aEP => k_is)
    (case lEP => k_is)
    (case cEP => k_is)
    (case kEP => k_is)
    (case aAO => k_is)
    (case lAO => k_is)
    (case cAO => k_is)
    (case kAO => k_is)
    (case aAC => k_is)
    (case lAC => k_is)
    (case cAC => k_is)
    (case kAC => k_is)
    (case aAN => k_is)
    (case lAN => k_is)
    (case cAN => k_is)
    (case kAN => k_is)
    (case g_FEWEST_PLACES => k_is)
    (case g_MOST_PLACES => k_is)
    (case g_MOST_CAMS => k_is)
    (case g_LONGEST_FOOT => k_is)
    (case g_GREATEST_LIFT => k_is)
    (case g_GREATEST_RADIUS => k_is)
    (case g_GREATEST_HEIGHT => k_is)
    (case g_BEGINS => k_is)
    (case g_CAM => k_is)
    (case g_WISH => k_is)
    (case g_MOVES => k_is)
    (case g_SUM => k_is)
    (case g_NEAREST => k_is)
    (case g_BEST => k_is)
    (case z_all => k_is)
    (case z_len => k_is)
    (case z_max => k_is)
    (case z_range => k_is)
    (case z_enumerate => k_is)
    (case z_min => k_is)
    (case z_sum => k_is)
    (case z_abs => k_is)
    (case z_zip => k_is)
    (case z_list => k_is)
  case S =>
    intro K H xs a hO hwi hask hx
    cases hx with
    | cons h1 h2 =>
      cases h2
      cases h1 with
      | lst hs ha =>
        have e := L2.ints_dw a.1 _ ha
        subst e
        exact ⟨_, a.1, rfl, hs, hask, fun H' p hp => .lst (L2.SqL.of hp) (L2.dw_ints _)⟩
