import PyProof.Rows.All
import Wide.All
import OpenK.AllK
import Wide.FinOn
import PyCp01
import PyWideLaws
import KE.DatumOrd
import Open.SpecLaws
import KE.OsGo
import HandS.ForSpec
import HandS.Comp
import HandS.Iter
import HandS.Dict
import HandS.Deep
import HandS.Walk
import PySem.Challenge.RW_calledbyname_s01_answers
namespace Nb
/-- what is due to one call -/
def due (c : Int × List Int) : List Int := match Cp01Neutral.callOf (c.1 :: c.2) with
  | none => []
  | some q => (Cp01.step () q).2.v :: (Cp01.step () q).2.l
/-- a call as it stands in the list -/
def flat1 (c : Int × List Int) : List Int := c.1 :: (c.2.length : Int) :: (c.2 ++ [0])
def flat (cs : List (Int × List Int)) : List Int := cs.flatMap flat1
def dues (cs : List (Int × List Int)) : List Int := cs.flatMap fun c => ((due c).length : Int) :: due c
structure Ok (c : Int × List Int) : Prop where
  some : (Cp01Neutral.callOf (c.1 :: c.2)).isSome = true
  len : c.2.length ≤ 19
  lo : ∀ z ∈ c.2, -9007199254740992 ≤ z ∧ z ≤ 9007199254740992
theorem fits_rows {p : Int} {ns : List Int} {rows : List (List Int)} (h : PyCp01.fits ((p :: ns) :: rows) = true) : rows = [] := by
  unfold PyCp01.fits at h
  simp only at h
  cases e : PyCp01.form p with
  | none => rw [e] at h; cases h
  | some q =>
    rw [e] at h
    obtain ⟨a, ⟨m1, m2, lo, hi⟩, r, ⟨k, n1, n2, llo, lhi, l1, l2⟩⟩ := q
    simp only [Bool.and_eq_true, decide_eq_true_eq] at h
    have hq : r = [] ∧ k = 0 ∧ n2 = 0 := by
      unfold PyCp01.form at e
      repeat' split at e
      all_goals first | (cases e; exact ⟨rfl, rfl, rfl⟩) | cases e
    obtain ⟨rfl, rfl, rfl⟩ := hq
    have h1 := h.1.1.2
    simp only [List.drop_zero, List.length_nil, Nat.sub_zero, List.take_length] at h1
    exact List.eq_nil_of_length_eq_zero (by omega)
theorem played_due : ∀ (cs : List (Int × List Int)), (∀ c ∈ cs, Ok c) → PyFlat.played Cp01Neutral.step Cp01Neutral.start (cs.map fun c => [c.1 :: c.2]) = cs.map due
  | [], _ => rfl
  | c :: cs, h => by
    have ih := played_due cs fun d hd => h d (List.mem_cons_of_mem _ hd)
    show (Cp01Neutral.step () [c.1 :: c.2]).2 :: PyFlat.played Cp01Neutral.step () (cs.map fun c => [c.1 :: c.2]) = due c :: cs.map due
    rw [← ih]
    have e : (Cp01Neutral.step () [c.1 :: c.2]).2 = due c := by
      unfold Cp01Neutral.step due
      simp only [List.headD_cons]
      cases Cp01Neutral.callOf (c.1 :: c.2) <;> rfl
    rw [e]
theorem told_map (cs : List (Int × List Int)) : PyFlat.told (cs.map due) = dues cs := by
  unfold PyFlat.told dues
  rw [List.flatMap_map]
theorem put_flat : ∀ (cs : List (Int × List Int)), PyWide.put (cs.map fun c => [c.1 :: c.2]) = flat cs
  | [] => rfl
  | c :: cs => by
    show PyWide.put1 [c.1 :: c.2] ++ PyWide.put (cs.map fun c => [c.1 :: c.2]) = flat1 c ++ flat cs
    rw [put_flat cs]
    rfl
theorem all_mem {α : Type} {l : List α} {p : α → Bool} (h : l.all p = true) : ∀ x ∈ l, p x = true := List.all_eq_true.mp h
theorem asked_ok {p : Int} {ns : List Int} (h : Cp01Neutral.asked1 [p :: ns] = true) : Ok (p, ns) := by
  unfold Cp01Neutral.asked1 at h
  simp only [List.headD_cons, Bool.and_eq_true] at h
  obtain ⟨_, h1, h2, h3⟩ := h
  refine ⟨h3, ?_, ?_⟩
  · have h2 := of_decide_eq_true h2
    simp only [List.length_cons] at h2
    show ns.length ≤ 19
    omega
  · intro z hz
    have := all_mem h1 z (List.mem_cons_of_mem _ hz)
    simp only [Bool.and_eq_true, decide_eq_true_eq] at this
    exact ⟨by have := this.1; omega, by have := this.2; omega⟩
theorem shape_all : ∀ (cs : List (List (List Int))), (∀ c ∈ cs, PyWide.okCall c) → (∀ c ∈ cs, PyCp01.fits c = true) → (∀ c ∈ cs, Cp01Neutral.asked1 c = true) →
    ∃ ds : List (Int × List Int), cs = (ds.map fun c => [c.1 :: c.2]) ∧ ∀ d ∈ ds, Ok d
  | [], _, _, _ => ⟨[], rfl, fun _ h => by cases h⟩
  | c :: cs, h1, h2, h3 => by
    obtain ⟨ds, e, k⟩ := shape_all cs (fun d hd => h1 d (List.mem_cons_of_mem _ hd)) (fun d hd => h2 d (List.mem_cons_of_mem _ hd)) (fun d hd => h3 d (List.mem_cons_of_mem _ hd))
    obtain ⟨p, ns, rows, rfl⟩ := h1 c List.mem_cons_self
    have er := fits_rows (h2 _ List.mem_cons_self)
    subst er
    refine ⟨(p, ns) :: ds, by rw [e]; rfl, fun d hd => ?_⟩
    cases hd with
    | head => exact asked_ok (h3 _ List.mem_cons_self)
    | tail _ hd => exact k d hd
/-- **What is handed in is a row of calls, and what is due is told call by call.** -/
theorem asked_inv {l : List Int} (h : PyCp01.answers_asked l = true) : ∃ cs : List (Int × List Int), l = flat cs ∧ PyCp01.answers l = dues cs ∧ (∀ c ∈ cs, Ok c) ∧ (dues cs).length ≤ 10000000 := by
  unfold PyCp01.answers_asked at h
  cases e : PyCp01.calls l with
  | none => rw [e] at h; cases h
  | some cs =>
    rw [e] at h
    simp only [Bool.and_eq_true] at h
    obtain ⟨⟨⟨⟨_, h1⟩, _⟩, h2⟩, h3⟩ := h
    unfold PyCp01.calls at e
    obtain ⟨e1, k1⟩ := PyWide.put_calls _ _ _ e
    unfold Cp01Neutral.asked at h2
    rw [Bool.and_eq_true] at h2
    obtain ⟨ds, rfl, k⟩ := shape_all cs k1 (all_mem h1) (all_mem h2.1)
    have ea : PyCp01.answers l = dues ds := by
      unfold PyCp01.answers PyCp01.calls
      rw [e]
      show PyFlat.told (PyFlat.played Cp01Neutral.step Cp01Neutral.start (ds.map fun c => [c.1 :: c.2])) = dues ds
      rw [played_due ds k, told_map]
    refine ⟨ds, e1.trans (put_flat ds), ea, k, ?_⟩
    rw [← ea]
    exact of_decide_eq_true h3
end Nb


namespace Nb
open Cp01
def plainS (s : Int) : Int := 12 * (s / 7) + [0, 2, 4, 5, 7, 9, 11].getD (s % 7).toNat 0
def placeS (d a : Int) : Int := [0, 2, 4, -1, 1, 3, 5].getD (d % 7).toNat 0 + 7 * a
def isN (d a : Int) : Bool := (decide (0 ≤ d) && decide (d ≤ 69)) && (decide (-2 ≤ a) && decide (a ≤ 2))
def isK (k m : Int) : Bool := (decide (-7 ≤ k) && decide (k ≤ 7)) && (decide (0 ≤ m) && decide (m ≤ 6))
def qualS (s t : Int) : Int := if s < 0 then -t - plainS (-s) else t - plainS s
def absI (s : Int) : Int := if s < 0 then -s else s
def perfS (s : Int) : Int := if absI s % 7 = 0 ∨ absI s % 7 = 3 ∨ absI s % 7 = 4 then 1 else 0
def consS (s t : Int) : Int :=
  if (absI s % 7 = 0 ∨ absI s % 7 = 4) ∧ qualS s t = 0 then 2 else if (absI s % 7 = 2 ∨ absI s % 7 = 5) ∧ (qualS s t = 0 ∨ qualS s t = -1) then 1 else 0
def aboveS (d a s t : Int) : Option (Int × Int) :=
  if isN (d + s) (plainS d + a + t - (plainS (d + s) + 0)) then some (d + s, plainS d + a + t - (plainS (d + s) + 0)) else none
def firstS (k m : Int) : Int := (4 * k + m) % 7
def altS (k d : Int) : Int := (k + 5 - [0, 2, 4, -1, 1, 3, 5].getD (d % 7).toNat 0) / 7
theorem white_is (s : Int) : white s = plainS s := rfl
theorem fifths_is (d a : Int) : (⟨d, a⟩ : Note).fifths = placeS d a := rfl
theorem sound_is (d a : Int) : (⟨d, a⟩ : Note).sound = plainS d + a := rfl
theorem isN_is (d a : Int) : isNote ⟨d, a⟩ = isN d a := by
  have e : decide (d < STEPS) = decide (d ≤ 69) := decide_eq_decide.mpr (by show d < 70 ↔ d ≤ 69; omega)
  show (decide (0 ≤ d) && (decide (d < STEPS) && (decide (-2 ≤ a) && decide (a ≤ 2)))) = ((decide (0 ≤ d) && decide (d ≤ 69)) && (decide (-2 ≤ a) && decide (a ≤ 2)))
  rw [e, Bool.and_assoc]
theorem isK_is (k m : Int) : isKey k m = isK k m := rfl
theorem qual_is (s t : Int) : quality (s.natAbs : Int) (if s < 0 then -t else t) = qualS s t := by
  unfold quality qualS
  by_cases h : s < 0
  · rw [if_pos h, if_pos h, white_is]
    have e : (s.natAbs : Int) = -s := by omega
    rw [e]
  · rw [if_neg h, if_neg h, white_is]
    have e : (s.natAbs : Int) = s := by omega
    rw [e]
theorem perf_is (s : Int) : (if perfect s then (1 : Int) else 0) = perfS s := by
  unfold perfect perfS absI
  have h : (s % 7 == 0 || (s % 7 == 3 || s % 7 == 4)) = decide ((if s < 0 then -s else s) % 7 = 0 ∨ (if s < 0 then -s else s) % 7 = 3 ∨ (if s < 0 then -s else s) % 7 = 4) := by
    rw [Bool.eq_iff_iff]
    simp only [Bool.or_eq_true, beq_iff_eq, decide_eq_true_eq]
    split <;> omega
  rw [h]
  simp only [decide_eq_true_eq]
theorem cons_is (s t : Int) : ((consonant s t : Nat) : Int) = consS s t := by
  have q := qual_is s t
  have e : (s.natAbs % 7 : Nat) = (absI s % 7).toNat := by unfold absI; split <;> omega
  have e2 : 0 ≤ absI s % 7 := by omega
  unfold consonant consS
  simp only [q, e]
  have z (n : Nat) : ((absI s % 7).toNat = n) = (absI s % 7 = (n : Int)) := by
    apply propext; omega
  simp only [z]
  simp only [Int.cast_ofNat_Int]
  split
  · rename_i h
    by_cases hq : qualS s t = 0
    · simp [h, hq]
    · have h2 : ¬ (absI s % 7 = 2 ∨ absI s % 7 = 5) := by omega
      simp [hq, h2]
  · rename_i h
    split
    · rename_i h2
      simp only [h, false_and, if_false, h2, true_and]
      split <;> rfl
    · rename_i h2
      simp [h, h2]
theorem above_is (d a s t : Int) : Cp01.above ⟨d, a⟩ s t = (aboveS d a s t).map fun x => ⟨x.1, x.2⟩ := by
  unfold Cp01.above aboveS
  simp only [sound_is, white_is, isN_is, Int.add_zero]
  split <;> rfl
theorem first_fin : ∀ k ∈ [(-7 : Int), -6, -5, -4, -3, -2, -1, 0, 1, 2, 3, 4, 5, 6, 7], (ofFifths k).1 = (4 * k) % 7 := by decide
theorem alt_fin : ∀ k ∈ [(-7 : Int), -6, -5, -4, -3, -2, -1, 0, 1, 2, 3, 4, 5, 6, 7], ∀ d ∈ [(0 : Int), 1, 2, 3, 4, 5, 6], (⟨k, 0⟩ : Key).alters d = altS k d := by decide
theorem k_mem {k : Int} (h1 : -7 ≤ k) (h2 : k ≤ 7) : k ∈ [(-7 : Int), -6, -5, -4, -3, -2, -1, 0, 1, 2, 3, 4, 5, 6, 7] := by
  simp only [List.mem_cons, List.not_mem_nil, or_false]
  omega
theorem d_mem (d : Int) : d % 7 ∈ [(0 : Int), 1, 2, 3, 4, 5, 6] := by
  simp only [List.mem_cons, List.not_mem_nil, or_false]
  omega
theorem first_is {k m : Int} (h1 : -7 ≤ k) (h2 : k ≤ 7) (h3 : 0 ≤ m) : (⟨k, m.toNat⟩ : Key).first = firstS k m := by
  unfold Key.first firstS
  simp only
  rw [first_fin k (k_mem h1 h2)]
  have e : (m.toNat : Int) = m := by omega
  rw [e]
  omega
theorem alt_is {k d : Int} {n : Nat} (h1 : -7 ≤ k) (h2 : k ≤ 7) : (⟨k, n⟩ : Key).alters d = altS k d := by
  have a := alt_fin k (k_mem h1 h2) (d % 7) (d_mem d)
  have e1 : (⟨k, n⟩ : Key).alters d = (⟨k, 0⟩ : Key).alters (d % 7) := by
    unfold Key.alters
    have e : d % 7 % 7 = d % 7 := by omega
    rw [e]
  have e2 : altS k (d % 7) = altS k d := by
    unfold altS
    have e : d % 7 % 7 = d % 7 := by omega
    rw [e]
  rw [e1, a, e2]
/-! ### what is due, call by call -/
def tellSound (d a : Int) : List Int := if isN d a then [0, plainS d + a, placeS d a] else [-1]
def tellInterval (d a e b : Int) : List Int := if isN d a && isN e b then
  [0, e - d, plainS e + b - (plainS d + a), qualS (e - d) (plainS e + b - (plainS d + a)), perfS (e - d), consS (e - d) (plainS e + b - (plainS d + a))] else [-1]
def rS (s : Int) : Bool := decide (-70 ≤ s) && decide (s ≤ 70)
def rT (s : Int) : Bool := decide (-200 ≤ s) && decide (s ≤ 200)
def tellAbove (d a s t : Int) : List Int := if isN d a && (rS s && rT t) then (match aboveS d a s t with
  | none => [-3]
  | some x => [0, x.1, x.2]) else [-1]
def tellKey (k m : Int) : List Int := if isK k m then firstS k m :: (List.range 7).map (fun (i : Nat) => altS k (firstS k m + i)) else [-1]
def tellDegree (k m d a : Int) : List Int := if isK k m && isN d a then [(d - firstS k m) % 7, a - altS k d] else [-1]
theorem due_sound (d a : Int) : due (1, [d, a]) = tellSound d a := by
  show (Cp01.step () (.sound d a)).2.v :: (Cp01.step () (.sound d a)).2.l = _
  simp only [Cp01.step, isN_is, tellSound, fifths_is, sound_is]
  cases isN d a <;> rfl
theorem due_interval (d a e b : Int) : due (2, [d, a, e, b]) = tellInterval d a e b := by
  show (Cp01.step () (.interval ⟨d, a⟩ ⟨e, b⟩)).2.v :: (Cp01.step () (.interval ⟨d, a⟩ ⟨e, b⟩)).2.l = _
  simp only [Cp01.step, qual_is, perf_is, cons_is]
  simp only [isN_is, tellInterval, between, sound_is]
  cases isN d a <;> cases isN e b <;> rfl
theorem due_above (d a s t : Int) : due (3, [d, a, s, t]) = tellAbove d a s t := by
  show (Cp01.step () (.above ⟨d, a⟩ s t)).2.v :: (Cp01.step () (.above ⟨d, a⟩ s t)).2.l = _
  have e1 : isIn (-70) 70 s = rS s := rfl
  have e2 : isIn (-200) 200 t = rT t := rfl
  simp only [Cp01.step, isN_is, tellAbove, above_is, e1, e2]
  cases isN d a <;> cases rS s <;> cases rT t <;> cases aboveS d a s t <;> rfl
theorem due_key (k m : Int) : due (4, [k, m]) = tellKey k m := by
  show (Cp01.step () (.key k m)).2.v :: (Cp01.step () (.key k m)).2.l = _
  unfold tellKey
  cases h : isK k m with
  | false =>
    have h' : isKey k m = false := h
    simp only [Cp01.step, h']
    rfl
  | true =>
    have h' : isKey k m = true := h
    simp only [isK, Bool.and_eq_true, decide_eq_true_eq] at h
    obtain ⟨⟨h1, h2⟩, h3, h4⟩ := h
    simp only [Cp01.step, h', first_is h1 h2 h3, alt_is h1 h2]
    rfl
theorem due_degree (k m d a : Int) : due (5, [k, m, d, a]) = tellDegree k m d a := by
  show (Cp01.step () (.degree k m ⟨d, a⟩)).2.v :: (Cp01.step () (.degree k m ⟨d, a⟩)).2.l = _
  unfold tellDegree
  cases h : isK k m with
  | false =>
    have h' : isKey k m = false := h
    simp only [Cp01.step, h']
    rfl
  | true =>
    have h' : isKey k m = true := h
    simp only [isK, Bool.and_eq_true, decide_eq_true_eq] at h
    obtain ⟨⟨h1, h2⟩, h3, h4⟩ := h
    cases g : isN d a with
    | false =>
      have g' : isNote ⟨d, a⟩ = false := (isN_is d a).trans g
      simp only [Cp01.step, h', g']
      rfl
    | true =>
      have g' : isNote ⟨d, a⟩ = true := (isN_is d a).trans g
      simp only [Cp01.step, h', g', Key.degree, first_is h1 h2 h3, alt_is h1 h2]
      rfl
end Nb
namespace Nb
/-- the shapes of a call's numbers -/
theorem shapes {p : Int} {ns : List Int} (h : (Cp01Neutral.callOf (p :: ns)).isSome = true) :
    (p = 1 ∧ ∃ d a, ns = [d, a]) ∨ (p = 2 ∧ ∃ d a e b, ns = [d, a, e, b]) ∨ (p = 3 ∧ ∃ d a s t, ns = [d, a, s, t]) ∨ (p = 4 ∧ ∃ k m, ns = [k, m]) ∨ (p = 5 ∧ ∃ k m d a, ns = [k, m, d, a]) ∨
    (p = 6 ∧ ∃ k t, ns = k :: t) ∨ (p = 7 ∧ (Cp01Neutral.notes? ns).isSome = true) ∨ (p = 8 ∧ ∃ d a k t, ns = [d, a, k, t]) ∨ (p = 9 ∧ ∃ s t r, ns = s :: t :: r ∧ (Cp01Neutral.notes? r).isSome = true) := by
  unfold Cp01Neutral.callOf at h
  split at h <;> rename_i e
  all_goals first | (obtain ⟨rfl, rfl⟩ := List.cons.inj e) | skip
  · exact .inl ⟨rfl, _, _, rfl⟩
  · exact .inr (.inl ⟨rfl, _, _, _, _, rfl⟩)
  · exact .inr (.inr (.inl ⟨rfl, _, _, _, _, rfl⟩))
  · exact .inr (.inr (.inr (.inl ⟨rfl, _, _, rfl⟩)))
  · exact .inr (.inr (.inr (.inr (.inl ⟨rfl, _, _, _, _, rfl⟩))))
  · exact .inr (.inr (.inr (.inr (.inr (.inl ⟨rfl, _, _, rfl⟩)))))
  · exact .inr (.inr (.inr (.inr (.inr (.inr (.inl ⟨rfl, by simpa using h⟩))))))
  · exact .inr (.inr (.inr (.inr (.inr (.inr (.inr (.inl ⟨rfl, _, _, _, _, rfl⟩)))))))
  · exact .inr (.inr (.inr (.inr (.inr (.inr (.inr (.inr ⟨rfl, _, _, _, rfl, by simpa using h⟩)))))))
  · cases h
/-- pairs -/
def pairs : List Int → List (Int × Int)
  | d :: a :: l => (d, a) :: pairs l
  | _ => []
def unpairs (l : List (Int × Int)) : List Int := l.flatMap fun x => [x.1, x.2]
theorem notes_pairs : ∀ {ns : List Int}, (Cp01Neutral.notes? ns).isSome = true → ns = unpairs (pairs ns) ∧ Cp01Neutral.notes? ns = some ((pairs ns).map fun x => ⟨x.1, x.2⟩)
  | [], _ => ⟨rfl, rfl⟩
  | [_], h => by cases h
  | d :: a :: l, h => by
    have h' : ((Cp01Neutral.notes? l).map fun r => (⟨d, a⟩ : Cp01.Note) :: r).isSome = true := h
    have h2 : (Cp01Neutral.notes? l).isSome = true := by simpa using h'
    obtain ⟨e1, e2⟩ := notes_pairs h2
    refine ⟨?_, ?_⟩
    · show d :: a :: l = d :: a :: unpairs (pairs l)
      rw [← e1]
    · show ((Cp01Neutral.notes? l).map fun r => (⟨d, a⟩ : Cp01.Note) :: r) = some (⟨d, a⟩ :: (pairs l).map fun x => ⟨x.1, x.2⟩)
      rw [e2]
      rfl
end Nb


namespace Nb
open Cp01
/-! ### build, move -/
def toN (x : Int × Int) : Note := ⟨x.1, x.2⟩
/-- all of them, or none -/
def allS {α : Type} : List (Option α) → Option (List α)
  | [] => some []
  | none :: _ => none
  | some x :: l => (allS l).map (x :: ·)
theorem mapM_allS {α β : Type} (f : α → Option β) : ∀ l : List α, l.mapM f = allS (l.map f)
  | [] => rfl
  | x :: l => by
    rw [List.mapM_cons, mapM_allS f l, List.map_cons]
    cases f x with
    | none => rfl
    | some y =>
      show _ = (allS (l.map f)).map (y :: ·)
      cases allS (l.map f) <;> rfl
theorem allS_map {α β : Type} (g : α → β) : ∀ l : List (Option α), allS (l.map (·.map g)) = (allS l).map (·.map g)
  | [] => rfl
  | none :: _ => rfl
  | some x :: l => by
    show (allS (l.map (·.map g))).map (g x :: ·) = ((allS l).map (x :: ·)).map (·.map g)
    rw [allS_map g l]
    cases allS l <;> rfl
theorem allS_length {α : Type} : ∀ {l : List (Option α)} {r : List α}, allS l = some r → r.length = l.length
  | [], r, h => by cases h; rfl
  | none :: _, r, h => by cases h
  | some x :: l, r, h => by
    have h' : (allS l).map (x :: ·) = some r := h
    cases e : allS l with
    | none => rw [e] at h'; cases h'
    | some q =>
      rw [e] at h'
      cases h'
      show q.length + 1 = l.length + 1
      rw [allS_length e]
theorem told_toN (l : List (Int × Int)) : told (l.map toN) = unpairs l := by
  unfold told unpairs
  rw [List.flatMap_map]
  rfl
theorem above_toN (x : Int × Int) (s t : Int) : Cp01.above (toN x) s t = (aboveS x.1 x.2 s t).map toN := above_is x.1 x.2 s t
def moveS (s t : Int) (l : List (Int × Int)) : Option (List (Int × Int)) := allS (l.map fun x => aboveS x.1 x.2 s t)
def tellMove (s t : Int) (l : List (Int × Int)) : List Int :=
  if (l.all fun x => isN x.1 x.2) && (decide (l.length ≤ 8) && (rS s && rT t)) then (match moveS s t l with
    | none => [-3]
    | some r => (l.length : Int) :: unpairs r) else [-1]
theorem all_isN (l : List (Int × Int)) : (l.map toN).all isNote = l.all fun x => isN x.1 x.2 := by
  rw [List.all_map]
  congr 1
  funext x
  exact isN_is x.1 x.2
theorem due_move {s t : Int} {r : List Int} (h : (Cp01Neutral.notes? r).isSome = true) : due (9, s :: t :: r) = tellMove s t (pairs r) := by
  obtain ⟨_, e⟩ := notes_pairs h
  have ec : Cp01Neutral.callOf (9 :: s :: t :: r) = some (.move s t ((pairs r).map toN)) := by
    show (Cp01Neutral.notes? r).map (fun n => Call.move s t n) = _
    rw [e]
    rfl
  unfold due
  simp only [ec]
  generalize pairs r = l
  have e1 : isIn (-70) 70 s = rS s := rfl
  have e2 : isIn (-200) 200 t = rT t := rfl
  have e3 : decide (8 < (l.map toN).length) = !decide (l.length ≤ 8) := by
    rw [List.length_map, ← decide_not]
    exact decide_eq_decide.mpr (by omega)
  have e4 : ((l.map toN).mapM fun m => Cp01.above m s t) = (moveS s t l).map (·.map toN) := by
    rw [mapM_allS, List.map_map]
    unfold moveS
    rw [← allS_map, List.map_map]
    congr 1
    apply List.map_congr_left
    intro x _
    exact above_toN x s t
  have e5 : ∀ q, moveS s t l = some q → q.length = l.length := fun q hq => by
    have := allS_length hq
    rw [List.length_map] at this
    exact this
  simp only [Cp01.step, all_isN, e1, e2, e3, e4, tellMove]
  cases l.all fun x => isN x.1 x.2 <;> cases decide (l.length ≤ 8) <;> cases rS s <;> cases rT t <;> try rfl
  cases e6 : moveS s t l with
  | none => rfl
  | some q =>
    show ((q.map toN).length : Int) :: told (q.map toN) = (l.length : Int) :: unpairs q
    rw [told_toN, List.length_map, e5 q e6]
/-! ### build -/
def kindS (k : Int) : List Int := kinds.getD k.toNat []
def parts (k : Int) : List (Int × Int) := (0, 0) :: (kindS k).zipIdx.map fun x => (2 * (x.2 : Int) + 2, x.1)
def turned (k t : Int) : List (Int × Int) := (parts k).drop t.toNat ++ ((parts k).take t.toNat).map fun x => (x.1 + 7, x.2 + 12)
def buildS (d a k t : Int) : Option (List (Int × Int)) := allS ((turned k t).map fun x => aboveS d a x.1 x.2)
def isB (k t : Int) : Bool := (decide (0 ≤ k) && decide (k ≤ 8)) && (decide (0 ≤ t) && decide (t ≤ ((kindS k).length : Int)))
def tellBuild (d a k t : Int) : List Int := if isN d a && isB k t then (match buildS d a k t with
    | none => [-3]
    | some r => (r.length : Int) :: unpairs r) else [-1]
theorem due_build (d a k t : Int) : due (8, [d, a, k, t]) = tellBuild d a k t := by
  show (Cp01.step () (.build ⟨d, a⟩ k t)).2.v :: (Cp01.step () (.build ⟨d, a⟩ k t)).2.l = _
  have e4 : built ⟨d, a⟩ k.toNat t.toNat = (buildS d a k t).map (·.map toN) := by
    unfold built buildS
    rw [← allS_map, mapM_allS, List.map_map]
    congr 1
    apply List.map_congr_left
    intro x _
    exact above_is d a x.1 x.2
  have e5 : (!isNote ⟨d, a⟩ || (!isIn 0 8 k || !isIn 0 (((kinds.getD k.toNat []).length : Nat) : Int) t)) = !(isN d a && isB k t) := by
    rw [isN_is]
    unfold isIn isB kindS
    cases isN d a <;> cases decide (0 ≤ k) <;> cases decide (k ≤ 8) <;> rfl
  simp only [Cp01.step, e4, e5, tellBuild]
  cases isN d a && isB k t
  · rfl
  · cases buildS d a k t with
    | none => rfl
    | some r =>
      show ((r.map toN).length : Int) :: told (r.map toN) = (r.length : Int) :: unpairs r
      rw [told_toN, List.length_map]
end Nb


namespace Nb
open Cp01
/-! ### spell: the best row -/
theorem writ_fin : ∀ p ∈ (List.range 119).map (fun (n : Nat) => (n : Int)), ((writings p).map (·.d)).Pairwise (· < ·) := by decide +kernel
theorem p_mem {p : Int} (h1 : 0 ≤ p) (h2 : p ≤ 118) : p ∈ (List.range 119).map (fun (n : Nat) => (n : Int)) :=
  List.mem_map.mpr ⟨p.toNat, List.mem_range.mpr (by omega), by omega⟩
theorem writ_lt {p : Int} (h1 : 0 ≤ p) (h2 : p ≤ 118) : (writings p).Pairwise fun x y => x.d < y.d :=
  List.pairwise_map.mp (writ_fin p (p_mem h1 h2))
theorem rise_is {p : Int} (h1 : 0 ≤ p) (h2 : p ≤ 118) : rise (writings p) = writings p := by
  unfold rise
  refine List.mergeSort_of_pairwise ?_
  refine (writ_lt h1 h2).imp ?_
  intro a b h
  exact decide_eq_true (by omega)
/-- a row's steps are lower at the first place at which they differ -/
def lx : List Note → List Note → Prop
  | [], [] => False
  | [], _ :: _ => True
  | _ :: _, [] => False
  | x :: xs, y :: ys => x.d < y.d ∨ (x.d = y.d ∧ lx xs ys)
theorem lx_irrefl : ∀ x, ¬ lx x x
  | [], h => h
  | x :: xs, h => by
    rcases h with h | ⟨_, h⟩
    · omega
    · exact lx_irrefl xs h
theorem lx_asymm : ∀ {x y}, lx x y → ¬ lx y x
  | [], [], h, _ => h
  | [], _ :: _, _, h => h
  | _ :: _, [], h, _ => h
  | x :: xs, y :: ys, h, g => by
    rcases h with h | ⟨e, h⟩ <;> rcases g with g | ⟨e', g⟩
    · omega
    · omega
    · omega
    · exact lx_asymm h g
/-- **dearer**: costs more, or as much and its steps are higher at the first place at which they differ -/
def better (k : Int) (x y : List Note) : Prop := cost k x < cost k y ∨ (cost k x = cost k y ∧ lx x y)
theorem flatMap_pw {α β : Type} {R : β → β → Prop} {S : α → α → Prop} {g : α → List β} : ∀ {l : List α}, l.Pairwise S → (∀ a ∈ l, (g a).Pairwise R) → (∀ a ∈ l, ∀ b ∈ l, S a b → ∀ x ∈ g a, ∀ y ∈ g b, R x y) → (l.flatMap g).Pairwise R
  | [], _, _, _ => .nil
  | a :: l, h, h1, h2 => by
    rw [List.flatMap_cons, List.pairwise_append]
    cases h with
    | cons ha hl =>
      refine ⟨h1 a List.mem_cons_self, flatMap_pw hl (fun b hb => h1 b (List.mem_cons_of_mem _ hb)) (fun b hb c hc => h2 b (List.mem_cons_of_mem _ hb) c (List.mem_cons_of_mem _ hc)), ?_⟩
      intro x hx y hy
      obtain ⟨b, hb, hy⟩ := List.mem_flatMap.mp hy
      exact h2 a List.mem_cons_self b (List.mem_cons_of_mem _ hb) (ha b hb) x hx y hy
def inS (l : List Int) : Prop := ∀ p ∈ l, 0 ≤ p ∧ p ≤ 118
theorem ways_cons {p : Int} {l : List Int} (h : inS (p :: l)) : ways (p :: l) = (writings p).flatMap fun n => (ways l).map fun r => n :: r := by
  show (rise (writings p)).flatMap _ = _
  rw [rise_is (h p List.mem_cons_self).1 (h p List.mem_cons_self).2]
theorem inS_tail {p : Int} {l : List Int} (h : inS (p :: l)) : inS l := fun q hq => h q (List.mem_cons_of_mem _ hq)
theorem ways_lx : ∀ {l : List Int}, inS l → (ways l).Pairwise lx
  | [], _ => List.pairwise_singleton _ _
  | p :: l, h => by
    rw [ways_cons h]
    refine flatMap_pw (writ_lt (h p List.mem_cons_self).1 (h p List.mem_cons_self).2) (fun n _ => ?_) (fun a _ b _ hs x hx y hy => ?_)
    · rw [List.pairwise_map]
      exact (ways_lx (inS_tail h)).imp fun hxy => .inr ⟨rfl, hxy⟩
    · obtain ⟨r, _, rfl⟩ := List.mem_map.mp hx
      obtain ⟨q, _, rfl⟩ := List.mem_map.mp hy
      exact .inl hs
/-- the first of the least -/
theorem fold_first (k : Int) : ∀ (r : List (List Note)) (x : List Note), (x :: r).Pairwise lx →
    (r.foldl (fun m y => if cost k y < cost k m then y else m) x) ∈ x :: r ∧ ∀ y ∈ x :: r, y = (r.foldl (fun m y => if cost k y < cost k m then y else m) x) ∨ better k (r.foldl (fun m y => if cost k y < cost k m then y else m) x) y
  | [], x, _ => ⟨List.mem_cons_self, fun y hy => .inl (by simpa using hy)⟩
  | z :: r, x, h => by
    rw [List.foldl_cons]
    cases h with
    | cons hx hr =>
      by_cases c : cost k z < cost k x
      · rw [if_pos c]
        obtain ⟨a, b⟩ := fold_first k r z hr
        refine ⟨List.mem_cons_of_mem _ a, fun y hy => ?_⟩
        cases hy with
        | head =>
          right
          left
          have := b z List.mem_cons_self
          rcases this with e | e | ⟨e, _⟩
          · rw [← e]; exact c
          · omega
          · omega
        | tail _ hy => exact b y hy
      · rw [if_neg c]
        have hxr : (x :: r).Pairwise lx := .cons (fun y hy => hx y (List.mem_cons_of_mem _ hy)) (by cases hr with | cons _ hr => exact hr)
        obtain ⟨a, b⟩ := fold_first k r x hxr
        refine ⟨?_, fun y hy => ?_⟩
        · rcases List.mem_cons.mp a with e | a
          · rw [e]; exact List.mem_cons_self
          · exact List.mem_cons_of_mem _ (List.mem_cons_of_mem _ a)
        · cases hy with
          | head => exact b x List.mem_cons_self
          | tail _ hy =>
            cases hy with
            | head =>
              right
              have q := b x List.mem_cons_self
              rcases q with e | e | ⟨e, g⟩
              · rw [← e]
                by_cases c2 : cost k x < cost k z
                · exact .inl c2
                · exact .inr ⟨by omega, hx z List.mem_cons_self⟩
              · left; omega
              · by_cases c2 : cost k x < cost k z
                · left; omega
                · refine absurd g ?_
                  intro g
                  -- the chosen row stands at or behind x, so it is not ahead of it
                  rcases List.mem_cons.mp a with e | a
                  · rw [e] at g; exact lx_irrefl _ g
                  · exact lx_asymm g (hx _ (List.mem_cons_of_mem _ a))
            | tail _ hy => exact b y (List.mem_cons_of_mem _ hy)
theorem writ_some : ∀ p ∈ (List.range 119).map (fun (n : Nat) => (n : Int)), (writings p).isEmpty = false := by decide +kernel
theorem ways_some : ∀ {l : List Int}, inS l → ways l ≠ []
  | [], _ => by simp [ways]
  | p :: l, h => by
    rw [ways_cons h]
    intro e
    have q := writ_some p (p_mem (h p List.mem_cons_self).1 (h p List.mem_cons_self).2)
    cases e1 : writings p with
    | nil => rw [e1] at q; cases q
    | cons n r =>
      rw [e1, List.flatMap_cons] at e
      have e2 := (List.append_eq_nil_iff.mp e).1
      rw [List.map_eq_nil_iff] at e2
      exact ways_some (inS_tail h) e2
/-- **The best row is the one that no other is better than.** -/
theorem spell_best {k : Int} {l : List Int} (h : inS l) : spell k l ∈ ways l ∧ ∀ y ∈ ways l, y = spell k l ∨ better k (spell k l) y := by
  unfold spell cheapest
  cases e : ways l with
  | nil => exact absurd e (ways_some h)
  | cons x r =>
    have hp := ways_lx h
    rw [e] at hp
    exact fold_first k r x hp
theorem spell_of {k : Int} {l : List Int} {x : List Note} (h : inS l) (hx : x ∈ ways l) (hb : ∀ y ∈ ways l, y = x ∨ better k x y) : spell k l = x := by
  obtain ⟨a, b⟩ := spell_best (k := k) h
  rcases b x hx with e | e
  · exact e.symm
  · rcases hb _ a with e' | e'
    · exact e'
    · exfalso
      rcases e with e | ⟨e, g⟩ <;> rcases e' with e' | ⟨e', g'⟩
      · omega
      · omega
      · omega
      · exact lx_asymm g g'
end Nb


namespace Nb
open Cp01
/-! ### spell and chord: what is due -/
def rSnd (s : Int) : Bool := decide (0 ≤ s) && decide (s ≤ 118)
def rK (k : Int) : Bool := decide (-7 ≤ k) && decide (k ≤ 7)
def tellSpell (k : Int) (l : List Int) : List Int := if rK k && (l.all rSnd && decide (l.length ≤ 6)) then ((cost k (spell k l) : Nat) : Int) :: told (spell k l) else [-1]
theorem due_spell (k : Int) (l : List Int) : due (6, k :: l) = tellSpell k l := by
  show (Cp01.step () (.spell k l)).2.v :: (Cp01.step () (.spell k l)).2.l = _
  have e5 : (!isIn (-7) 7 k || (!l.all (isIn 0 118) || decide (6 < l.length))) = !(rK k && (l.all rSnd && decide (l.length ≤ 6))) := by
    have e : decide (6 < l.length) = !decide (l.length ≤ 6) := by
      rw [← decide_not]
      exact decide_eq_decide.mpr (by omega)
    have e2 : isIn (-7) 7 k = rK k := rfl
    have e3 : l.all (isIn 0 118) = l.all rSnd := rfl
    rw [e, e2, e3]
    cases rK k <;> cases l.all rSnd <;> cases decide (l.length ≤ 6) <;> rfl
  simp only [Cp01.step, e5, tellSpell]
  cases rK k && (l.all rSnd && decide (l.length ≤ 6)) <;> rfl
/-- the name st steps and x semitones above a root's name -/
def pn (r : Int × Int) (st x : Int) : Int × Int := ((r.1 + st) % 7, plainS r.1 + r.2 + x - plainS (r.1 + st))
theorem plain_lo {r : Int} (h1 : 0 ≤ r) (h2 : r ≤ 6) : plainS r = whites.getD r.toNat 0 := by
  unfold plainS
  have e1 : r / 7 = 0 := by omega
  have e2 : r % 7 = r := by omega
  rw [e1, e2]
  show 12 * 0 + whites.getD r.toNat 0 = _
  omega
theorem plain_next (r : Int) : plainS r = 12 * (r / 7) + whites.getD (r % 7).toNat 0 := rfl
theorem part_is {r y : Int × Int} {st x : Int} (r1 : 0 ≤ r.1) (r2 : r.1 ≤ 6) (y1 : 0 ≤ y.1) (y2 : y.1 ≤ 6) (s1 : 0 < st) (s2 : st < 7) :
    ((y.1 - r.1) % 7 == st && overRoot r y == x) = decide (y = pn r st x) := by
  rw [Bool.eq_iff_iff]
  simp only [Bool.and_eq_true, beq_iff_eq, decide_eq_true_eq]
  unfold overRoot pn
  rw [plain_lo r1 r2, plain_next]
  constructor
  · rintro ⟨a, b⟩
    have c : (r.1 + st) % 7 = y.1 := by omega
    refine Prod.ext c.symm ?_
    show y.2 = _
    rw [c]
    by_cases g : y.1 < r.1
    · rw [if_pos g] at b
      have d : (r.1 + st) / 7 = 1 := by omega
      rw [d]
      omega
    · rw [if_neg g] at b
      have d : (r.1 + st) / 7 = 0 := by omega
      rw [d]
      omega
  · intro e
    have c : y.1 = (r.1 + st) % 7 := congrArg Prod.fst e
    have c2 : y.2 = whites.getD r.1.toNat 0 + r.2 + x - (12 * ((r.1 + st) / 7) + whites.getD ((r.1 + st) % 7).toNat 0) := congrArg Prod.snd e
    refine ⟨by omega, ?_⟩
    rw [← c] at c2
    by_cases g : y.1 < r.1
    · rw [if_pos g]
      have d : (r.1 + st) / 7 = 1 := by omega
      rw [d] at c2
      omega
    · rw [if_neg g]
      have d : (r.1 + st) / 7 = 0 := by omega
      rw [d] at c2
      omega
/-- names whose steps lie in one octave -/
def Nms (s : List (Int × Int)) : Prop := ∀ y ∈ s, 0 ≤ y.1 ∧ y.1 ≤ 6
theorem any_part {r : Int × Int} {st x : Int} (r1 : 0 ≤ r.1) (r2 : r.1 ≤ 6) (s1 : 0 < st) (s2 : st < 7) : ∀ {s : List (Int × Int)}, Nms s →
    (s.any fun y => (y.1 - r.1) % 7 == st && overRoot r y == x) = s.contains (pn r st x)
  | [], _ => rfl
  | y :: s, h => by
    have h1 := h y List.mem_cons_self
    show (((y.1 - r.1) % 7 == st && overRoot r y == x) || s.any _) = ((pn r st x == y) || s.contains (pn r st x))
    rw [any_part r1 r2 s1 s2 fun z hz => h z (List.mem_cons_of_mem _ hz), part_is r1 r2 h1.1 h1.2 s1 s2]
    congr 1
    rw [BEq.comm, Bool.beq_eq_decide_eq]
/-- the parts above the root of a kind -/
def kparts (k : List Int) : List (Int × Int) := k.zipIdx.map fun x => (2 * (x.2 : Int) + 2, x.1)
theorem kparts_fin : ∀ k ∈ kinds, ∀ x ∈ kparts k, 0 < x.1 ∧ x.1 < 7 := by decide
theorem isChord_is {r : Int × Int} {k : List Int} {s : List (Int × Int)} (hk : k ∈ kinds) (hs : Nms s) (hr : r ∈ s) : isChord r k s = (s.length == k.length + 1 && (kparts k).all fun x => s.contains (pn r x.1 x.2)) := by
  unfold isChord kparts
  rw [List.all_map]
  congr 1
  rw [Bool.eq_iff_iff, List.all_eq_true, List.all_eq_true]
  have h1 := hs r hr
  constructor
  · intro h x hx
    have q := h x hx
    have z := kparts_fin k hk (2 * (x.2 : Int) + 2, x.1) (List.mem_map.mpr ⟨x, hx, rfl⟩)
    rw [any_part h1.1 h1.2 z.1 z.2 hs] at q
    exact q
  · intro h x hx
    have q := h x hx
    have z := kparts_fin k hk (2 * (x.2 : Int) + 2, x.1) (List.mem_map.mpr ⟨x, hx, rfl⟩)
    rw [any_part h1.1 h1.2 z.1 z.2 hs]
    exact q
/-- the different names, in the order in which they come -/
def nmsS (l : List (Int × Int)) : List (Int × Int) := distinct (l.map fun x => (x.1 % 7, x.2))
theorem names_is (l : List (Int × Int)) : names (l.map toN) = nmsS l := by
  unfold names nmsS
  rw [List.map_map]
  rfl
theorem fold_mem {α : Type} [BEq α] [LawfulBEq α] : ∀ (l acc : List α) (x : α), x ∈ l.foldl (fun m x => if m.contains x then m else m ++ [x]) acc ↔ x ∈ acc ∨ x ∈ l
  | [], acc, x => by simp
  | y :: l, acc, x => by
    rw [List.foldl_cons, fold_mem l]
    by_cases h : acc.contains y = true
    · rw [if_pos h]
      have h' : y ∈ acc := List.contains_iff_mem.mp h
      constructor
      · rintro (a | a)
        · exact .inl a
        · exact .inr (List.mem_cons_of_mem _ a)
      · rintro (a | a)
        · exact .inl a
        · rcases List.mem_cons.mp a with e | a
          · exact .inl (e ▸ h')
          · exact .inr a
    · rw [if_neg h]
      simp only [List.mem_append, List.mem_cons, List.not_mem_nil, or_false]
      constructor
      · rintro ((a | a) | a)
        · exact .inl a
        · exact .inr (.inl a)
        · exact .inr (.inr a)
      · rintro (a | a | a)
        · exact .inl (.inl a)
        · exact .inl (.inr a)
        · exact .inr a
theorem fold_nodup {α : Type} [BEq α] [LawfulBEq α] : ∀ (l acc : List α), acc.Nodup → (l.foldl (fun m x => if m.contains x then m else m ++ [x]) acc).Nodup
  | [], acc, h => h
  | y :: l, acc, h => by
    rw [List.foldl_cons]
    refine fold_nodup l _ ?_
    by_cases c : acc.contains y = true
    · rw [if_pos c]; exact h
    · rw [if_neg c]
      refine List.nodup_append.mpr ⟨h, List.nodup_cons.mpr ⟨by simp, List.nodup_nil⟩, ?_⟩
      intro a ha b hb e
      rw [List.mem_singleton.mp hb] at e
      exact c (List.contains_iff_mem.mpr (e ▸ ha))
theorem nms_mem {l : List (Int × Int)} {y : Int × Int} : y ∈ nmsS l ↔ y ∈ l.map fun x => (x.1 % 7, x.2) := by
  unfold nmsS distinct
  rw [fold_mem]
  simp
theorem nms_nodup (l : List (Int × Int)) : (nmsS l).Nodup := fold_nodup _ _ List.nodup_nil
theorem nms_ok (l : List (Int × Int)) : Nms (nmsS l) := by
  intro y hy
  obtain ⟨x, _, rfl⟩ := List.mem_map.mp (nms_mem.mp hy)
  exact ⟨by show 0 ≤ x.1 % 7; omega, by show x.1 % 7 ≤ 6; omega⟩
end Nb


namespace Nb
open Cp01
theorem sub_of {α : Type} [DecidableEq α] : ∀ {t s : List α}, t.Nodup → (∀ x ∈ t, x ∈ s) → s.length ≤ t.length → ∀ x ∈ s, x ∈ t
  | [], s, _, _, hl, x, hx => by
    have e : s = [] := List.eq_nil_of_length_eq_zero (by simpa using hl)
    rw [e] at hx
    exact hx
  | a :: t, s, hn, hsub, hl, x, hx => by
    have ha : a ∈ s := hsub a List.mem_cons_self
    obtain ⟨hat, hnt⟩ := List.nodup_cons.mp hn
    by_cases e : x = a
    · rw [e]; exact List.mem_cons_self
    · refine List.mem_cons_of_mem _ (sub_of (s := s.erase a) hnt (fun y hy => ?_) ?_ x ((List.mem_erase_of_ne e).mpr hx))
      · have : y ≠ a := fun z => hat (z ▸ hy)
        exact (List.mem_erase_of_ne this).mpr (hsub y (List.mem_cons_of_mem _ hy))
      · rw [List.length_erase_of_mem ha]
        have : s.length ≤ t.length + 1 := hl
        omega
/-- these names are just this root's and its parts' -/
structure Fits (s : List (Int × Int)) (r : Int × Int) (i : Nat) : Prop where
  mem : r ∈ s
  lt : i < 9
  chord : isChord r (kinds.getD i []) s = true
theorem kind_cases : ∀ i : Nat, i < 9 → (kinds.getD i [] ∈ kinds) ∧ ((∃ x y, kinds.getD i [] = [x, y]) ∨ ∃ x y z, kinds.getD i [] = [x, y, z]) := by
  intro i hi
  match i, hi with
  | 0, _ => exact ⟨by decide, .inl ⟨_, _, rfl⟩⟩
  | 1, _ => exact ⟨by decide, .inl ⟨_, _, rfl⟩⟩
  | 2, _ => exact ⟨by decide, .inl ⟨_, _, rfl⟩⟩
  | 3, _ => exact ⟨by decide, .inl ⟨_, _, rfl⟩⟩
  | 4, _ => exact ⟨by decide, .inr ⟨_, _, _, rfl⟩⟩
  | 5, _ => exact ⟨by decide, .inr ⟨_, _, _, rfl⟩⟩
  | 6, _ => exact ⟨by decide, .inr ⟨_, _, _, rfl⟩⟩
  | 7, _ => exact ⟨by decide, .inr ⟨_, _, _, rfl⟩⟩
  | 8, _ => exact ⟨by decide, .inr ⟨_, _, _, rfl⟩⟩
theorem kind_inj : ∀ i ∈ List.range 9, ∀ j ∈ List.range 9, kinds.getD i [] = kinds.getD j [] → i = j := by decide
theorem fits_parts {s : List (Int × Int)} (hs : Nms s) {r : Int × Int} {i : Nat} (f : Fits s r i) :
    (∃ x y, kinds.getD i [] = [x, y] ∧ s.length = 3 ∧ pn r 2 x ∈ s ∧ pn r 4 y ∈ s) ∨ ∃ x y z, kinds.getD i [] = [x, y, z] ∧ s.length = 4 ∧ pn r 2 x ∈ s ∧ pn r 4 y ∈ s ∧ pn r 6 z ∈ s := by
  obtain ⟨hk, hc⟩ := kind_cases i f.lt
  have h := f.chord
  rw [isChord_is hk hs f.mem, Bool.and_eq_true, beq_iff_eq, List.all_eq_true] at h
  obtain ⟨h1, h2⟩ := h
  rcases hc with ⟨x, y, e⟩ | ⟨x, y, z, e⟩
  · rw [e] at h1 h2
    exact .inl ⟨x, y, e, h1, List.contains_iff_mem.mp (h2 (2, x) List.mem_cons_self), List.contains_iff_mem.mp (h2 (4, y) (List.mem_cons_of_mem _ List.mem_cons_self))⟩
  · rw [e] at h1 h2
    exact .inr ⟨x, y, z, e, h1, List.contains_iff_mem.mp (h2 (2, x) List.mem_cons_self), List.contains_iff_mem.mp (h2 (4, y) (List.mem_cons_of_mem _ List.mem_cons_self)),
      List.contains_iff_mem.mp (h2 (6, z) (List.mem_cons_of_mem _ (List.mem_cons_of_mem _ List.mem_cons_self)))⟩
theorem pn_fst (r : Int × Int) (st x : Int) : (pn r st x).1 = (r.1 + st) % 7 := rfl
theorem pn_inj {r : Int × Int} {st x y : Int} (h : pn r st x = pn r st y) : x = y := by
  have e : plainS r.1 + r.2 + x - plainS (r.1 + st) = plainS r.1 + r.2 + y - plainS (r.1 + st) := congrArg Prod.snd h
  omega
theorem ne_fst {a b : Int × Int} (h : a.1 ≠ b.1) : a ≠ b := fun e => h (congrArg Prod.fst e)
theorem fits_all3 {s : List (Int × Int)} (hs : Nms s) {r p q : Int × Int} (hr : r ∈ s) (hp : p ∈ s) (hq : q ∈ s) (ep : p.1 = (r.1 + 2) % 7) (eq : q.1 = (r.1 + 4) % 7) (hl : s.length = 3) : ∀ y ∈ s, y = r ∨ y = p ∨ y = q := by
  have h1 := hs r hr
  intro y hy
  have n : [r, p, q].Nodup := by
    refine List.nodup_cons.mpr ⟨?_, List.nodup_cons.mpr ⟨?_, List.nodup_cons.mpr ⟨by simp, List.nodup_nil⟩⟩⟩
    · simp only [List.mem_cons, List.not_mem_nil, or_false, not_or]
      exact ⟨ne_fst (by omega), ne_fst (by omega)⟩
    · simp only [List.mem_cons, List.not_mem_nil, or_false]
      exact ne_fst (by omega)
  have z := sub_of n (fun x hx => by
    simp only [List.mem_cons, List.not_mem_nil, or_false] at hx
    rcases hx with rfl | rfl | rfl <;> assumption) (by rw [hl]; exact Nat.le_refl _) y hy
  simpa only [List.mem_cons, List.not_mem_nil, or_false] using z
theorem fits_all4 {s : List (Int × Int)} (hs : Nms s) {r p q v : Int × Int} (hr : r ∈ s) (hp : p ∈ s) (hq : q ∈ s) (hv : v ∈ s) (ep : p.1 = (r.1 + 2) % 7) (eq : q.1 = (r.1 + 4) % 7) (ev : v.1 = (r.1 + 6) % 7) (hl : s.length = 4) :
    ∀ y ∈ s, y = r ∨ y = p ∨ y = q ∨ y = v := by
  have h1 := hs r hr
  intro y hy
  have n : [r, p, q, v].Nodup := by
    refine List.nodup_cons.mpr ⟨?_, List.nodup_cons.mpr ⟨?_, List.nodup_cons.mpr ⟨?_, List.nodup_cons.mpr ⟨by simp, List.nodup_nil⟩⟩⟩⟩
    · simp only [List.mem_cons, List.not_mem_nil, or_false, not_or]
      exact ⟨ne_fst (by omega), ne_fst (by omega), ne_fst (by omega)⟩
    · simp only [List.mem_cons, List.not_mem_nil, or_false, not_or]
      exact ⟨ne_fst (by omega), ne_fst (by omega)⟩
    · simp only [List.mem_cons, List.not_mem_nil, or_false]
      exact ne_fst (by omega)
  have z := sub_of n (fun x hx => by
    simp only [List.mem_cons, List.not_mem_nil, or_false] at hx
    rcases hx with rfl | rfl | rfl | rfl <;> assumption) (by rw [hl]; exact Nat.le_refl _) y hy
  simpa only [List.mem_cons, List.not_mem_nil, or_false] using z
/-- **At most one root and one kind.** -/
theorem fits_uniq {s : List (Int × Int)} (hs : Nms s) {r r' : Int × Int} {i i' : Nat} (f : Fits s r i) (f' : Fits s r' i') : r = r' ∧ i = i' := by
  have b := hs r f.mem
  have b' := hs r' f'.mem
  have fin : kinds.getD i [] = kinds.getD i' [] → i = i' := fun e => kind_inj i (List.mem_range.mpr f.lt) i' (List.mem_range.mpr f'.lt) e
  rcases fits_parts hs f with ⟨x, y, e, hl, hx, hy⟩ | ⟨x, y, z, e, hl, hx, hy, hz⟩ <;> rcases fits_parts hs f' with ⟨x', y', e', hl', hx', hy'⟩ | ⟨x', y', z', e', hl', hx', hy', hz'⟩
  · have al := fits_all3 hs f.mem hx hy rfl rfl hl
    have hr : r = r' := by
      have q2 := al _ hx'
      have q4 := al _ hy'
      rcases al r' f'.mem with h | h | h
      · exact h.symm
      · exfalso
        have h := congrArg Prod.fst h
        rw [pn_fst] at h
        rcases q4 with q | q | q <;> have q := congrArg Prod.fst q <;> simp only [pn_fst] at q <;> omega
      · exfalso
        have h := congrArg Prod.fst h
        rw [pn_fst] at h
        rcases q2 with q | q | q <;> have q := congrArg Prod.fst q <;> simp only [pn_fst] at q <;> omega
    subst hr
    refine ⟨rfl, fin ?_⟩
    have ex : x' = x := by
      rcases al _ hx' with q | q | q
      · have q := congrArg Prod.fst q; simp only [pn_fst] at q; omega
      · exact pn_inj q
      · have q := congrArg Prod.fst q; simp only [pn_fst] at q; omega
    have ey : y' = y := by
      rcases al _ hy' with q | q | q
      · have q := congrArg Prod.fst q; simp only [pn_fst] at q; omega
      · have q := congrArg Prod.fst q; simp only [pn_fst] at q; omega
      · exact pn_inj q
    rw [e, e', ex, ey]
  · omega
  · omega
  · have al := fits_all4 hs f.mem hx hy hz rfl rfl rfl hl
    have hr : r = r' := by
      have q2 := al _ hx'
      have q4 := al _ hy'
      have q6 := al _ hz'
      rcases al r' f'.mem with h | h | h | h
      · exact h.symm
      · exfalso
        have h := congrArg Prod.fst h
        rw [pn_fst] at h
        rcases q6 with q | q | q | q <;> have q := congrArg Prod.fst q <;> simp only [pn_fst] at q <;> omega
      · exfalso
        have h := congrArg Prod.fst h
        rw [pn_fst] at h
        rcases q4 with q | q | q | q <;> have q := congrArg Prod.fst q <;> simp only [pn_fst] at q <;> omega
      · exfalso
        have h := congrArg Prod.fst h
        rw [pn_fst] at h
        rcases q2 with q | q | q | q <;> have q := congrArg Prod.fst q <;> simp only [pn_fst] at q <;> omega
    subst hr
    refine ⟨rfl, fin ?_⟩
    have ex : x' = x := by
      rcases al _ hx' with q | q | q | q
      · have q := congrArg Prod.fst q; simp only [pn_fst] at q; omega
      · exact pn_inj q
      · have q := congrArg Prod.fst q; simp only [pn_fst] at q; omega
      · have q := congrArg Prod.fst q; simp only [pn_fst] at q; omega
    have ey : y' = y := by
      rcases al _ hy' with q | q | q | q
      · have q := congrArg Prod.fst q; simp only [pn_fst] at q; omega
      · have q := congrArg Prod.fst q; simp only [pn_fst] at q; omega
      · exact pn_inj q
      · have q := congrArg Prod.fst q; simp only [pn_fst] at q; omega
    have ez : z' = z := by
      rcases al _ hz' with q | q | q | q
      · have q := congrArg Prod.fst q; simp only [pn_fst] at q; omega
      · have q := congrArg Prod.fst q; simp only [pn_fst] at q; omega
      · have q := congrArg Prod.fst q; simp only [pn_fst] at q; omega
      · exact pn_inj q
    rw [e, e', ex, ey, ez]
def turnS (n r : Int × Int) : Nat := ((n.1 - r.1) % 7 / 2).toNat
/-- the roots and kinds that fit, in the specification's order -/
def cands (n : Int × Int) (s : List (Int × Int)) : List Chord := s.flatMap fun r => (List.range kinds.length).filterMap fun i => if isChord r (kinds.getD i []) s then some (⟨r, i, turnS n r⟩ : Chord) else none
theorem cands_mem {n : Int × Int} {s : List (Int × Int)} {c : Chord} : c ∈ cands n s ↔ Fits s c.root c.kind ∧ c.turn = turnS n c.root := by
  unfold cands
  simp only [List.mem_flatMap, List.mem_filterMap]
  constructor
  · rintro ⟨r, hr, i, hi, h⟩
    split at h
    · rename_i hc
      cases h
      exact ⟨⟨hr, List.mem_range.mp hi, hc⟩, rfl⟩
    · cases h
  · rintro ⟨⟨hr, hi, hc⟩, ht⟩
    obtain ⟨r, i, t⟩ := c
    refine ⟨r, hr, i, List.mem_range.mpr hi, ?_⟩
    rw [if_pos hc]
    have ht : t = turnS n r := ht
    rw [ht]
theorem chord_cands (n : Int × Int) (l : List (Int × Int)) : Cp01.chord ((n :: l).map toN) = (cands n (nmsS (n :: l))).head? := by
  show (let s := names ((n :: l).map toN); (s.flatMap fun r => (List.range kinds.length).filterMap fun i => if isChord r (kinds.getD i []) s then some (⟨r, i, (((toN n).d - r.1) % 7 / 2).toNat⟩ : Chord) else none).head?) = _
  rw [names_is]
  rfl
theorem chord_of {n : Int × Int} {l : List (Int × Int)} {r : Int × Int} {i : Nat} (f : Fits (nmsS (n :: l)) r i) : Cp01.chord ((n :: l).map toN) = some ⟨r, i, turnS n r⟩ := by
  rw [chord_cands]
  have h : (⟨r, i, turnS n r⟩ : Chord) ∈ cands n (nmsS (n :: l)) := cands_mem.mpr ⟨f, rfl⟩
  cases e : cands n (nmsS (n :: l)) with
  | nil => rw [e] at h; cases h
  | cons c rest =>
    have hc : c ∈ cands n (nmsS (n :: l)) := by rw [e]; exact List.mem_cons_self
    obtain ⟨fc, tc⟩ := cands_mem.mp hc
    obtain ⟨e1, e2⟩ := fits_uniq (nms_ok _) f fc
    obtain ⟨r', i', t'⟩ := c
    replace e1 : r = r' := e1
    replace e2 : i = i' := e2
    replace tc : t' = turnS n r' := tc
    rw [tc, ← e1, ← e2]
    rfl
theorem chord_none {n : Int × Int} {l : List (Int × Int)} (h : ∀ r i, ¬ Fits (nmsS (n :: l)) r i) : Cp01.chord ((n :: l).map toN) = none := by
  rw [chord_cands]
  cases e : cands n (nmsS (n :: l)) with
  | nil => rfl
  | cons c rest =>
    have hc : c ∈ cands n (nmsS (n :: l)) := by rw [e]; exact List.mem_cons_self
    exact absurd (cands_mem.mp hc).1 (h _ _)
def tellChord (l : List (Int × Int)) : List Int := if (l.all fun x => isN x.1 x.2) && (!l.isEmpty && decide (l.length ≤ 8)) then (match Cp01.chord (l.map toN) with
    | none => [-3]
    | some x => x.root.1 :: x.root.2 :: (x.kind : Int) :: (x.turn : Int) :: figures x.kind x.turn) else [-1]
theorem due_chord {ns : List Int} (h : (Cp01Neutral.notes? ns).isSome = true) : due (7, ns) = tellChord (pairs ns) := by
  obtain ⟨_, e⟩ := notes_pairs h
  have ec : Cp01Neutral.callOf (7 :: ns) = some (.chord ((pairs ns).map toN)) := by
    show (Cp01Neutral.notes? ns).map Call.chord = _
    rw [e]
    rfl
  unfold due
  simp only [ec]
  generalize pairs ns = l
  have e5 : (!(l.map toN).all isNote || ((l.map toN).isEmpty || decide (8 < (l.map toN).length))) = !((l.all fun x => isN x.1 x.2) && (!l.isEmpty && decide (l.length ≤ 8))) := by
    have e3 : decide (8 < (l.map toN).length) = !decide (l.length ≤ 8) := by
      rw [List.length_map, ← decide_not]
      exact decide_eq_decide.mpr (by omega)
    rw [all_isN, e3, List.isEmpty_map]
    cases l.all fun x => isN x.1 x.2 <;> cases l.isEmpty <;> cases decide (l.length ≤ 8) <;> rfl
  simp only [Cp01.step, e5, tellChord]
  cases (l.all fun x => isN x.1 x.2) && (!l.isEmpty && decide (l.length ≤ 8))
  · rfl
  · cases Cp01.chord (l.map toN) <;> rfl
end Nb


set_option Elab.async false
set_option linter.all false
set_option maxRecDepth 100000
set_option maxHeartbeats 2000000
namespace Nb
open Cp01
/-! ### spell: only the best row to each last note is kept -/
def rowOf (k : Int) (x : List Note) : List Int := ((cost k x : Nat) : Int) :: told x
theorem lx_trans : ∀ {x y z : List Note}, lx x y → lx y z → lx x z
  | [], _, [], h, g => by
    rename_i y
    cases y with
    | nil => exact h
    | cons _ _ => exact g
  | [], _, _ :: _, _, _ => trivial
  | _ :: _, [], _, h, _ => h.elim
  | _ :: _, _ :: _, [], _, g => g.elim
  | a :: x, b :: y, c :: z, h, g => by
    rcases h with h | ⟨e, h⟩ <;> rcases g with g | ⟨e', g⟩
    · exact .inl (by omega)
    · exact .inl (by omega)
    · exact .inl (by omega)
    · exact .inr ⟨by omega, lx_trans h g⟩
theorem better_trans {k : Int} {x y z : List Note} (h : better k x y) (g : better k y z) : better k x z := by
  rcases h with h | ⟨e, h⟩ <;> rcases g with g | ⟨e', g⟩
  · exact .inl (by omega)
  · exact .inl (by omega)
  · exact .inl (by omega)
  · exact .inr ⟨by omega, lx_trans h g⟩
def snds (x : List Note) : List Int := x.map fun n => n.sound
theorem note_eq {m n : Note} (hd : m.d = n.d) (hs : m.sound = n.sound) : m = n := by
  obtain ⟨d, a⟩ := m
  obtain ⟨e, b⟩ := n
  have hd : d = e := hd
  subst hd
  have hs : plainS d + a = plainS d + b := hs
  have : a = b := by omega
  subst this
  rfl
theorem lx_total : ∀ {x y : List Note}, snds x = snds y → x = y ∨ lx x y ∨ lx y x
  | [], [], _ => .inl rfl
  | [], _ :: _, h => by cases h
  | _ :: _, [], h => by cases h
  | m :: x, n :: y, h => by
    have h1 : m.sound = n.sound := (List.cons.inj h).1
    have h2 : snds x = snds y := (List.cons.inj h).2
    by_cases c1 : m.d < n.d
    · exact .inr (.inl (.inl c1))
    by_cases c2 : n.d < m.d
    · exact .inr (.inr (.inl c2))
    have hd : m.d = n.d := by omega
    have e := note_eq hd h1
    subst e
    rcases lx_total h2 with e | e | e
    · exact .inl (by rw [e])
    · exact .inr (.inl (.inr ⟨rfl, e⟩))
    · exact .inr (.inr (.inr ⟨rfl, e⟩))
theorem better_total {k : Int} {x y : List Note} (h : snds x = snds y) : x = y ∨ better k x y ∨ better k y x := by
  by_cases c1 : cost k x < cost k y
  · exact .inr (.inl (.inl c1))
  by_cases c2 : cost k y < cost k x
  · exact .inr (.inr (.inl c2))
  have e : cost k x = cost k y := by omega
  rcases lx_total h with g | g | g
  · exact .inl g
  · exact .inr (.inl (.inr ⟨e, g⟩))
  · exact .inr (.inr (.inr ⟨e.symm, g⟩))
theorem told_cons (n : Note) (x : List Note) : told (n :: x) = n.d :: n.a :: told x := rfl
theorem listLt_cons (a b : Int) (x y : List Int) : PySem.W.listLt (a :: x) (b :: y) = if a = b then PySem.W.listLt x y else decide (a < b) := by
  rw [PySem.W.listLt]
  rfl
theorem told_lt : ∀ {x y : List Note}, snds x = snds y → (PySem.W.listLt (told x) (told y) = true ↔ lx x y)
  | [], [], _ => by
    show PySem.W.listLt ([] : List Int) [] = true ↔ False
    simp [PySem.W.listLt]
  | [], _ :: _, h => by cases h
  | _ :: _, [], h => by cases h
  | m :: x, n :: y, h => by
    have h1 : m.sound = n.sound := (List.cons.inj h).1
    have h2 : snds x = snds y := (List.cons.inj h).2
    rw [told_cons, told_cons, listLt_cons]
    by_cases hd : m.d = n.d
    · rw [if_pos hd, listLt_cons]
      have e := note_eq hd h1
      subst e
      rw [if_pos rfl, told_lt h2]
      constructor
      · exact fun g => .inr ⟨rfl, g⟩
      · rintro (g | ⟨_, g⟩)
        · omega
        · exact g
    · rw [if_neg hd, decide_eq_true_eq]
      constructor
      · exact fun g => .inl g
      · rintro (g | ⟨e, _⟩)
        · exact g
        · exact absurd e hd
theorem row_lt {k : Int} {x y : List Note} (h : snds x = snds y) : PySem.W.listLt (rowOf k x) (rowOf k y) = true ↔ better k x y := by
  unfold rowOf
  rw [listLt_cons]
  by_cases e : cost k x = cost k y
  · rw [if_pos (by omega), told_lt h]
    exact ⟨fun g => .inr ⟨e, g⟩, fun g => by
      rcases g with g | ⟨_, g⟩
      · omega
      · exact g⟩
  · rw [if_neg (by omega), decide_eq_true_eq]
    exact ⟨fun g => .inl (by omega), fun g => by
      rcases g with g | ⟨g, _⟩
      · omega
      · exact absurd g e⟩
/-- the first of the least -/
theorem min_rows {k : Int} {l : List Int} : ∀ (xs : List (List Note)) (a : List Note), snds a = l → (∀ x ∈ xs, snds x = l) →
    ∃ m, PySem.W.minOf (rowOf k a) (xs.map (rowOf k)) = rowOf k m ∧ m ∈ a :: xs ∧ ∀ x ∈ a :: xs, x = m ∨ better k m x
  | [], a, _, _ => ⟨a, rfl, List.mem_cons_self, fun x hx => .inl (by simpa using hx)⟩
  | y :: xs, a, ha, hx => by
    have hy := hx y List.mem_cons_self
    have hxs : ∀ x ∈ xs, snds x = l := fun x h => hx x (List.mem_cons_of_mem _ h)
    have e : PySem.W.minOf (rowOf k a) ((y :: xs).map (rowOf k)) = PySem.W.minOf (if PySem.W.listLt (rowOf k y) (rowOf k a) = true then rowOf k y else rowOf k a) (xs.map (rowOf k)) := rfl
    rw [e]
    by_cases c : PySem.W.listLt (rowOf k y) (rowOf k a) = true
    · rw [if_pos c]
      have hb := (row_lt (hy.trans ha.symm)).mp c
      obtain ⟨m, e, hm, h⟩ := min_rows xs y hy hxs
      refine ⟨m, e, List.mem_cons_of_mem _ hm, fun x hx => ?_⟩
      cases hx with
      | head =>
        rcases h y List.mem_cons_self with g | g
        · exact .inr (g ▸ hb)
        · exact .inr (better_trans g hb)
      | tail _ hx => exact h x hx
    · rw [if_neg c]
      have hb : ¬ better k y a := fun g => c ((row_lt (hy.trans ha.symm)).mpr g)
      obtain ⟨m, e, hm, h⟩ := min_rows xs a ha hxs
      refine ⟨m, e, ?_, fun x hx => ?_⟩
      · rcases List.mem_cons.mp hm with g | g
        · rw [g]; exact List.mem_cons_self
        · exact List.mem_cons_of_mem _ (List.mem_cons_of_mem _ g)
      · cases hx with
        | head => exact h a List.mem_cons_self
        | tail _ hx =>
          cases hx with
          | head =>
            have ya : y = a ∨ better k a y := by
              rcases better_total (k := k) (hy.trans ha.symm) with g | g | g
              · exact .inl g
              · exact absurd g hb
              · exact .inr g
            rcases ya with g | g
            · rw [g]; exact h a List.mem_cons_self
            · rcases h a List.mem_cons_self with f | f
              · exact .inr (f ▸ g)
              · exact .inr (better_trans f g)
          | tail _ hx => exact h x (List.mem_cons_of_mem _ hx)
/-! ### a row with one more note behind -/
/-- what the step from the row's last note costs -/
def link (x : List Note) (n : Note) : Nat := match x.getLast? with
  | none => 0
  | some m => (2 * (n.fifths - m.fifths)).natAbs
theorem cost_snoc (k : Int) (n : Note) : ∀ x : List Note, cost k (x ++ [n]) = cost k x + (2 * n.fifths - (2 * k + 4)).natAbs + link x n
  | [] => by
    show (2 * n.fifths - (2 * k + 4)).natAbs + 0 + 0 = 0 + (2 * n.fifths - (2 * k + 4)).natAbs + 0
    omega
  | [m] => by
    show (2 * m.fifths - (2 * k + 4)).natAbs + (2 * (n.fifths - m.fifths)).natAbs + ((2 * n.fifths - (2 * k + 4)).natAbs + 0 + 0) = ((2 * m.fifths - (2 * k + 4)).natAbs + 0 + 0) + (2 * n.fifths - (2 * k + 4)).natAbs + (2 * (n.fifths - m.fifths)).natAbs
    omega
  | m :: o :: x => by
    have ih := cost_snoc k n (o :: x)
    have e1 : cost k ((m :: o :: x) ++ [n]) = (2 * m.fifths - (2 * k + 4)).natAbs + (2 * (o.fifths - m.fifths)).natAbs + cost k ((o :: x) ++ [n]) := rfl
    have e2 : cost k (m :: o :: x) = (2 * m.fifths - (2 * k + 4)).natAbs + (2 * (o.fifths - m.fifths)).natAbs + cost k (o :: x) := rfl
    have e3 : link (m :: o :: x) n = link (o :: x) n := by
      unfold link
      rw [List.getLast?_cons_cons]
    rw [e1, e2, ih, e3]
    omega
theorem told_snoc (x : List Note) (n : Note) : told (x ++ [n]) = told x ++ [n.d, n.a] := by
  unfold told
  rw [List.flatMap_append]
  rfl
theorem lx_snoc {n : Note} : ∀ {x y : List Note}, x.length = y.length → lx x y → lx (x ++ [n]) (y ++ [n])
  | [], [], _, h => h.elim
  | [], _ :: _, h, _ => by cases h
  | _ :: _, [], h, _ => by cases h
  | a :: x, b :: y, hl, h => by
    rcases h with h | ⟨e, h⟩
    · exact .inl h
    · exact .inr ⟨e, lx_snoc (by simpa using hl) h⟩
theorem better_snoc {k : Int} {n : Note} {x y : List Note} (hl : x.length = y.length) (hz : x.getLast? = y.getLast?) (h : better k x y) : better k (x ++ [n]) (y ++ [n]) := by
  unfold better
  rw [cost_snoc, cost_snoc]
  have e : link x n = link y n := by unfold link; rw [hz]
  rw [e]
  rcases h with h | ⟨h1, h2⟩
  · exact .inl (by omega)
  · exact .inr ⟨by omega, lx_snoc hl h2⟩
/-! ### ways, from the front -/
theorem writ_snd {p : Int} {n : Note} (h : n ∈ writings p) : n.sound = p := by
  unfold writings at h
  obtain ⟨a, _, h⟩ := List.mem_flatMap.mp h
  have := (List.mem_filter.mp h).2
  simpa using this
theorem mem_ways_cons {p : Int} {l : List Int} (h : inS (p :: l)) {y : List Note} : y ∈ ways (p :: l) ↔ ∃ n ∈ writings p, ∃ r ∈ ways l, y = n :: r := by
  rw [ways_cons h, List.mem_flatMap]
  constructor
  · rintro ⟨n, hn, hy⟩
    obtain ⟨r, hr, e⟩ := List.mem_map.mp hy
    exact ⟨n, hn, r, hr, e.symm⟩
  · rintro ⟨n, hn, r, hr, e⟩
    exact ⟨n, hn, List.mem_map.mpr ⟨r, hr, e.symm⟩⟩
theorem ways_snd : ∀ {l : List Int}, inS l → ∀ {y : List Note}, y ∈ ways l → snds y = l
  | [], _, y, h => by
    have : y = [] := by simpa [ways] using h
    rw [this]
    rfl
  | p :: l, hl, y, h => by
    obtain ⟨n, hn, r, hr, e⟩ := (mem_ways_cons hl).mp h
    rw [e]
    show n.sound :: snds r = p :: l
    rw [writ_snd hn, ways_snd (inS_tail hl) hr]
theorem mem_ways_snoc : ∀ {l : List Int} {p : Int}, inS (l ++ [p]) → ∀ {y : List Note}, y ∈ ways (l ++ [p]) ↔ ∃ r ∈ ways l, ∃ n ∈ writings p, y = r ++ [n]
  | [], p, h, y => by
    rw [show ([] : List Int) ++ [p] = p :: [] from rfl, mem_ways_cons h]
    constructor
    · rintro ⟨n, hn, r, hr, e⟩
      have : r = [] := by simpa [ways] using hr
      exact ⟨[], by simp [ways], n, hn, by rw [e, this]; rfl⟩
    · rintro ⟨r, hr, n, hn, e⟩
      have : r = [] := by simpa [ways] using hr
      exact ⟨n, hn, [], by simp [ways], by rw [e, this]; rfl⟩
  | q :: l, p, h, y => by
    have h' : inS (q :: (l ++ [p])) := h
    have hl : inS (q :: l) := fun z hz => h z (by
      rcases List.mem_cons.mp hz with e | e
      · rw [e]; exact List.mem_cons_self
      · exact List.mem_cons_of_mem _ (List.mem_append_left _ e))
    rw [show (q :: l) ++ [p] = q :: (l ++ [p]) from rfl, mem_ways_cons h']
    constructor
    · rintro ⟨m, hm, r, hr, e⟩
      obtain ⟨r', hr', n, hn, e'⟩ := (mem_ways_snoc (inS_tail h')).mp hr
      exact ⟨m :: r', (mem_ways_cons hl).mpr ⟨m, hm, r', hr', rfl⟩, n, hn, by rw [e, e']; rfl⟩
    · rintro ⟨r, hr, n, hn, e⟩
      obtain ⟨m, hm, r', hr', e'⟩ := (mem_ways_cons hl).mp hr
      exact ⟨m, hm, r' ++ [n], (mem_ways_snoc (inS_tail h')).mpr ⟨r', hr', n, hn, rfl⟩, by rw [e, e']; rfl⟩
/-- rows that hold, for each last note, one than which none is better -/
structure Good (k : Int) (l : List Int) (rs : List (List Note)) : Prop where
  some : rs ≠ []
  sub : ∀ x ∈ rs, x ∈ ways l
  all : ∀ y ∈ ways l, ∃ x ∈ rs, x.getLast? = y.getLast? ∧ (y = x ∨ better k x y)
theorem good_nil (k : Int) : Good k [] [[]] := ⟨by simp, fun x hx => by simpa [ways] using hx, fun y hy => ⟨[], by simp, by
  have : y = [] := by simpa [ways] using hy
  rw [this]
  exact ⟨rfl, .inl rfl⟩⟩⟩
/-- the best of the rows with this note behind -/
theorem good_min {k : Int} {l : List Int} {rs : List (List Note)} (hl : inS l) (g : Good k l rs) (n : Note) : ∃ x0 xs m, rs = x0 :: xs ∧ PySem.W.minOf (rowOf k (x0 ++ [n])) (xs.map fun x => rowOf k (x ++ [n])) = rowOf k (m ++ [n]) ∧ m ∈ rs ∧ ∀ x ∈ rs, x ++ [n] = m ++ [n] ∨ better k (m ++ [n]) (x ++ [n]) := by
  cases rs with
  | nil => exact absurd rfl g.some
  | cons x0 xs =>
    have hs : ∀ x ∈ x0 :: xs, snds (x ++ [n]) = l ++ [n.sound] := fun x hx => by
      unfold snds
      rw [List.map_append]
      have := ways_snd hl (g.sub x hx)
      unfold snds at this
      rw [this]
      rfl
    obtain ⟨m, e, hm, h⟩ := min_rows (k := k) (l := l ++ [n.sound]) (xs.map fun x => x ++ [n]) (x0 ++ [n]) (hs x0 List.mem_cons_self) (fun z hz => by
      obtain ⟨x, hx, rfl⟩ := List.mem_map.mp hz
      exact hs x (List.mem_cons_of_mem _ hx))
    have hm' : m ∈ (x0 :: xs).map fun x => x ++ [n] := hm
    obtain ⟨m0, hm0, rfl⟩ := List.mem_map.mp hm'
    refine ⟨x0, xs, m0, rfl, ?_, hm0, fun x hx => ?_⟩
    · rw [← e, List.map_map]
      rfl
    · exact h (x ++ [n]) (List.mem_map.mpr ⟨x, hx, rfl⟩ : x ++ [n] ∈ (x0 :: xs).map fun x => x ++ [n])
theorem good_step {k : Int} {l : List Int} {p : Int} {rs : List (List Note)} (hl : inS (l ++ [p])) (g : Good k l rs) (F : Note → List Note) (hF : ∀ n ∈ writings p, ∃ m ∈ rs, F n = m ++ [n] ∧ ∀ x ∈ rs, x ++ [n] = m ++ [n] ∨ better k (m ++ [n]) (x ++ [n])) : Good k (l ++ [p]) ((writings p).map F) := by
  have hl' : inS l := fun z hz => hl z (List.mem_append_left _ hz)
  have hp := hl p (by simp)
  refine ⟨?_, ?_, ?_⟩
  · intro e
    have q := writ_some p (p_mem hp.1 hp.2)
    rw [List.map_eq_nil_iff] at e
    rw [e] at q
    cases q
  · intro z hz
    obtain ⟨n, hn, rfl⟩ := List.mem_map.mp hz
    obtain ⟨m, hm, e, _⟩ := hF n hn
    exact (mem_ways_snoc hl).mpr ⟨m, g.sub m hm, n, hn, e⟩
  · intro y hy
    obtain ⟨r, hr, n, hn, rfl⟩ := (mem_ways_snoc hl).mp hy
    obtain ⟨m, hm, e, h⟩ := hF n hn
    refine ⟨F n, List.mem_map.mpr ⟨n, hn, rfl⟩, by rw [e]; simp, ?_⟩
    rw [e]
    obtain ⟨x, hx, hz, hb⟩ := g.all r hr
    have hlen : x.length = r.length := by
      have a := congrArg List.length (ways_snd hl' (g.sub x hx))
      have b := congrArg List.length (ways_snd hl' hr)
      unfold snds at a b
      rw [List.length_map] at a b
      omega
    have hxn := h x hx
    rcases hb with hb | hb
    · rw [hb]
      exact hxn
    · have hb' := better_snoc (n := n) hlen hz hb
      rcases hxn with f | f
      · exact .inr (f ▸ hb')
      · exact .inr (better_trans f hb')
theorem good_end {k : Int} {l : List Int} {rs : List (List Note)} (hl : inS l) (g : Good k l rs) : ∃ x0 xs, rs = x0 :: xs ∧ PySem.W.minOf (rowOf k x0) (xs.map (rowOf k)) = rowOf k (spell k l) := by
  cases rs with
  | nil => exact absurd rfl g.some
  | cons x0 xs =>
    obtain ⟨m, e, hm, h⟩ := min_rows (k := k) (l := l) xs x0 (ways_snd hl (g.sub x0 List.mem_cons_self)) (fun x hx => ways_snd hl (g.sub x (List.mem_cons_of_mem _ hx)))
    refine ⟨x0, xs, rfl, ?_⟩
    rw [e, spell_of hl (g.sub m hm) fun y hy => ?_]
    obtain ⟨x, hx, _, hb⟩ := g.all y hy
    rcases hb with hb | hb
    · rw [hb]; exact h x hx
    · rcases h x hx with f | f
      · exact .inr (f ▸ hb)
      · exact .inr (better_trans f hb)
/-- the notes that sound so, step by step -/
def wrS (p : Int) : List (Int × Int) := ((List.range 70).map fun (i : Nat) => ((i : Int), p - (plainS i + 0))).filter fun x => isN x.1 x.2
theorem wrS_fin : ∀ p ∈ (List.range 119).map (fun (n : Nat) => (n : Int)), (writings p).map (fun n => (n.d, n.a)) = wrS p := by decide +kernel
theorem wrS_is {p : Int} (h1 : 0 ≤ p) (h2 : p ≤ 118) : (writings p).map (fun n => (n.d, n.a)) = wrS p := wrS_fin p (p_mem h1 h2)
end Nb


set_option Elab.async false
set_option linter.all false
set_option maxRecDepth 100000
set_option maxHeartbeats 2000000
namespace Nl
open PySem PySem.Spec PyProof.Rows L2
/-! ### a def of the text as its callers know it -/
def Kn (P : Program) (w : World) (K : PySem.W.Frag) (mg : Str → Option Value) (base : Heap) (x : Str) (ps : List Str) (k : Nat) (sp : Sp) : Prop :=
  ∃ (f : Addr) (fd : FuncData), mg x = some (.ref f) ∧ PySem.W.keepIn K (.ref f) = true ∧ Binds K fd ps [] ∧ FnOk P w K mg base CX0 k f fd ps sp
section
variable {X : Cx}
theorem pe_kn {x : Str} {ps : List Str} {k : Nat} {sp : Sp} {e : Expr} {es : List Expr} {t : TA} {p pos : Pos} (h : Kn X.prog X.w X.K X.mg X.base x ps k sp) (hr : Room k X.A) (hg : Gl X x) (ha : PA X (e :: es) t)
    (hst : starEach (e :: es) X.env = (false, eval e X.env) :: starEach es X.env := by rfl) (hpl : (backTo pos (starEach es X.env)).any (·.1) = false := by rfl) (hdb : (x == ("__debug__" : Str)) = false := by decide) :
    PE X (.Call (.Name x p) (e :: es) [] pos) (tCall sp [] E0 t) := by
  obtain ⟨f, fd, hm, hk, hb, F⟩ := h
  exact pe_call F hr hg hm hk hb .nil pass0 ha hdb hst hpl
/-- a whole number of the top -/
def GI (mg : Str → Option Value) (x : Str) (i : Int) : Prop := ∃ t, mg x = some (.int i t)
theorem pe_gi {x : Str} {i : Int} {pos : Pos} (h : GI X.mg x i) (hg : Gl X x) (hd : (x == ("__debug__" : Str)) = false := by decide) : PE X (.Name x pos) (tC (.int i)) := by
  obtain ⟨t, h⟩ := h
  exact pe_glob hg h ⟨_, rfl⟩ hd
/-- a tuple of whole numbers of the top -/
def GT (K : PySem.W.Frag) (mg : Str → Option Value) (x : Str) (ns : List Int) : Prop := ∃ a, mg x = some (.ref a) ∧ ∀ H : Hp, SqT K H a (ns.map V.int)
def tTab (ns : List Int) (tb : TE) : TE := fun σ H Q => tb σ H fun y H1 => ∃ i : Int, y = .int i ∧ 0 ≤ i ∧ i < ns.length ∧ Q (.int (ns.getD i.toNat 0)) H1
theorem atI_tab {ns : List Int} {i : Int} (h0 : 0 ≤ i) (h1 : i < ns.length) : atI (ns.map V.int) i = some (.int (ns.getD i.toNat 0)) := by
  have e : i = ((i.toNat : Nat) : Int) := by omega
  have l : i.toNat < ns.length := by omega
  generalize i.toNat = j at e l
  subst e
  refine atI_nat ?_
  rw [List.getElem?_map, List.getD_eq_getElem?_getD]
  simp [l]
theorem pe_gt {x : Str} {ns : List Int} {b : Expr} {tb : TE} {p pos : Pos} (h : GT X.K X.mg x ns) (hg : Gl X x) (hb : PE X b tb) (hs : PlainIx b) (hd : (x == ("__debug__" : Str)) = false := by decide) :
    PE X (.Subscript (.Name x p) b pos) (tTab ns tb) := by
  obtain ⟨a, h, hq⟩ := h
  refine ⟨fun pins s σ H Q I hw => Subscript_ (ld_glob I hg h (thn (hb.run pins s σ H _ I hw) fun u s2 ⟨y, H2, I2, ry, i, ey, h0, h1, q⟩ => ?_) hd)⟩
  subst ey
  exact ix_tup (.Name x p) b pins s2 σ H2 (.ref a) (.int i) (.ref a) u Q I2 rfl ry ⟨a, _, i, _, rfl, rfl, hq H2, atI_tab h0 h1, q⟩ (hs _ _)
/-- x in (n, ..): a written tuple of whole numbers -/
def tInI (ns : List Int) (ta : TE) : TT := fun σ H Q => ta σ H fun x H1 => ∃ i : Int, x = .int i ∧ ∀ H' : Hp, Same H1 H' → Q (ns.contains i) H'
theorem inV_ints (i : Int) : ∀ ns : List Int, inV (.int i) (ns.map V.int) = ns.contains i
  | [] => rfl
  | n :: r => by
    show ((n == i) || inV (.int i) (r.map V.int)) = ((i == n) || r.contains i)
    rw [inV_ints i r, BEq.comm]
theorem flat_ints : ∀ ns : List Int, (ns.map V.int).all flatV = true
  | [] => rfl
  | _ :: r => flat_ints r
theorem same_tup {H : Hp} {p : Addr} {o : HO} (hp : H p = none) : Same H (upd H p o) := fun b u e => by
  rw [upd_ne (ne_of_none e hp)]
  exact e
theorem pt_inI {a : Expr} {es : List Expr} {ta : TE} {t : TA} {k : Nat} {pos p2 : Pos} {ns : List Int} (ha : PE X a ta) (hb : PA X es t) (ht : ∀ σ H Q, Q (ns.map V.int) H → t σ H Q) (hl : ns.length ≤ 1000) :
    PT X (.Compare a [.In] [.Tuple es k p2] pos) (tInI ns ta) := by
  refine ⟨fun pins s σ H Q I hw => ?_⟩
  refine wpAny_isTrue_Compare1 (thn (ha.run pins s σ H _ I hw) fun v s1 ⟨x, H1, I1, r1, i, ei, q1⟩ =>
    thn ((pe_tup (X := X) (x1 := k) (pos := p2) hb).run pins s1 σ H1 (fun y H2 => ∃ p, y = .ref p ∧ H2 p = some (.tup (ns.map V.int)) ∧ Same H1 H2) I1 (ht _ _ _ ?_)) fun u s2 ⟨y, H2, I2, r2, p, ep, hp, sm⟩ => ?_) (by rfl)
  · refine ⟨?_, fun p hp => ⟨p, rfl, upd_same, same_tup hp⟩⟩
    rw [List.length_map]
    exact Nat.le_trans hl (by rw [sizeLine_eq]; decide)
  · subst ei
    subst ep
    refine thn (op_in_seq pins s2 σ H2 (.int i) (.ref p) v u (fun z H3 => z = .bl (ns.contains i) ∧ H3 = H2) I2 r1 r2 ⟨p, _, rfl, .inr (SqT.of hp), rfl, flat_ints ns, ?_, rfl⟩) fun c s3 ⟨z, H3, I3, r3, ez, eH⟩ => ?_
    · show V.bl (inV (.int i) (ns.map V.int)) = _
      rw [inV_ints]
    · subst ez
      subst eH
      cases r3
      exact wpAny_truthy_bool ⟨_, I3, q1 _ sm⟩
/-! ### a dict of the top, whole numbers to whole numbers -/
def KvsAt (kvs : List (Int × Int)) (es : List DictEntry) : Prop := Paired (fun (kv : Int × Int) (e : DictEntry) => (∃ t, e.key = .int kv.1 t) ∧ e.hash = hashInt kv.1 ∧ ∃ u, e.val = .int kv.2 u) kvs es
structure DictK (K : PySem.W.Frag) (a : Addr) (kvs : List (Int × Int)) : Prop where
  ex : ∃ (es : Array DictEntry) (n : Nat), K.lookup a = some ⟨.type "dict", none, .dict es n, #[]⟩ ∧ KvsAt kvs es.toList
  low : (a == sysModules) = false
theorem kvs_keys : ∀ {kvs : List (Int × Int)} {es : List DictEntry}, KvsAt kvs es → ∀ e ∈ es, ∃ k : Int, Value.isInt k e.key = true ∧ e.hash = hashInt k
  | _, _, .cons (a := kv) ⟨⟨t, h1⟩, h2, _⟩ r, e, m => by
    cases m with
    | head => exact ⟨kv.1, by rw [h1]; simp [Value.isInt], h2⟩
    | tail _ m => exact kvs_keys r e m
  | _, _, .nil, e, m => by cases m
theorem kvs_find (k : Int) : ∀ {kvs : List (Int × Int)} {es : List DictEntry}, KvsAt kvs es → RelO ((kvs.lookup k).map V.int) ((es.find? fun e => Value.isInt k e.key).map (·.val))
  | _, _, .nil => trivial
  | _, _, .cons (a := kv) (b := e) (l₁ := r1) (l₂ := r2) ⟨⟨t, h1⟩, _, u, h3⟩ r => by
    obtain ⟨k0, v0⟩ := kv
    by_cases h : k = k0
    · subst h
      have e1 : List.lookup k ((k, v0) :: r1) = some v0 := by simp [List.lookup]
      have e2 : List.find? (fun e => Value.isInt k e.key) (e :: r2) = some e := by
        rw [List.find?_cons_of_pos]
        rw [h1]
        simp [Value.isInt]
      rw [e1, e2]
      exact ⟨u, h3⟩
    · have hb : (k == k0) = false := by simpa using h
      have e1 : List.lookup k ((k0, v0) :: r1) = List.lookup k r1 := by simp [List.lookup, hb]
      have e2 : List.find? (fun e => Value.isInt k e.key) (e :: r2) = List.find? (fun e => Value.isInt k e.key) r2 := by
        rw [List.find?_cons_of_neg]
        rw [h1]
        simp [Value.isInt]
        intro q
        exact h q.symm
      rw [e1, e2]
      exact kvs_find k r
theorem dictK_map {K : PySem.W.Frag} {a : Addr} {kvs : List (Int × Int)} {h : Heap} {P : Program} {w : World} (D : DictK K a kvs) (KX : K.In h) : ∃ f : Int → Option Value, h.MapOf (intKind P w) a f ∧ ∀ k, RelO ((kvs.lookup k).map V.int) (f k) := by
  obtain ⟨⟨es, n, hl, hk⟩, _⟩ := D
  refine ⟨fun k => findBy Value.isInt es k, ⟨_, es, n, KX _ _ hl, ⟨rfl, rfl, rfl⟩, rfl, fun e he => kvs_keys hk e (Array.mem_toList_iff.mpr he), fun _ => rfl⟩, fun k => ?_⟩
  have q := kvs_find k hk
  obtain ⟨l⟩ := es
  show RelO _ (((List.toArray l).find? fun e => Value.isInt k e.key).map (·.val))
  rw [List.find?_toArray]
  exact q
def GD (K : PySem.W.Frag) (mg : Str → Option Value) (x : Str) (kvs : List (Int × Int)) : Prop := ∃ a, mg x = some (.ref a) ∧ DictK K a kvs
/-- e not in D, e in D -/
def tGdIn (neg : Bool) (kvs : List (Int × Int)) (ta : TE) : TT := fun σ H Q => ta σ H fun y H1 => ∃ i : Int, y = .int i ∧ Q (if neg then !(kvs.lookup i).isSome else (kvs.lookup i).isSome) H1
theorem isSome_map {o : Option Int} {u : Option Value} (r : RelO (o.map V.int) u) : u.isSome = o.isSome := by
  cases o <;> cases u <;> first | rfl | cases r
theorem pt_gdNotIn {x : Str} {kvs : List (Int × Int)} {a : Expr} {ta : TE} {p pos : Pos} (h : GD X.K X.mg x kvs) (hg : Gl X x) (ha : PE X a ta) (hd : (x == ("__debug__" : Str)) = false := by decide) :
    PT X (.Compare a [.NotIn] [.Name x p] pos) (tGdIn true kvs ta) := by
  obtain ⟨d, h, D⟩ := h
  refine ⟨fun pins s σ H Q I hw => ?_⟩
  refine wpAny_isTrue_Compare1 (thn (ha.run pins s σ H _ I hw) fun v s1 ⟨y, H1, I1, ry, i, ey, q⟩ => ld_glob I1 hg h ?_ hd) (by rfl)
  subst ey
  obtain ⟨t, rfl⟩ := ry
  obtain ⟨f, hm, hf⟩ := dictK_map (P := X.prog) (w := X.w) D I1.kIn
  refine wpAny_notIn_of (k := i) (by show Value.isInt i (.int i t) = true; simp [Value.isInt]) D.low hm ?_
  refine wpAny_truthy_bool ⟨H1, I1.tok _, ?_⟩
  rw [isSome_map (hf i)]
  exact q
theorem pt_gdIn {x : Str} {kvs : List (Int × Int)} {a : Expr} {ta : TE} {p pos : Pos} (h : GD X.K X.mg x kvs) (hg : Gl X x) (ha : PE X a ta) (hd : (x == ("__debug__" : Str)) = false := by decide) :
    PT X (.Compare a [.In] [.Name x p] pos) (tGdIn false kvs ta) := by
  obtain ⟨d, h, D⟩ := h
  refine ⟨fun pins s σ H Q I hw => ?_⟩
  refine wpAny_isTrue_Compare1 (thn (ha.run pins s σ H _ I hw) fun v s1 ⟨y, H1, I1, ry, i, ey, q⟩ => ld_glob I1 hg h ?_ hd) (by rfl)
  subst ey
  obtain ⟨t, rfl⟩ := ry
  obtain ⟨f, hm, hf⟩ := dictK_map (P := X.prog) (w := X.w) D I1.kIn
  refine wpAny_in_of (k := i) (by show Value.isInt i (.int i t) = true; simp [Value.isInt]) D.low hm ?_
  refine wpAny_truthy_bool ⟨H1, I1.tok _, ?_⟩
  rw [isSome_map (hf i)]
  exact q
/-- D[e] -/
def tGdAt (kvs : List (Int × Int)) (tb : TE) : TE := fun σ H Q => tb σ H fun y H1 => ∃ i v : Int, y = .int i ∧ kvs.lookup i = some v ∧ Q (.int v) H1
theorem pe_gd {x : Str} {kvs : List (Int × Int)} {b : Expr} {tb : TE} {p pos : Pos} (h : GD X.K X.mg x kvs) (hg : Gl X x) (hb : PE X b tb) (hs : PlainIx b) (hd : (x == ("__debug__" : Str)) = false := by decide) :
    PE X (.Subscript (.Name x p) b pos) (tGdAt kvs tb) := by
  obtain ⟨a, h, D⟩ := h
  refine ⟨fun pins s σ H Q I hw => Subscript_ (ld_glob I hg h (thn (hb.run pins s σ H _ I hw) fun u s2 ⟨y, H2, I2, ry, i, v, ey, hv, q⟩ => ?_) hd)⟩
  subst ey
  obtain ⟨t, rfl⟩ := ry
  obtain ⟨f, hm, hf⟩ := dictK_map (P := X.prog) (w := X.w) D I2.kIn
  have hfi := hf i
  rw [hv] at hfi
  obtain ⟨u0, eu, r⟩ := RelO.some_of hfi
  exact tail_any hm.typeIs slot_dict_getitem.lookup (wpAny_getItem_of (k := i) (by show Value.isInt i (.int i t) = true; simp [Value.isInt]) hm eu ⟨.int v, H2, I2.tok _, r, q⟩) (hs _ _)
end
end Nl


set_option Elab.async false
set_option linter.all false
set_option maxRecDepth 100000
set_option maxHeartbeats 2000000
namespace Nl
open PySem PySem.Spec PyProof.Rows L2
/-! ### lists of lists of whole numbers -/
/-- rows of whole numbers, at addresses that B does not have -/
def RA (B H : Hp) (xs : List V) (rs : List (List Int)) : Prop := Paired (fun (x : V) (r : List Int) => ∃ p, x = .ref p ∧ B p = none ∧ H p = some (.lst (r.map V.int))) xs rs
def LL (B H : Hp) (a : Addr) (rs : List (List Int)) : Prop := ∃ xs, H a = some (.lst xs) ∧ RA B H xs rs
def Emp : Hp := fun _ => none
theorem same_emp (H : Hp) : Same Emp H := fun _ _ e => by cases e
theorem RA.imp {B H B' H' : Hp} (h : ∀ (p : Addr) (r : List Int), B p = none → H p = some (.lst (r.map V.int)) → B' p = none ∧ H' p = some (.lst (r.map V.int))) : ∀ {xs : List V} {rs : List (List Int)}, RA B H xs rs → RA B' H' xs rs
  | _, _, .nil => .nil
  | _, _, .cons ⟨p, e, b, q⟩ t => .cons ⟨p, e, (h p _ b q).1, (h p _ b q).2⟩ (RA.imp h t)
theorem RA.same {B H H' : Hp} {xs : List V} {rs : List (List Int)} (s : Same H H') (r : RA B H xs rs) : RA B H' xs rs := r.imp fun _ _ b q => ⟨b, s _ _ q⟩
theorem RA.weak {B B' H : Hp} {xs : List V} {rs : List (List Int)} (s : Same B' B) (r : RA B H xs rs) : RA B' H xs rs := r.imp fun _ _ b q => ⟨s.free b, q⟩
theorem RA.upd {B H : Hp} {D : Addr} {o o' : HO} {xs : List V} {rs : List (List Int)} (hD : B D = some o') (r : RA B H xs rs) : RA B (upd H D o) xs rs := r.imp fun p _ b q => ⟨b, by
  have n : p ≠ D := fun e => by rw [e, hD] at b; cases b
  rw [upd_ne n]; exact q⟩
theorem RA.upd0 {B H : Hp} {D : Addr} {o : HO} {xs : List V} {rs : List (List Int)} (hD : H D = none) (r : RA B H xs rs) : RA B (L2.upd H D o) xs rs := r.imp fun p _ b q => ⟨b, by
  rw [upd_ne (ne_of_none q hD)]; exact q⟩
theorem RA.len {B H : Hp} {xs : List V} {rs : List (List Int)} (r : RA B H xs rs) : xs.length = rs.length := Paired.length r
theorem RA.at : ∀ {B H : Hp} {xs : List V} {rs : List (List Int)} {i : Nat} {x : V}, RA B H xs rs → xs[i]? = some x → ∃ r p, rs[i]? = some r ∧ x = .ref p ∧ B p = none ∧ H p = some (.lst (r.map V.int))
  | _, _, _, _, _, _, .nil, e => by simp at e
  | _, _, _, _, 0, x, .cons (b := r) ⟨p, e1, b, q⟩ _, e => by
    simp at e
    subst e
    exact ⟨r, p, rfl, e1, b, q⟩
  | _, _, _, _, i + 1, x, .cons _ t, e => by
    obtain ⟨r, p, h⟩ := RA.at (i := i) t (by simpa using e)
    exact ⟨r, p, by simpa using h⟩
theorem RA.row {B H : Hp} {xs : List V} {rs : List (List Int)} {i : Nat} {r : List Int} (h : RA B H xs rs) (e : rs[i]? = some r) : ∃ p, xs[i]? = some (.ref p) ∧ B p = none ∧ H p = some (.lst (r.map V.int)) := by
  have hl := h.len
  obtain ⟨hi, _⟩ := List.getElem?_eq_some_iff.mp e
  have hx : xs[i]? = some xs[i] := List.getElem?_eq_getElem (by omega)
  obtain ⟨r', p, e1, e2, b, q⟩ := h.at hx
  rw [e] at e1
  cases e1
  exact ⟨p, by rw [hx, e2], b, q⟩
theorem LL.same {B H H' : Hp} {a : Addr} {rs : List (List Int)} (s : Same H H') (h : LL B H a rs) : LL B H' a rs := by
  obtain ⟨xs, e, r⟩ := h
  exact ⟨xs, s _ _ e, r.same s⟩
theorem LL.weak {B B' H : Hp} {a : Addr} {rs : List (List Int)} (s : Same B' B) (h : LL B H a rs) : LL B' H a rs := by
  obtain ⟨xs, e, r⟩ := h
  exact ⟨xs, e, r.weak s⟩
theorem RA.append : ∀ {B H : Hp} {xs ys : List V} {rs qs : List (List Int)}, RA B H xs rs → RA B H ys qs → RA B H (xs ++ ys) (rs ++ qs)
  | _, _, _, _, _, _, .nil, h => h
  | _, _, _, _, _, _, .cons a t, h => .cons a (RA.append t h)
theorem RA.drop : ∀ {B H : Hp} {xs : List V} {rs : List (List Int)} (n : Nat), RA B H xs rs → RA B H (xs.drop n) (rs.drop n)
  | _, _, _, _, 0, h => h
  | _, _, _, _, _ + 1, .nil => .nil
  | _, _, _, _, n + 1, .cons _ t => RA.drop n t
theorem RA.take : ∀ {B H : Hp} {xs : List V} {rs : List (List Int)} (n : Nat), RA B H xs rs → RA B H (xs.take n) (rs.take n)
  | _, _, _, _, 0, _ => .nil
  | _, _, _, _, _ + 1, .nil => .nil
  | _, _, _, _, n + 1, .cons h t => .cons h (RA.take n t)
/-- as data -/
def rowD (r : List Int) : PyData := .list (r.map .int)
theorem ints_dp {K : PySem.W.Frag} {H : Hp} : ∀ r : List Int, DpAll K H (r.map V.int) (r.map PyData.int)
  | [] => .nil
  | i :: r => .cons (.int i) (ints_dp r)
theorem row_dp {K : PySem.W.Frag} {H : Hp} {p : Addr} {r : List Int} (h : H p = some (.lst (r.map V.int))) : Dp K H (.ref p) (rowD r) := .lst (SqL.of h) (ints_dp r)
theorem RA.dp {K : PySem.W.Frag} {B H : Hp} : ∀ {xs : List V} {rs : List (List Int)}, RA B H xs rs → DpAll K H xs (rs.map rowD)
  | _, _, .nil => .nil
  | _, _, .cons ⟨p, e, b, q⟩ t => by
    subst e
    exact .cons (row_dp q) (RA.dp t)
theorem row_lay (r : List Int) : (rowD r).canLay0 = true := by
  show PyData.canLayAll0 (r.map .int) = true
  induction r with
  | nil => simp [PyData.canLayAll0]
  | cons i r ih => simp [PyData.canLayAll0, PyData.canLay0, ih]
theorem row_depth0 : ∀ r : List Int, PyData.depthAll (r.map .int) = 0
  | [] => by simp [PyData.depthAll]
  | i :: r => by
    have h := row_depth0 r
    simp only [List.map_cons, PyData.depthAll, h, PyData.depth]
    rfl
theorem row_depth (r : List Int) : (rowD r).depth = 1 := by
  show PyData.depth (.list (r.map .int)) = 1
  simp only [PyData.depth, row_depth0]
theorem rows_lay : ∀ rs : List (List Int), PyData.canLayAll0 (rs.map rowD) = true
  | [] => by simp [PyData.canLayAll0]
  | r :: rs => by simp [PyData.canLayAll0, row_lay r, rows_lay rs]
theorem rows_depth : ∀ rs : List (List Int), PyData.depthAll (rs.map rowD) ≤ 1
  | [] => by simp [PyData.depthAll]
  | r :: rs => by
    have h1 := rows_depth rs
    have h2 := row_depth r
    simp only [List.map_cons, PyData.depthAll]
    omega
theorem row_shaped (r : List Int) : SeqAt.shaped (rowD r) = true := by
  have h := row_depth r
  show ((rowD r).canLay0 && decide ((rowD r).depth ≤ 64)) = true
  rw [Bool.and_eq_true]
  exact ⟨row_lay r, decide_eq_true (by omega)⟩
theorem rows_shaped (rs : List (List Int)) : SeqAt.shaped (.list (rs.map rowD)) = true := by
  have h1 := rows_depth rs
  have h2 : PyData.depth (.list (rs.map rowD)) ≤ 64 := by
    simp only [PyData.depth]
    omega
  show (PyData.canLay0 (.list (rs.map rowD)) && decide (PyData.depth (.list (rs.map rowD)) ≤ 64)) = true
  rw [Bool.and_eq_true]
  exact ⟨by simp only [PyData.canLay0]; exact rows_lay rs, decide_eq_true h2⟩
theorem row_eqv (x y : List Int) : PyData.eqv (rowD x) (rowD y) = decide (x = y) := by
  show PyData.eqv (.list (x.map .int)) (.list (y.map .int)) = _
  simp only [PyData.eqv]
  induction x generalizing y with
  | nil =>
    cases y with
    | nil => simp [PyData.eqvAll]
    | cons j y => simp [PyData.eqvAll]
  | cons i x ih =>
    cases y with
    | nil => simp [PyData.eqvAll]
    | cons j y =>
      rw [List.map_cons, List.map_cons]
      simp only [PyData.eqvAll, PyData.eqv, ih]
      rw [Bool.eq_iff_iff]
      simp
theorem row_inj {x y : List Int} (h : rowD x = rowD y) : x = y := by
  have e := row_eqv x y
  have e2 := row_eqv y y
  rw [h, e2] at e
  simpa using e.symm
theorem any_row (d : List Int) : ∀ rs : List (List Int), ((rs.map rowD).any fun z => PyData.eqv z (rowD d)) = rs.contains d
  | [] => rfl
  | r :: rs => by
    rw [List.map_cons, List.any_cons, any_row d rs, row_eqv]
    show _ = ((d == r) || rs.contains d)
    congr 1
    rw [BEq.comm, Bool.beq_eq_decide_eq]
/-! ### comprehensions -/
/-- what a comprehension over J wants -/
def LcW (J : It) (g : TG) (tt : TT) (te : TE) (vs : List Nat) (σ : L2.St) (H : Hp) (Q : VK) : Prop := tLc (fun _ H1 R => R J H1) g tt te vs σ H Q
def YZ (Z : Nat → V → Prop) : Nat → Hp → V → Hp → Prop := fun i H x H' => H' = H ∧ Z i x
theorem wl {K : PySem.W.Frag} {a : Addr} {xs : List V} : Walk (Itl K a) xs.length (fun H => SqL K H a xs) (YZ fun i x => xs[i]? = some x) := walk_list
theorem wr {n : Nat} : Walk (Itr 0 n) n (fun _ => True) (YZ fun i x => x = .int i) :=
  walk_range.mono (fun _ h => h) fun i H x H' _ _ y => ⟨y.1, y.2.trans (by simp only [Int.zero_add])⟩
theorem wrc {c : Int} {n : Nat} : Walk (Itc 0 c n) n (fun _ => True) (YZ fun i x => x = .int ((i : Nat) * c)) :=
  walk_rangeC.mono (fun _ h => h) fun i H x H' _ _ y => ⟨y.1, y.2.trans (by simp only [Int.zero_add])⟩
theorem same_up {H H' : Hp} {D : Addr} {o : HO} (hD : H D = none) (s : Same H H') : Same H (upd H' D o) := fun b u e => by
  rw [upd_ne (ne_of_none e hD)]
  exact s _ _ e
def NewI (H : Hp) (Q : VK) (ns : List Int) : Prop := ∀ (H' : Hp) (p : Addr), Same H H' → H p = none → H' p = some (.lst (ns.map V.int)) → Q (.ref p) H'
/-- values that the heap does not bear on -/
theorem lc_val {J : It} {n : Nat} {G : Hp → Prop} {Z : Nat → V → Prop} {f : Nat → V} {j : Nat} {te : TE} {vs : List Nat} {σ : L2.St} {H : Hp} {Q : VK} (w : Walk J n G (YZ Z)) (hn : n < 1000) (hG : ∀ H', Same H H' → G H')
    (hte : ∀ (i : Nat) (x : V) (H' : Hp) (Q' : VK), i < n → Z i x → Same H H' → (∀ H'' : Hp, Same H' H'' → Q' (f i) H'') → te ((wipe σ vs).set j (some x)) H' Q')
    (hw : ∀ x, wipe ((wipe σ vs).set j x) vs = wipe σ vs)
    (hQ : ∀ (D : Addr) (H' : Hp), Same H H' → H D = none → H' D = some (.lst ((List.range n).map f)) → Q (.ref D) H') : LcW J (gName j) tYes te vs σ H Q := by
  intro D hD
  refine lc_it w (fun i H' => Same H H' ∧ H' D = some (.lst ((List.range i).map f))) ⟨same_up hD (Same.refl _), upd_same⟩ (fun _ _ _ p => hG _ p.1) ?_ ?_
  · rintro i x H' H2 hi ⟨s1, e1⟩ ⟨rfl, z⟩
    refine ⟨hw _, ?_⟩
    unfold tYes
    refine iteT ?_
    refine hte i x _ _ hi z s1 fun H'' s2 => ⟨_, s2 _ _ e1, ?_, same_up hD (s1.trans s2), ?_⟩
    · rw [List.length_map, List.length_range]
      exact small1000 (by omega)
    · rw [upd_same, List.range_succ, List.map_append]
      rfl
  · rintro H' ⟨s1, e1⟩
    exact hQ D H' s1 hD e1
/-- new rows -/
theorem lc_new {J : It} {n : Nat} {G : Hp → Prop} {Z : Nat → V → Prop} {f : Nat → List Int} {j : Nat} {te : TE} {vs : List Nat} {σ : L2.St} {H : Hp} {Q : VK} (w : Walk J n G (YZ Z)) (hn : n < 1000) (hG : ∀ H', Same H H' → G H')
    (hte : ∀ (i : Nat) (x : V) (H' : Hp) (Q' : VK), i < n → Z i x → Same H H' → NewI H' Q' (f i) → te ((wipe σ vs).set j (some x)) H' Q')
    (hw : ∀ x, wipe ((wipe σ vs).set j x) vs = wipe σ vs)
    (hQ : ∀ (D : Addr) (H' : Hp), Same H H' → H D = none → LL H H' D ((List.range n).map f) → Q (.ref D) H') : LcW J (gName j) tYes te vs σ H Q := by
  intro D hD
  refine lc_it w (fun i H' => Same H H' ∧ ∃ xs, H' D = some (.lst xs) ∧ RA (upd H D (.lst [])) H' xs ((List.range i).map f)) ⟨same_up hD (Same.refl _), _, upd_same, .nil⟩ (fun _ _ _ p => hG _ p.1) ?_ ?_
  · rintro i x H' H2 hi ⟨s1, xs, e1, r1⟩ ⟨rfl, z⟩
    refine ⟨hw _, ?_⟩
    unfold tYes
    refine iteT ?_
    refine hte i x _ _ hi z s1 fun H'' p s2 n2 e2 => ⟨_, s2 _ _ e1, ?_, same_up hD (s1.trans s2), _, upd_same, ?_⟩
    · rw [r1.len, List.length_map, List.length_range]
      exact small1000 (by omega)
    · rw [List.range_succ, List.map_append]
      have nD : p ≠ D := fun e => by rw [e, e1] at n2; cases n2
      have nB : (upd H D (.lst [])) p = none := by
        rw [upd_ne nD]
        exact s1.free n2
      refine ((r1.same s2).upd (o' := .lst []) upd_same).append (.cons ⟨p, rfl, nB, ?_⟩ .nil)
      rw [upd_ne nD]
      exact e2
  · rintro H' ⟨s1, xs, e1, r1⟩
    exact hQ D H' s1 hD ⟨xs, e1, r1.weak (same_up hD (Same.refl _))⟩
/-- those rows of which a test holds -/
theorem lc_filt {K : PySem.W.Frag} {a : Addr} {xs : List V} {B : Hp} {rs : List (List Int)} {P : List Int → Bool} {j : Nat} {tt : TT} {vs : List Nat} {σ : L2.St} {H : Hp} {Q : VK} (ha : H a = some (.lst xs)) (hr : RA B H xs rs) (hn : rs.length < 1000)
    (htt : ∀ (p : Addr) (r : List Int) (H' : Hp) (Q' : Bool → Hp → Prop), r ∈ rs → H' p = some (.lst (r.map V.int)) → Same H H' → (∀ H'' : Hp, Same H' H'' → Q' (P r) H'') → tt ((wipe σ vs).set j (some (.ref p))) H' Q')
    (hw : ∀ x, wipe ((wipe σ vs).set j x) vs = wipe σ vs) (hj : ∀ x, ((wipe σ vs).set j (some x))[j]? = some (some x))
    (hQ : ∀ (D : Addr) (H' : Hp), Same H H' → H D = none → LL B H' D (rs.filter P) → Q (.ref D) H') : LcW (Itl K a) (gName j) tt (tVar j) vs σ H Q := by
  intro D hD
  refine lc_it (wl (xs := xs)) (fun i H' => Same H H' ∧ ∃ ys, H' D = some (.lst ys) ∧ RA B H ys ((rs.take i).filter P)) ⟨same_up hD (Same.refl _), _, upd_same, .nil⟩ (fun _ _ _ p => SqL.of (p.1 _ _ ha)) ?_ ?_
  · rintro i x H' H2 hi ⟨s1, ys, e1, r1⟩ ⟨rfl, z⟩
    refine ⟨hw _, ?_⟩
    obtain ⟨r, p, er, ex, eb, ep⟩ := hr.at z
    subst ex
    have hm : r ∈ rs := List.mem_of_getElem? er
    refine htt p r _ _ hm (s1 _ _ ep) s1 fun H'' s2 => ?_
    have et : rs.take (i + 1) = rs.take i ++ [r] := by rw [List.take_succ, er]; rfl
    have hle : ys.length < sizeLine := by
      have l1 := List.length_filter_le P (rs.take i)
      have l2 : (rs.take i).length ≤ rs.length := by rw [List.length_take]; omega
      rw [r1.len]
      exact small1000 (by omega)
    cases hp : P r with
    | true =>
      refine iteT ?_
      refine ⟨_, hj _, _, s2 _ _ e1, hle, same_up hD (s1.trans s2), _, upd_same, ?_⟩
      rw [et, List.filter_append]
      have e3 : [r].filter P = [r] := by simp [hp]
      rw [e3]
      exact r1.append (.cons ⟨p, rfl, eb, ep⟩ .nil)
    | false =>
      refine iteF ?_
      refine ⟨s1.trans s2, ys, s2 _ _ e1, ?_⟩
      rw [et, List.filter_append]
      have e3 : [r].filter P = [] := by simp [hp]
      rw [e3, List.append_nil]
      exact r1
  · rintro H' ⟨s1, ys, e1, r1⟩
    rw [hr.len, List.take_length] at r1
    exact hQ D H' s1 hD ⟨ys, e1, r1.same s1⟩
/-! ### min(rows) -/
def rMinR (K : PySem.W.Frag) : List V → Hp → VK → Prop := fun vs H Q => ∃ (a : Addr) (B : Hp) (r : List Int) (rs : List (List Int)), vs = [.ref a] ∧ LL B H a (r :: rs) ∧ ∀ p, B p = none → H p = some (.lst ((PySem.W.minOf r rs).map V.int)) → Q (.ref p) H
theorem toD_row (r : List Int) : (PySem.W.Datum.toD r : PyData) = rowD r := rfl
theorem cr_minR {X : Cx} (hc : X.calm = true) (hu : X.A.units + 64 < cLine) : CallR X (.builtin "min") (rMinR X.K) := by
  intro pins s σ H vs us Q I r h
  obtain ⟨a, B, r0, rs, rfl, ⟨xs, ha, hr⟩, q⟩ := h
  obtain ⟨its, rv, hl, _⟩ := I.list (SqL.of ha)
  rw [Vals.ref1 r]
  obtain ⟨as, h4⟩ := Dp.readsAll I _ _ its hr.dp rv
  refine PySem.W.min_list_data (I.ok.hd hc) hl.isList (x := rowD r0) (xs := rs.map rowD) h4 (PySem.W.alikeAll_datum (r0 :: rs)) ?_ fun i v h' tk bs hi hv hk => ?_
  · have := rows_depth (r0 :: rs)
    rw [List.map_cons] at this
    omega
  · have hi' : its[i]? = some v := by simpa using hi
    obtain ⟨hlt, _⟩ := List.getElem?_eq_some_iff.mp hi'
    have hlen := rv.length
    have hx : xs[i]? = some xs[i] := List.getElem?_eq_getElem (by omega)
    obtain ⟨r1, p, er, ex, eb, ep⟩ := hr.at hx
    obtain ⟨u, eu, ru⟩ := rv.get hx
    rw [hi'] at eu
    cases eu
    rw [ex] at ru
    cases ru
    obtain ⟨as2, h5⟩ := Dp.reads I _ _ _ (row_dp ep) (show RelV (.ref p) (.ref p) from rfl)
    have h6 := Reads.keeps hk h5
    have e := (SeqAt.Reads.unique _ _ _ _ _ (row_lay r1) h6 hv).trans (PySem.W.minD_map r0 rs)
    have e := row_inj e
    refine ⟨.ref p, H, I.kept hk, rfl, q p eb ?_⟩
    rw [ep, e]
/-! ### tuples of tuples, dicts -/
def TT (K : PySem.W.Frag) (a : Addr) (rs : List (List Int)) : Prop := ∃ xs, (∀ H : Hp, SqT K H a xs) ∧ Paired (fun (x : V) (r : List Int) => ∃ p, x = .ref p ∧ ∀ H : Hp, SqT K H p (r.map V.int)) xs rs
def GTT (K : PySem.W.Frag) (mg : Str → Option Value) (x : Str) (rs : List (List Int)) : Prop := ∃ a, mg x = some (.ref a) ∧ TT K a rs
theorem tt_at {K : PySem.W.Frag} : ∀ {xs : List V} {rs : List (List Int)} {i : Nat} {r : List Int}, Paired (fun (x : V) (r : List Int) => ∃ p, x = .ref p ∧ ∀ H : Hp, SqT K H p (r.map V.int)) xs rs → rs[i]? = some r → ∃ p, xs[i]? = some (.ref p) ∧ ∀ H : Hp, SqT K H p (r.map V.int)
  | _, _, _, _, .nil, e => by simp at e
  | _, _, 0, r, .cons ⟨p, e1, q⟩ _, e => by
    simp at e
    subst e
    exact ⟨p, by rw [e1]; rfl, q⟩
  | _, _, i + 1, r, .cons _ t, e => by
    obtain ⟨p, h⟩ := tt_at (i := i) t (by simpa using e)
    exact ⟨p, by simpa using h⟩
theorem tt_ix {K : PySem.W.Frag} {a : Addr} {rs : List (List Int)} (h : TT K a rs) {i : Int} (h0 : 0 ≤ i) {r : List Int} (hr : rs[i.toNat]? = some r) : ∃ xs p, (∀ H : Hp, SqT K H a xs) ∧ atI xs i = some (.ref p) ∧ ∀ H : Hp, SqT K H p (r.map V.int) := by
  obtain ⟨xs, hx, hp⟩ := h
  obtain ⟨p, e, q⟩ := tt_at hp hr
  refine ⟨xs, p, hx, ?_, q⟩
  have e1 : i = ((i.toNat : Nat) : Int) := by omega
  rw [e1]
  exact atI_nat e
def KvsP (tab : List (Int × (V → Prop))) (es : List DictEntry) : Prop := Paired (fun (t : Int × (V → Prop)) (e : DictEntry) => (∃ u, e.key = .int t.1 u) ∧ e.hash = hashInt t.1 ∧ ∃ v, RelV v e.val ∧ t.2 v) tab es
structure DictP (K : PySem.W.Frag) (a : Addr) (tab : List (Int × (V → Prop))) : Prop where
  ex : ∃ (es : Array DictEntry) (n : Nat), K.lookup a = some ⟨.type "dict", none, .dict es n, #[]⟩ ∧ KvsP tab es.toList
  low : (a == sysModules) = false
theorem kvp_keys : ∀ {tab : List (Int × (V → Prop))} {es : List DictEntry}, KvsP tab es → ∀ e ∈ es, ∃ k : Int, Value.isInt k e.key = true ∧ e.hash = hashInt k
  | _, _, .cons (a := kv) ⟨⟨t, h1⟩, h2, _⟩ r, e, m => by
    cases m with
    | head => exact ⟨kv.1, by rw [h1]; simp [Value.isInt], h2⟩
    | tail _ m => exact kvp_keys r e m
  | _, _, .nil, e, m => by cases m
theorem kvp_find {k : Int} {P : V → Prop} : ∀ {tab : List (Int × (V → Prop))} {es : List DictEntry}, KvsP tab es → tab.lookup k = some P → ∃ u v, ((es.find? fun e => Value.isInt k e.key).map (·.val)) = some u ∧ RelV v u ∧ P v
  | _, _, .nil, h => by cases h
  | _, _, .cons (a := kv) (b := e) (l₁ := r1) (l₂ := r2) ⟨⟨t, h1⟩, _, v, h3, h4⟩ r, h => by
    obtain ⟨k0, P0⟩ := kv
    by_cases hk : k = k0
    · subst hk
      have e1 : List.lookup k ((k, P0) :: r1) = some P0 := by simp [List.lookup]
      have e2 : List.find? (fun e => Value.isInt k e.key) (e :: r2) = some e := by
        rw [List.find?_cons_of_pos]
        rw [h1]
        simp [Value.isInt]
      rw [e1] at h
      cases h
      rw [e2]
      exact ⟨_, v, rfl, h3, h4⟩
    · have hb : (k == k0) = false := by simpa using hk
      have e1 : List.lookup k ((k0, P0) :: r1) = List.lookup k r1 := by simp [List.lookup, hb]
      have e2 : List.find? (fun e => Value.isInt k e.key) (e :: r2) = List.find? (fun e => Value.isInt k e.key) r2 := by
        rw [List.find?_cons_of_neg]
        rw [h1]
        simp [Value.isInt]
        intro q
        exact hk q.symm
      rw [e1] at h
      rw [e2]
      exact kvp_find r h
theorem dictP_map {K : PySem.W.Frag} {a : Addr} {tab : List (Int × (V → Prop))} {h : Heap} {P : Program} {w : World} (D : DictP K a tab) (KX : K.In h) : ∃ f : Int → Option Value, h.MapOf (intKind P w) a f ∧ ∀ k R, tab.lookup k = some R → ∃ u v, f k = some u ∧ RelV v u ∧ R v := by
  obtain ⟨⟨es, n, hl, hk⟩, _⟩ := D
  refine ⟨fun k => findBy Value.isInt es k, ⟨_, es, n, KX _ _ hl, ⟨rfl, rfl, rfl⟩, rfl, fun e he => kvp_keys hk e (Array.mem_toList_iff.mpr he), fun _ => rfl⟩, fun k R hR => ?_⟩
  have q := kvp_find hk hR
  obtain ⟨l⟩ := es
  show ∃ u v, (((List.toArray l).find? fun e => Value.isInt k e.key).map (·.val)) = some u ∧ _
  rw [List.find?_toArray]
  exact q
def GDP (K : PySem.W.Frag) (mg : Str → Option Value) (x : Str) (tab : List (Int × (V → Prop))) : Prop := ∃ a, mg x = some (.ref a) ∧ DictP K a tab
def tGdp (tab : List (Int × (V → Prop))) (tb : TE) : TE := fun σ H Q => tb σ H fun y H1 => ∃ (i : Int) (P : V → Prop), y = .int i ∧ tab.lookup i = some P ∧ ∀ v, P v → Q v H1
theorem pe_gdp {X : Cx} {x : Str} {tab : List (Int × (V → Prop))} {b : Expr} {tb : TE} {p pos : Pos} (h : GDP X.K X.mg x tab) (hg : Gl X x) (hb : PE X b tb) (hs : PlainIx b) (hd : (x == ("__debug__" : Str)) = false := by decide) :
    PE X (.Subscript (.Name x p) b pos) (tGdp tab tb) := by
  obtain ⟨a, h, D⟩ := h
  refine ⟨fun pins s σ H Q I hw => Subscript_ (ld_glob I hg h (thn (hb.run pins s σ H _ I hw) fun u s2 ⟨y, H2, I2, ry, i, P, ey, hv, q⟩ => ?_) hd)⟩
  subst ey
  obtain ⟨t, rfl⟩ := ry
  obtain ⟨f, hm, hf⟩ := dictP_map (P := X.prog) (w := X.w) D I2.kIn
  obtain ⟨u0, v, eu, r, hP⟩ := hf i P hv
  exact tail_any hm.typeIs slot_dict_getitem.lookup (wpAny_getItem_of (k := i) (by show Value.isInt i (.int i t) = true; simp [Value.isInt]) hm eu ⟨v, H2, I2.tok _, r, q v hP⟩) (hs _ _)
end Nl


set_option Elab.async false
set_option linter.all false
set_option maxRecDepth 100000
set_option maxHeartbeats 2000000
namespace Nf
open PySem PySem.Spec PyProof.Rows L2 Nl Nb
def top (i : Nat) : Stmt := PySem.Challenge.pw_calledbyname_s01_answers.main.body.getD i (.Pass ⟨0, 0, 0, 0⟩)
/-! ### what the top of the text has -/
def chordsT : List (List Int) := [[0, 4, 7], [0, 3, 7], [0, 3, 6], [0, 4, 8], [0, 4, 7, 11], [0, 4, 7, 10], [0, 3, 7, 10], [0, 3, 6, 10], [0, 3, 6, 9]]
def isTT (K : PySem.W.Frag) (rs : List (List Int)) : V → Prop := fun v => ∃ a, v = .ref a ∧ TT K a rs
def isTI (K : PySem.W.Frag) (ns : List Int) : V → Prop := fun v => ∃ a, v = .ref a ∧ ∀ H : Hp, SqT K H a (ns.map V.int)
def figT (K : PySem.W.Frag) : List (Int × (V → Prop)) := [(3, isTT K [[], [6], [6, 4]]), (4, isTT K [[7], [6, 5], [4, 3], [2]])]
def widT (K : PySem.W.Frag) : List (Int × (V → Prop)) := [(1, isTI K [2]), (2, isTI K [4]), (3, isTI K [4]), (4, isTI K [2]), (5, isTI K [4]), (6, isTI K [1, 2, 3, 4, 5, 6, 7]), (7, isTI K [2, 4, 6, 8, 10, 12, 14, 16]), (8, isTI K [4]), (9, isTI K [2, 4, 6, 8, 10, 12, 14, 16, 18])]
structure Txt (K : PySem.W.Frag) (mg : Str → Option Value) : Prop where
  g_REFUSED : GI mg "REFUSED" (-1)
  g_NO_NOTE : GI mg "NO_NOTE" (-3)
  g_NO_CHORD : GI mg "NO_CHORD" (-3)
  g_SEMITONES : GT K mg "SEMITONES" [0, 2, 4, 5, 7, 9, 11]
  g_PLACES : GT K mg "PLACES" [0, 2, 4, -1, 1, 3, 5]
  g_CHORDS : GTT K mg "CHORDS" chordsT
  g_FIGURES : GDP K mg "FIGURES" (figT K)
  g_WIDTHS : GDP K mg "WIDTHS" (widT K)
  b_len : mg "len" = none
  b_abs : mg "abs" = none
  b_range : mg "range" = none
  b_all : mg "all" = none
  b_min : mg "min" = none
  b_list : mg "list" = none
def sp1 (pre : Int → Prop) (f : Int → V) : Sp := fun vs H Q _ => ∃ a : Int, vs = [.int a] ∧ pre a ∧ Q (f a) H
def sp2 (pre : Int → Int → Prop) (f : Int → Int → V) : Sp := fun vs H Q _ => ∃ a b : Int, vs = [.int a, .int b] ∧ pre a b ∧ Q (f a b) H
def spL2 (f : Int → Int → List Int) : Sp := fun vs H Q _ => ∃ a b : Int, vs = [.int a, .int b] ∧ NewI H Q (f a b)
def spL4 (f : Int → Int → Int → Int → List Int) : Sp := fun vs H Q _ => ∃ a b c d : Int, vs = [.int a, .int b, .int c, .int d] ∧ NewI H Q (f a b c d)
/-- .. the heap may have grown -/
def sp1s (f : Int → V) : Sp := fun vs H Q _ => ∃ a : Int, vs = [.int a] ∧ ∀ H' : Hp, Same H H' → Q (f a) H'
def sp2s (f : Int → Int → V) : Sp := fun vs H Q _ => ∃ a b : Int, vs = [.int a, .int b] ∧ ∀ H' : Hp, Same H H' → Q (f a b) H'
theorem scal_int (i j : Int) : scal (.int i) (.int j) = true := rfl
theorem deci (i j : Int) : decide (V.int i = V.int j) = decide (i = j) := decide_eq_decide.mpr ⟨fun h => V.int.inj h, fun h => by rw [h]⟩
theorem m7a (x : Int) : (0 ≤ x % 7) = True := by simp only [eq_iff_iff, iff_true]; omega
theorem m7b (x : Int) : (x % 7 < 7) = True := by simp only [eq_iff_iff, iff_true]; omega
theorem same_new {H : Hp} {p : Addr} {o : HO} (hp : H p = none) : Same H (upd H p o) := fun b u e => by
  rw [upd_ne (ne_of_none e hp)]
  exact e
theorem fin_new {H H1 : Hp} {Q : VK} {ns : List Int} (q : NewI H Q ns) (s : Same H H1) {p : Addr} (hp : H1 p = none) : Q (.ref p) (upd H1 p (.lst (ns.map V.int))) :=
  q _ p (s.trans (same_new hp)) (s.free hp) upd_same
theorem _root_.Nl.NewI.of {H H1 : Hp} {Q : VK} {ns : List Int} (q : NewI H Q ns) (s : Same H H1) : NewI H1 Q ns := fun H' p s' hp e => q H' p (s.trans s') (s.free hp) e
theorem sz3 {n : Nat} (h : n ≤ 1000 := by decide) : n ≤ sizeLine := Nat.le_trans h (by rw [sizeLine_eq]; decide)
local macro_rules | `(tactic| walk_at "rd") => `(tactic| simp only [tRet, tSeq, tIfS, tAsg, gName, tNext, tAndV, tOrV, tNotV, tChain, tOp, tUn, rU, rI, rI0, rEq, rNe, tC, tVar, tTest, tB, tAnd, tOr, tNot, tIf, tCons, tNil, tCall, tCB, tTab, tLst, tTup, rIn, tInI, tGdIn, tGdAt, sp1s, sp2s,
  sp1, sp2, spL2, spL4, scal_int, deci, m7a, m7b, CMul, CDiv, V.int.injEq, V.bl.injEq, V.ref.injEq, exists_and_left, exists_eq_left', exists_eq_left, and_assoc, true_and, and_true, true_or, and_self, List.append_nil, List.cons.injEq,
  List.getElem?_cons_zero, List.getElem?_cons_succ, Option.some.injEq, List.set_cons_zero, List.set_cons_succ, List.length_cons, List.length_nil, Nat.reduceAdd, Int.cast_ofNat_Int, Int.reducePow, Int.reduceNeg, Int.reduceLT])
theorem consS_b (s t : Int) : consS s t = if List.contains [0, 4] (absI s % 7) && decide (qualS s t = 0) then 2 else if List.contains [2, 5] (absI s % 7) && List.contains [0, -1] (qualS s t) then 1 else 0 := by
  unfold consS
  simp
section
variable {P : Program} {w : World} {K : PySem.W.Frag} {mg : Str → Option Value} {base : Heap}
abbrev s_is_note : Stmt := top 9
abbrev N_is_note : List Str := ["d", "a"]
theorem sc_is_note : FnScope N_is_note ["d", "a"] (defScope s_is_note) := ⟨rfl, rfl, rfl, by decide +kernel, rfl, by decide +kernel, by decide +kernel⟩
abbrev sp_is_note : Sp := sp2 (fun _ _ => True) fun d a => .bl (isN d a)
theorem ok_is_note {f : Addr} {fd : FuncData} (F : Fun K "is_note" "is_note" s_is_note f fd) : FnOk P w K mg base CX0 1 f fd ["d", "a"] sp_is_note := by
  have sc := sc_is_note
  refine F.ok sc (fun vs H Q E h => ?_) (fun cdv A outer s H vs Q E hr h => ⟨_, (pss_one (ps_ret (pe_and (pe_chain op_le op_le pe_int (pv 0) pe_int) (pe_one (pe_chain op_le op_le (pe_un un_neg pe_int) (pv 1) pe_int))))), ?_⟩)
  · obtain ⟨d, a, rfl, _⟩ := h
    rfl
  · obtain ⟨d, a, rfl, _, q⟩ := h
    rw [show start N_is_note [V.int d, V.int a] = [some (.int d), some (.int a)] from rfl]
    walk_at "rd"
    revert q
    show Q (.bl ((decide (0 ≤ d) && decide (d ≤ 69)) && (decide (-2 ≤ a) && decide (a ≤ 2)))) H → _
    cases decide (0 ≤ d) <;> cases decide (d ≤ 69) <;> cases decide (-2 ≤ a) <;> exact id
abbrev s_plain_semitones : Stmt := top 16
abbrev N_plain_semitones : List Str := ["steps"]
theorem sc_plain_semitones : FnScope N_plain_semitones ["steps"] (defScope s_plain_semitones) := ⟨rfl, rfl, rfl, by decide +kernel, rfl, by decide +kernel, by decide +kernel⟩
abbrev sp_plain_semitones : Sp := sp1 (fun _ => True) fun d => .int (plainS d)
theorem ok_plain_semitones {f : Addr} {fd : FuncData} (F : Fun K "plain_semitones" "plain_semitones" s_plain_semitones f fd) (T : Txt K mg) : FnOk P w K mg base CX0 1 f fd ["steps"] sp_plain_semitones := by
  have sc := sc_plain_semitones
  refine F.ok sc (fun vs H Q E h => ?_) (fun cdv A outer s H vs Q E hr h => ⟨_, (pss_one (ps_ret (pe_op op_add (pe_op op_mul pe_int (pe_op op_fdiv (pv 0) pe_int)) (pe_gt T.g_SEMITONES (by rfl) (pe_op op_mod (pv 0) pe_int) (fun _ _ => rfl))))), ?_⟩)
  · obtain ⟨d, rfl, _⟩ := h
    rfl
  · obtain ⟨d, rfl, _, q⟩ := h
    rw [show start N_plain_semitones [V.int d] = [some (.int d)] from rfl]
    walk_at "rd"
    exact q
abbrev s_sound_of : Stmt := top 17
abbrev N_sound_of : List Str := ["d", "a"]
theorem sc_sound_of : FnScope N_sound_of ["d", "a"] (defScope s_sound_of) := ⟨rfl, rfl, rfl, by decide +kernel, rfl, by decide +kernel, by decide +kernel⟩
abbrev sp_sound_of : Sp := sp2 (fun _ _ => True) fun d a => .int (plainS d + a)
theorem ok_sound_of {f : Addr} {fd : FuncData} (F : Fun K "sound_of" "sound_of" s_sound_of f fd) (h_plain_semitones : Kn P w K mg base "plain_semitones" ["steps"] 1 sp_plain_semitones) : FnOk P w K mg base CX0 2 f fd ["d", "a"] sp_sound_of := by
  have sc := sc_sound_of
  refine F.ok sc (fun vs H Q E h => ?_) (fun cdv A outer s H vs Q E hr h => ⟨_, (pss_one (ps_ret (pe_op op_add (pe_kn h_plain_semitones (hr.mono (by decide)) (by rfl) (pa_cons (pv 0) pa_nil)) (pv 1)))), ?_⟩)
  · obtain ⟨d, a, rfl, _⟩ := h
    rfl
  · obtain ⟨d, a, rfl, _, q⟩ := h
    rw [show start N_sound_of [V.int d, V.int a] = [some (.int d), some (.int a)] from rfl]
    walk_at "rd"
    exact q
abbrev s_place_of : Stmt := top 18
abbrev N_place_of : List Str := ["d", "a"]
theorem sc_place_of : FnScope N_place_of ["d", "a"] (defScope s_place_of) := ⟨rfl, rfl, rfl, by decide +kernel, rfl, by decide +kernel, by decide +kernel⟩
abbrev sp_place_of : Sp := sp2 (fun _ _ => True) fun d a => .int (placeS d a)
theorem ok_place_of {f : Addr} {fd : FuncData} (F : Fun K "place_of" "place_of" s_place_of f fd) (T : Txt K mg) : FnOk P w K mg base CX0 1 f fd ["d", "a"] sp_place_of := by
  have sc := sc_place_of
  refine F.ok sc (fun vs H Q E h => ?_) (fun cdv A outer s H vs Q E hr h => ⟨_, (pss_one (ps_ret (pe_op op_add (pe_gt T.g_PLACES (by rfl) (pe_op op_mod (pv 0) pe_int) (fun _ _ => rfl)) (pe_op op_mul pe_int (pv 1))))), ?_⟩)
  · obtain ⟨d, a, rfl, _⟩ := h
    rfl
  · obtain ⟨d, a, rfl, _, q⟩ := h
    rw [show start N_place_of [V.int d, V.int a] = [some (.int d), some (.int a)] from rfl]
    walk_at "rd"
    exact q
abbrev s_quality_of : Stmt := top 19
abbrev N_quality_of : List Str := ["s", "t"]
theorem sc_quality_of : FnScope N_quality_of ["s", "t"] (defScope s_quality_of) := ⟨rfl, rfl, rfl, by decide +kernel, rfl, by decide +kernel, by decide +kernel⟩
abbrev sp_quality_of : Sp := sp2 (fun _ _ => True) fun s t => .int (qualS s t)
theorem ok_quality_of {f : Addr} {fd : FuncData} (F : Fun K "quality_of" "quality_of" s_quality_of f fd) (h_plain_semitones : Kn P w K mg base "plain_semitones" ["steps"] 1 sp_plain_semitones) : FnOk P w K mg base CX0 2 f fd ["s", "t"] sp_quality_of := by
  have sc := sc_quality_of
  refine F.ok sc (fun vs H Q E h => ?_) (fun cdv A outer s H vs Q E hr h => ⟨_, (pss_cons (ps_if (pt_cmpR op_lt (pv 0) pe_int (nomark _)) (pss_one (ps_ret (pe_op op_sub (pe_un un_neg (pv 1)) (pe_kn h_plain_semitones (hr.mono (by decide)) (by rfl) (pa_cons (pe_un un_neg (pv 0)) pa_nil))))) pss_nil)
      (pss_one (ps_ret (pe_op op_sub (pv 1) (pe_kn h_plain_semitones (hr.mono (by decide)) (by rfl) (pa_cons (pv 0) pa_nil)))))), ?_⟩)
  · obtain ⟨d, a, rfl, _⟩ := h
    rfl
  · obtain ⟨d, a, rfl, _, q⟩ := h
    rw [show start N_quality_of [V.int d, V.int a] = [some (.int d), some (.int a)] from rfl]
    walk_at "rd"
    revert q
    show Q (.int (if d < 0 then -a - plainS (-d) else a - plainS d)) H → _
    by_cases h : d < 0
    · simp only [h, decide_true, if_true]
      exact id
    · simp only [h, decide_false, if_false, Bool.false_eq_true]
      exact id
abbrev s_perfection_of : Stmt := top 20
abbrev N_perfection_of : List Str := ["s"]
theorem sc_perfection_of : FnScope N_perfection_of ["s"] (defScope s_perfection_of) := ⟨rfl, rfl, rfl, by decide +kernel, rfl, by decide +kernel, by decide +kernel⟩
abbrev sp_perfection_of : Sp := sp1s fun s => .int (perfS s)
theorem ok_perfection_of {f : Addr} {fd : FuncData} (F : Fun K "perfection_of" "perfection_of" s_perfection_of f fd) (T : Txt K mg) : FnOk P w K mg base CX0 1 f fd ["s"] sp_perfection_of := by
  have sc := sc_perfection_of
  refine F.ok sc (fun vs H Q E h => ?_) (fun cdv A outer s H vs Q E hr h => ⟨_, (pss_one (ps_ret (pe_ifExp (pt_inI (ns := [0, 3, 4]) (pe_op op_mod (pe_callB call_abs (by rfl) T.b_abs (by decide +kernel) (pa_cons (pv 0) pa_nil)) pe_int) (pa_cons pe_int (pa_cons pe_int (pa_cons pe_int pa_nil))) (fun _ _ _ h => h) (by decide)) pe_int pe_int))), ?_⟩)
  · obtain ⟨d, rfl, _⟩ := h
    rfl
  · obtain ⟨d, rfl, q⟩ := h
    rw [show start N_perfection_of [V.int d] = [some (.int d)] from rfl]
    walk_at "rd"
    intro H' s'
    have q := q H' s'
    revert q
    show Q (.int (if absI d % 7 = 0 ∨ absI d % 7 = 3 ∨ absI d % 7 = 4 then 1 else 0)) H' → if List.contains [0, 3, 4] (absI d % 7) = true then _ else _
    have e : (List.contains [0, 3, 4] (absI d % 7) = true) = (absI d % 7 = 0 ∨ absI d % 7 = 3 ∨ absI d % 7 = 4) := by
      simp
    by_cases c : absI d % 7 = 0 ∨ absI d % 7 = 3 ∨ absI d % 7 = 4
    · rw [if_pos c, if_pos (e.mpr c)]
      exact id
    · rw [if_neg c, if_neg (fun z => c (e.mp z))]
      exact id
abbrev s_consonance_of : Stmt := top 21
abbrev N_consonance_of : List Str := ["s", "t", "left", "quality"]
theorem sc_consonance_of : FnScope N_consonance_of ["s", "t"] (defScope s_consonance_of) := ⟨rfl, rfl, rfl, by decide +kernel, rfl, by decide +kernel, by decide +kernel⟩
abbrev sp_consonance_of : Sp := sp2s fun s t => .int (consS s t)
theorem ok_consonance_of {f : Addr} {fd : FuncData} (F : Fun K "consonance_of" "consonance_of" s_consonance_of f fd) (T : Txt K mg) (h_quality_of : Kn P w K mg base "quality_of" ["s", "t"] 2 sp_quality_of) : FnOk P w K mg base CX0 3 f fd ["s", "t"] sp_consonance_of := by
  have sc := sc_consonance_of
  refine F.ok sc (fun vs H Q E h => ?_) (fun cdv A outer s H vs Q E hr h => ⟨_, (pss_cons (ps_set (i := 2) sc.nd rfl (Or.inl rfl) (pe_op op_mod (pe_callB call_abs (by rfl) T.b_abs (by decide +kernel) (pa_cons (pv 0) pa_nil)) pe_int))
      (pss_cons (ps_set (i := 3) sc.nd rfl (Or.inl rfl) (pe_kn h_quality_of (hr.mono (by decide)) (by rfl) (pa_cons (pv 0) (pa_cons (pv 1) pa_nil))))
      (pss_cons (ps_if (PW.pt (pw_and (pt_inI (ns := [0, 4]) (pv 2) (pa_cons pe_int (pa_cons pe_int pa_nil)) (fun _ _ _ h => h) (by decide)) (pw_and1 (pt_cmpR op_eq (pv 3) pe_int (nomark _))))) (pss_one (ps_ret pe_int)) pss_nil)
      (pss_cons (ps_if (PW.pt (pw_and (pt_inI (ns := [2, 5]) (pv 2) (pa_cons pe_int (pa_cons pe_int pa_nil)) (fun _ _ _ h => h) (by decide)) (pw_and1 (pt_inI (ns := [0, -1]) (pv 3) (pa_cons pe_int (pa_cons (pe_un un_neg pe_int) pa_nil)) (fun _ _ _ h => ⟨_, rfl, h⟩) (by decide))))) (pss_one (ps_ret pe_int)) pss_nil)
      (pss_one (ps_ret pe_int)))))), ?_⟩)
  · obtain ⟨d, a, rfl, _⟩ := h
    rfl
  · obtain ⟨d, a, rfl, q⟩ := h
    rw [show start N_consonance_of [V.int d, V.int a] = [some (.int d), some (.int a), none, none] from rfl]
    walk_at "rd"
    simp only [consS_b] at q
    unfold absI at q
    revert q
    generalize List.contains [0, 4] ((if d < 0 then -d else d) % 7) = c1
    generalize decide (qualS d a = 0) = c2
    generalize List.contains [2, 5] ((if d < 0 then -d else d) % 7) = c3
    generalize List.contains [0, -1] (qualS d a) = c4
    intro q H1 s1
    cases c1
    · cases c3
      · exact fun H2 s2 => q _ (s1.trans s2)
      · cases c4
        · exact fun H2 s2 H3 s3 => q _ ((s1.trans s2).trans s3)
        · exact fun H2 s2 H3 s3 => q _ ((s1.trans s2).trans s3)
    · cases c2
      · cases c3
        · exact fun H2 s2 => q _ (s1.trans s2)
        · cases c4
          · exact fun H2 s2 H3 s3 => q _ ((s1.trans s2).trans s3)
          · exact fun H2 s2 H3 s3 => q _ ((s1.trans s2).trans s3)
      · exact q _ s1
abbrev s_first_step : Stmt := top 25
abbrev N_first_step : List Str := ["k", "mode"]
theorem sc_first_step : FnScope N_first_step ["k", "mode"] (defScope s_first_step) := ⟨rfl, rfl, rfl, by decide +kernel, rfl, by decide +kernel, by decide +kernel⟩
abbrev sp_first_step : Sp := sp2 (fun _ _ => True) fun k m => .int (firstS k m)
theorem ok_first_step {f : Addr} {fd : FuncData} (F : Fun K "first_step" "first_step" s_first_step f fd) : FnOk P w K mg base CX0 1 f fd ["k", "mode"] sp_first_step := by
  have sc := sc_first_step
  refine F.ok sc (fun vs H Q E h => ?_) (fun cdv A outer s H vs Q E hr h => ⟨_, (pss_one (ps_ret (pe_op op_mod (pe_op op_add (pe_op op_mul pe_int (pv 0)) (pv 1)) pe_int))), ?_⟩)
  · obtain ⟨d, a, rfl, _⟩ := h
    rfl
  · obtain ⟨d, a, rfl, _, q⟩ := h
    rw [show start N_first_step [V.int d, V.int a] = [some (.int d), some (.int a)] from rfl]
    walk_at "rd"
    exact q
abbrev s_key_alteration : Stmt := top 26
abbrev N_key_alteration : List Str := ["k", "step"]
theorem sc_key_alteration : FnScope N_key_alteration ["k", "step"] (defScope s_key_alteration) := ⟨rfl, rfl, rfl, by decide +kernel, rfl, by decide +kernel, by decide +kernel⟩
abbrev sp_key_alteration : Sp := sp2 (fun _ _ => True) fun k d => .int (altS k d)
theorem ok_key_alteration {f : Addr} {fd : FuncData} (F : Fun K "key_alteration" "key_alteration" s_key_alteration f fd) (T : Txt K mg) : FnOk P w K mg base CX0 1 f fd ["k", "step"] sp_key_alteration := by
  have sc := sc_key_alteration
  refine F.ok sc (fun vs H Q E h => ?_) (fun cdv A outer s H vs Q E hr h => ⟨_, (pss_one (ps_ret (pe_op op_fdiv (pe_op op_sub (pe_op op_add (pv 0) pe_int) (pe_gt T.g_PLACES (by rfl) (pe_op op_mod (pv 1) pe_int) (fun _ _ => rfl))) pe_int))), ?_⟩)
  · obtain ⟨d, a, rfl, _⟩ := h
    rfl
  · obtain ⟨d, a, rfl, _, q⟩ := h
    rw [show start N_key_alteration [V.int d, V.int a] = [some (.int d), some (.int a)] from rfl]
    walk_at "rd"
    exact q
abbrev s_tell_sound : Stmt := top 36
abbrev N_tell_sound : List Str := ["d", "a"]
theorem sc_tell_sound : FnScope N_tell_sound ["d", "a"] (defScope s_tell_sound) := ⟨rfl, rfl, rfl, by decide +kernel, rfl, by decide +kernel, by decide +kernel⟩
abbrev sp_tell_sound : Sp := spL2 tellSound
theorem ok_tell_sound {f : Addr} {fd : FuncData} (F : Fun K "tell_sound" "tell_sound" s_tell_sound f fd) (T : Txt K mg) (h_is_note : Kn P w K mg base "is_note" ["d", "a"] 1 sp_is_note) (h_sound_of : Kn P w K mg base "sound_of" ["d", "a"] 2 sp_sound_of) (h_place_of : Kn P w K mg base "place_of" ["d", "a"] 1 sp_place_of) :
    FnOk P w K mg base CX0 3 f fd ["d", "a"] sp_tell_sound := by
  have sc := sc_tell_sound
  refine F.ok sc (fun vs H Q E h => ?_) (fun cdv A outer s H vs Q E hr h => ⟨_, (pss_cons (ps_if (pt_not (pt_val (pe_kn h_is_note (hr.mono (by decide)) (by rfl) (pa_cons (pv 0) (pa_cons (pv 1) pa_nil))))) (pss_one (ps_ret (pe_lst (pa_cons (pe_gi T.g_REFUSED (by rfl)) pa_nil)))) pss_nil)
      (pss_one (ps_ret (pe_lst (pa_cons pe_int (pa_cons (pe_kn h_sound_of (hr.mono (by decide)) (by rfl) (pa_cons (pv 0) (pa_cons (pv 1) pa_nil))) (pa_cons (pe_kn h_place_of (hr.mono (by decide)) (by rfl) (pa_cons (pv 0) (pa_cons (pv 1) pa_nil))) pa_nil))))))), ?_⟩)
  · obtain ⟨d, a, rfl, _⟩ := h
    rfl
  · obtain ⟨d, a, rfl, q⟩ := h
    rw [show start N_tell_sound [V.int d, V.int a] = [some (.int d), some (.int a)] from rfl]
    walk_at "rd"
    unfold tellSound at q
    revert q
    generalize isN d a = c
    intro q
    cases c
    · exact ⟨sz3, fun p hp => fin_new q (Same.refl _) hp⟩
    · exact ⟨sz3, fun p hp => fin_new q (Same.refl _) hp⟩
abbrev s_tell_interval : Stmt := top 37
abbrev N_tell_interval : List Str := ["d", "a", "other_d", "other_a", "s", "t"]
theorem sc_tell_interval : FnScope N_tell_interval ["d", "a", "other_d", "other_a"] (defScope s_tell_interval) := ⟨rfl, rfl, rfl, by decide +kernel, rfl, by decide +kernel, by decide +kernel⟩
abbrev sp_tell_interval : Sp := spL4 tellInterval
theorem ok_tell_interval {f : Addr} {fd : FuncData} (F : Fun K "tell_interval" "tell_interval" s_tell_interval f fd) (T : Txt K mg) (h_is_note : Kn P w K mg base "is_note" ["d", "a"] 1 sp_is_note) (h_sound_of : Kn P w K mg base "sound_of" ["d", "a"] 2 sp_sound_of)
    (h_quality_of : Kn P w K mg base "quality_of" ["s", "t"] 2 sp_quality_of) (h_perfection_of : Kn P w K mg base "perfection_of" ["s"] 1 sp_perfection_of) (h_consonance_of : Kn P w K mg base "consonance_of" ["s", "t"] 3 sp_consonance_of) :
    FnOk P w K mg base CX0 4 f fd ["d", "a", "other_d", "other_a"] sp_tell_interval := by
  have sc := sc_tell_interval
  refine F.ok sc (fun vs H Q E h => ?_) (fun cdv A outer s H vs Q E hr h => ⟨_, (pss_cons (ps_if (PW.pt (pw_or (pt_not (pt_val (pe_kn h_is_note (hr.mono (by decide)) (by rfl) (pa_cons (pv 0) (pa_cons (pv 1) pa_nil))))) (pw_or1 (pt_not (pt_val (pe_kn h_is_note (hr.mono (by decide)) (by rfl) (pa_cons (pv 2) (pa_cons (pv 3) pa_nil)))))))) (pss_one (ps_ret (pe_lst (pa_cons (pe_gi T.g_REFUSED (by rfl)) pa_nil)))) pss_nil)
      (pss_cons (ps_set (i := 4) sc.nd rfl (Or.inl rfl) (pe_op op_sub (pv 2) (pv 0)))
      (pss_cons (ps_set (i := 5) sc.nd rfl (Or.inl rfl) (pe_op op_sub (pe_kn h_sound_of (hr.mono (by decide)) (by rfl) (pa_cons (pv 2) (pa_cons (pv 3) pa_nil))) (pe_kn h_sound_of (hr.mono (by decide)) (by rfl) (pa_cons (pv 0) (pa_cons (pv 1) pa_nil)))))
      (pss_one (ps_ret (pe_lst (pa_cons pe_int (pa_cons (pv 4) (pa_cons (pv 5) (pa_cons (pe_kn h_quality_of (hr.mono (by decide)) (by rfl) (pa_cons (pv 4) (pa_cons (pv 5) pa_nil))) (pa_cons (pe_kn h_perfection_of (hr.mono (by decide)) (by rfl) (pa_cons (pv 4) pa_nil)) (pa_cons (pe_kn h_consonance_of (hr.mono (by decide)) (by rfl) (pa_cons (pv 4) (pa_cons (pv 5) pa_nil))) pa_nil)))))))))))), ?_⟩)
  · obtain ⟨d, a, e, b, rfl, _⟩ := h
    rfl
  · obtain ⟨d, a, e, b, rfl, q⟩ := h
    rw [show start N_tell_interval [V.int d, V.int a, V.int e, V.int b] = [some (.int d), some (.int a), some (.int e), some (.int b), none, none] from rfl]
    walk_at "rd"
    unfold tellInterval at q
    revert q
    generalize isN d a = c
    generalize isN e b = c'
    intro q
    cases c
    · exact ⟨sz3, fun p hp => fin_new q (Same.refl _) hp⟩
    · cases c'
      · exact ⟨sz3, fun p hp => fin_new q (Same.refl _) hp⟩
      · exact fun H1 s1 H2 s2 => ⟨sz3, fun p hp => fin_new q (s1.trans s2) hp⟩
end
end Nf


set_option Elab.async false
set_option linter.all false
set_option maxRecDepth 100000
set_option maxHeartbeats 2000000
namespace Nf
open PySem PySem.Spec PyProof.Rows L2 Nl Nb
local macro_rules | `(tactic| walk_at "rd") => `(tactic| simp only [tRet, tSeq, tIfS, tAsg, gName, tNext, tAndV, tOrV, tNotV, tChain, tOp, tUn, rU, rI, rI0, rEq, rNe, tC, tVar, tTest, tB, tAnd, tOr, tNot, tIf, tCons, tNil, tCall, tCB, tTab, tLst, tTup, tInI, sp1s, sp2s,
  sp1, sp2, spL2, spL4, scal_int, deci, m7a, m7b, CMul, CDiv, V.int.injEq, V.bl.injEq, V.ref.injEq, exists_and_left, exists_eq_left', exists_eq_left, and_assoc, true_and, and_true, true_or, and_self, List.append_nil, List.cons.injEq,
  List.getElem?_cons_zero, List.getElem?_cons_succ, Option.some.injEq, List.set_cons_zero, List.set_cons_succ, List.length_cons, List.length_nil, Nat.reduceAdd, Int.cast_ofNat_Int, Int.reducePow, Int.reduceNeg, Int.reduceLT])
theorem u65 {k : Nat} {A : Around} (r : Room k A) : A.units + 65 < cLine := by
  have := r.un
  omega
theorem atI_mp {α β : Type} (f : α → β) {xs : List α} {i : Int} {z : α} (h : atI xs i = some z) : atI (xs.map f) i = some (f z) := by
  unfold atI at *
  rw [List.length_map]
  cases e : ixN xs.length i with
  | none => rw [e] at h; cases h
  | some j =>
    rw [e] at h
    show (xs.map f)[j]? = _
    rw [List.getElem?_map]
    have h : xs[j]? = some z := h
    rw [h]
    rfl
theorem ixI {K : PySem.W.Frag} {H : Hp} {Q : VK} {p : Addr} {ns : List Int} {i z : Int} (h : H p = some (.lst (ns.map V.int))) (e : atI ns i = some z) (q : Q (.int z) H) : rIxL K (.ref p) (.int i) H Q :=
  ⟨p, _, i, _, rfl, rfl, SqL.of h, atI_mp V.int e, q⟩
/-- a note as a row -/
def nrow (x : Int × Int) : List Int := [x.1, x.2]
/-- what lies s steps and t semitones above -/
def upS (d a s t : Int) : Int × Int := (d + s, plainS d + a + t - (plainS (d + s) + 0))
section
variable {P : Program} {w : World} {K : PySem.W.Frag} {mg : Str → Option Value} {base : Heap}
abbrev s_is_fifths : Stmt := top 11
abbrev N_is_fifths : List Str := ["k"]
theorem sc_is_fifths : FnScope N_is_fifths ["k"] (defScope s_is_fifths) := ⟨rfl, rfl, rfl, by decide +kernel, rfl, by decide +kernel, by decide +kernel⟩
abbrev sp_is_fifths : Sp := sp1 (fun _ => True) fun k => .bl (rK k)
theorem ok_is_fifths {f : Addr} {fd : FuncData} (F : Fun K "is_fifths" "is_fifths" s_is_fifths f fd) : FnOk P w K mg base CX0 1 f fd ["k"] sp_is_fifths := by
  have sc := sc_is_fifths
  refine F.ok sc (fun vs H Q E h => ?_) (fun cdv A outer s H vs Q E hr h => ⟨_, (pss_one (ps_ret (pe_chain op_le op_le (pe_un un_neg pe_int) (pv 0) pe_int))), ?_⟩)
  · obtain ⟨d, rfl, _⟩ := h
    rfl
  · obtain ⟨k, rfl, _, q⟩ := h
    rw [show start N_is_fifths [V.int k] = [some (.int k)] from rfl]
    walk_at "rd"
    have q : Q (.bl (rK k)) H := q
    unfold rK at q
    revert q
    cases decide (-7 ≤ k) <;> exact id
abbrev s_is_sound : Stmt := top 14
abbrev N_is_sound : List Str := ["sound"]
theorem sc_is_sound : FnScope N_is_sound ["sound"] (defScope s_is_sound) := ⟨rfl, rfl, rfl, by decide +kernel, rfl, by decide +kernel, by decide +kernel⟩
abbrev sp_is_sound : Sp := sp1 (fun _ => True) fun k => .bl (rSnd k)
theorem ok_is_sound {f : Addr} {fd : FuncData} (F : Fun K "is_sound" "is_sound" s_is_sound f fd) : FnOk P w K mg base CX0 1 f fd ["sound"] sp_is_sound := by
  have sc := sc_is_sound
  refine F.ok sc (fun vs H Q E h => ?_) (fun cdv A outer s H vs Q E hr h => ⟨_, (pss_one (ps_ret (pe_chain op_le op_le pe_int (pv 0) pe_int))), ?_⟩)
  · obtain ⟨d, rfl, _⟩ := h
    rfl
  · obtain ⟨k, rfl, _, q⟩ := h
    rw [show start N_is_sound [V.int k] = [some (.int k)] from rfl]
    walk_at "rd"
    have q : Q (.bl (rSnd k)) H := q
    unfold rSnd at q
    revert q
    cases decide (0 ≤ k) <;> exact id
abbrev s_is_key : Stmt := top 12
abbrev N_is_key : List Str := ["k", "mode"]
theorem sc_is_key : FnScope N_is_key ["k", "mode"] (defScope s_is_key) := ⟨rfl, rfl, rfl, by decide +kernel, rfl, by decide +kernel, by decide +kernel⟩
abbrev sp_is_key : Sp := sp2 (fun _ _ => True) fun k m => .bl (isK k m)
theorem ok_is_key {f : Addr} {fd : FuncData} (F : Fun K "is_key" "is_key" s_is_key f fd) (h_is_fifths : Kn P w K mg base "is_fifths" ["k"] 1 sp_is_fifths) : FnOk P w K mg base CX0 2 f fd ["k", "mode"] sp_is_key := by
  have sc := sc_is_key
  refine F.ok sc (fun vs H Q E h => ?_) (fun cdv A outer s H vs Q E hr h => ⟨_, (pss_one (ps_ret (pe_and (pe_kn h_is_fifths (hr.mono (by decide)) (by rfl) (pa_cons (pv 0) pa_nil)) (pe_one (pe_chain op_le op_le pe_int (pv 1) pe_int))))), ?_⟩)
  · obtain ⟨d, a, rfl, _⟩ := h
    rfl
  · obtain ⟨k, m, rfl, _, q⟩ := h
    rw [show start N_is_key [V.int k, V.int m] = [some (.int k), some (.int m)] from rfl]
    walk_at "rd"
    have q : Q (.bl (isK k m)) H := q
    have e : isK k m = (rK k && (decide (0 ≤ m) && decide (m ≤ 6))) := rfl
    rw [e] at q
    revert q
    cases rK k
    · exact id
    · cases decide (0 ≤ m) <;> exact id
abbrev s_is_distance : Stmt := top 13
abbrev N_is_distance : List Str := ["s", "t"]
theorem sc_is_distance : FnScope N_is_distance ["s", "t"] (defScope s_is_distance) := ⟨rfl, rfl, rfl, by decide +kernel, rfl, by decide +kernel, by decide +kernel⟩
abbrev sp_is_distance : Sp := sp2 (fun _ _ => True) fun s t => .bl (rS s && rT t)
theorem ok_is_distance {f : Addr} {fd : FuncData} (F : Fun K "is_distance" "is_distance" s_is_distance f fd) : FnOk P w K mg base CX0 1 f fd ["s", "t"] sp_is_distance := by
  have sc := sc_is_distance
  refine F.ok sc (fun vs H Q E h => ?_) (fun cdv A outer s H vs Q E hr h => ⟨_, (pss_one (ps_ret (pe_and (pe_chain op_le op_le (pe_un un_neg pe_int) (pv 0) pe_int) (pe_one (pe_chain op_le op_le (pe_un un_neg pe_int) (pv 1) pe_int))))), ?_⟩)
  · obtain ⟨d, a, rfl, _⟩ := h
    rfl
  · obtain ⟨s, t, rfl, _, q⟩ := h
    rw [show start N_is_distance [V.int s, V.int t] = [some (.int s), some (.int t)] from rfl]
    walk_at "rd"
    have q : Q (.bl (rS s && rT t)) H := q
    unfold rS rT at q
    revert q
    cases decide (-70 ≤ s)
    · exact id
    · cases decide (s ≤ 70)
      · exact id
      · cases decide (-200 ≤ t) <;> exact id
abbrev s_is_turned_kind : Stmt := top 15
abbrev N_is_turned_kind : List Str := ["kind", "turn"]
theorem sc_is_turned_kind : FnScope N_is_turned_kind ["kind", "turn"] (defScope s_is_turned_kind) := ⟨rfl, rfl, rfl, by decide +kernel, rfl, by decide +kernel, by decide +kernel⟩
abbrev sp_is_turned_kind : Sp := sp2 (fun _ _ => True) fun k t => .bl (isB k t)
theorem ok_is_turned_kind {f : Addr} {fd : FuncData} (F : Fun K "is_turned_kind" "is_turned_kind" s_is_turned_kind f fd) (T : Txt K mg) : FnOk P w K mg base CX0 1 f fd ["kind", "turn"] sp_is_turned_kind := by
  have sc := sc_is_turned_kind
  obtain ⟨cA, hC, hT⟩ := T.g_CHORDS
  refine F.ok sc (fun vs H Q E h => ?_) (fun cdv A outer s H vs Q E hr h => ⟨_, (pss_one (ps_ret (pe_and (pe_chain op_le op_lt pe_int (pv 0) (pe_callB call_len_seq (by rfl) T.b_len (by decide +kernel) (pa_cons (pe_glob (v := V.ref cA) (by rfl) hC rfl) pa_nil))) (pe_one (pe_chain op_le op_lt pe_int (pv 1) (pe_callB call_len_seq (by rfl) T.b_len (by decide +kernel) (pa_cons (pe_ix ix_tup (pe_glob (v := V.ref cA) (by rfl) hC rfl) (pv 0) (fun _ _ => rfl)) pa_nil))))))), ?_⟩)
  · obtain ⟨d, a, rfl, _⟩ := h
    rfl
  · obtain ⟨k, t, rfl, _, q⟩ := h
    rw [show start N_is_turned_kind [V.int k, V.int t] = [some (.int k), some (.int t)] from rfl]
    have q : Q (.bl (isB k t)) H := q
    obtain ⟨xs, hx, hp⟩ := id hT
    have hlen : xs.length = 9 := Paired.length hp
    walk_at "rd"
    by_cases h0 : 0 ≤ k
    · rw [decide_eq_true h0]
      refine iteT ⟨_, .inr (hx _), ?_⟩
      rw [hlen]
      by_cases h9 : k < 9
      · rw [show decide (k < ((9 : Nat) : Int)) = true from decide_eq_true h9]
        refine iteT ?_
        obtain ⟨r, hr9⟩ : ∃ r, chordsT[k.toNat]? = some r := ⟨_, List.getElem?_eq_getElem (by show k.toNat < 9; omega)⟩
        obtain ⟨ys, p, hy, e, hp2⟩ := tt_ix hT h0 hr9
        have hkl : (kindS k).length + 1 = r.length := by
          have e9 : ∀ i : Nat, i < 9 → ∀ r, chordsT[i]? = some r → (Cp01.kinds.getD i []).length + 1 = r.length := by
            intro i hi r hr
            match i, hi with
            | 0, _ => cases hr; rfl
            | 1, _ => cases hr; rfl
            | 2, _ => cases hr; rfl
            | 3, _ => cases hr; rfl
            | 4, _ => cases hr; rfl
            | 5, _ => cases hr; rfl
            | 6, _ => cases hr; rfl
            | 7, _ => cases hr; rfl
            | 8, _ => cases hr; rfl
          exact e9 _ (by omega) _ hr9
        have eB : isB k t = (decide (0 ≤ t) && decide (t < (r.length : Int))) := by
          unfold isB
          rw [decide_eq_true h0, decide_eq_true (show k ≤ 8 by omega), ← hkl]
          show (decide (0 ≤ t) && decide (t ≤ ((kindS k).length : Int))) = (decide (0 ≤ t) && decide (t < (((kindS k).length + 1 : Nat) : Int)))
          rw [show decide (t ≤ ((kindS k).length : Int)) = decide (t < (((kindS k).length + 1 : Nat) : Int)) from decide_eq_decide.mpr (by omega)]
        rw [eB] at q
        revert q
        cases decide (0 ≤ t)
        · exact id
        · intro q
          refine iteT ⟨_, _, _, _, rfl, rfl, hy _, e, ?_⟩
          refine ⟨_, rfl, _, .inr (hp2 _), ?_⟩
          rw [List.length_map]
          exact q
      · rw [show decide (k < ((9 : Nat) : Int)) = false from decide_eq_false h9]
        refine iteF ?_
        have eB : isB k t = false := by
          unfold isB
          rw [decide_eq_false (show ¬ k ≤ 8 by omega), Bool.and_false]
          rfl
        rw [eB] at q
        exact q
    · rw [decide_eq_false h0]
      have eB : isB k t = false := by
        unfold isB
        rw [decide_eq_false h0]
        rfl
      rw [eB] at q
      exact q
abbrev s_above : Stmt := top 22
abbrev N_above : List Str := ["note", "s", "t", "step"]
theorem sc_above : FnScope N_above ["note", "s", "t"] (defScope s_above) := ⟨rfl, rfl, rfl, by decide +kernel, rfl, by decide +kernel, by decide +kernel⟩
def sp_above : Sp := fun vs H Q _ => ∃ (p : Addr) (d a s t : Int), vs = [.ref p, .int s, .int t] ∧ H p = some (.lst ((nrow (d, a)).map V.int)) ∧ NewI H Q (nrow (upS d a s t))
theorem ok_above {f : Addr} {fd : FuncData} (F : Fun K "above" "above" s_above f fd) (h_sound_of : Kn P w K mg base "sound_of" ["d", "a"] 2 sp_sound_of) : FnOk P w K mg base CX0 3 f fd ["note", "s", "t"] sp_above := by
  have sc := sc_above
  refine F.ok sc (fun vs H Q E h => ?_) (fun cdv A outer s H vs Q E hr h => ⟨_, (pss_cons (ps_set (i := 3) sc.nd rfl (Or.inl rfl) (pe_op op_add (pe_ix ix_list (pv 0) pe_int (fun _ _ => rfl)) (pv 1)))
      (pss_one (ps_ret (pe_lst (pa_cons (pv 3) (pa_cons (pe_op op_sub (pe_op op_add (pe_kn h_sound_of (hr.mono (by decide)) (by rfl) (pa_cons (pe_ix ix_list (pv 0) pe_int (fun _ _ => rfl)) (pa_cons (pe_ix ix_list (pv 0) pe_int (fun _ _ => rfl)) pa_nil))) (pv 2)) (pe_kn h_sound_of (hr.mono (by decide)) (by rfl) (pa_cons (pv 3) (pa_cons pe_int pa_nil)))) pa_nil)))))), ?_⟩)
  · obtain ⟨p, d, a, s, t, rfl, _⟩ := h
    rfl
  · obtain ⟨p, d, a, s, t, rfl, hp, q⟩ := h
    rw [show start N_above [V.ref p, V.int s, V.int t] = [some (.ref p), some (.int s), some (.int t), none] from rfl]
    walk_at "rd"
    refine ixI hp rfl ?_
    walk_at "rd"
    refine ixI hp rfl ?_
    refine ixI hp rfl ?_
    walk_at "rd"
    exact ⟨sz3, fun p hp => fin_new q (Same.refl _) hp⟩
end
end Nf


set_option Elab.async false
set_option linter.all false
set_option maxRecDepth 100000
set_option maxHeartbeats 2000000
namespace Nf
open PySem PySem.Spec PyProof.Rows L2 Nl Nb
local macro_rules | `(tactic| walk_at "rd") => `(tactic| simp only [tRet, tSeq, tIfS, tAsg, gName, tNext, tAndV, tOrV, tNotV, tChain, tOp, tUn, rU, rI, rI0, rEq, rNe, tC, tVar, tTest, tB, tAnd, tOr, tNot, tIf, tCons, tNil, tCall, tCB, tTab, tLst, tTup, tInI, sp1s, sp2s, wipe, List.map_cons, List.map_nil,
  sp1, sp2, spL2, spL4, scal_int, deci, m7a, m7b, CMul, CDiv, V.int.injEq, V.bl.injEq, V.ref.injEq, exists_and_left, exists_eq_left', exists_eq_left, and_assoc, true_and, and_true, true_or, and_self, List.append_nil, List.cons.injEq,
  List.getElem?_cons_zero, List.getElem?_cons_succ, Option.some.injEq, List.set_cons_zero, List.set_cons_succ, List.length_cons, List.length_nil, Nat.reduceAdd, Int.cast_ofNat_Int, Int.reducePow, Int.reduceNeg, Int.reduceLT])
theorem ix_listK {X : Cx} {K : PySem.W.Frag} (h : X.K = K) : IxR X (rIxL K) := h ▸ ix_list
theorem ix_tupK {X : Cx} {K : PySem.W.Frag} (h : X.K = K) : IxR X (rIxT K) := h ▸ ix_tup
theorem sl_listK {X : Cx} {K : PySem.W.Frag} (h : X.K = K) : SlR X (rSlL K) := h ▸ sl_list
theorem op_inDK {X : Cx} {K : PySem.W.Frag} (h : X.K = K) (hu : X.A.units + 65 < cLine) : OpR X (compareOp .In) (rInD K) := h ▸ op_inD hu
theorem tLc_list {K : PySem.W.Frag} {tl : TE} {g : TG} {tt : TT} {te : TE} {vs : List Nat} {σ : L2.St} {H : Hp} {Q : VK} (h : tl σ H fun x H1 => ∃ a, x = .ref a ∧ (∃ xs, SqL K H1 a xs) ∧ LcW (Itl K a) g tt te vs σ H1 Q) : tLc (iList K tl) g tt te vs σ H Q := h
theorem tLc_rng1 {ta : TA} {g : TG} {tt : TT} {te : TE} {vs : List Nat} {σ : L2.St} {H : Hp} {Q : VK} (h : ta σ H fun us H1 => ∃ j : Int, us = [.int j] ∧ -(2 ^ 62) ≤ j ∧ j < 2 ^ 62 ∧ LcW (Itr 0 j.toNat) g tt te vs σ H1 Q) : tLc (iRng1 ta) g tt te vs σ H Q := h
theorem tLc_rng3 {ta : TA} {g : TG} {tt : TT} {te : TE} {vs : List Nat} {σ : L2.St} {H : Hp} {Q : VK} (h : ta σ H fun us H1 => ∃ (i j c : Int) (n : Nat), us = [.int i, .int j, .int c] ∧ RgC i j c n ∧ LcW (Itc i c n) g tt te vs σ H1 Q) : tLc (iRng3 ta) g tt te vs σ H Q := h
theorem nrow_at {prs : List (Int × Int)} {i : Nat} {r : List Int} (h : (prs.map nrow)[i]? = some r) : r = nrow (prs.getD i (0, 0)) := by
  rw [List.getElem?_map] at h
  rw [List.getD_eq_getElem?_getD]
  cases e : prs[i]? with
  | none => rw [e] at h; cases h
  | some x => rw [e] at h; cases h; rfl
theorem range_getD {α β : Type} (g : α → β) (z : α) (l : List α) : (List.range l.length).map (fun i => g (l.getD i z)) = l.map g := by
  apply List.ext_getElem?
  intro i
  rw [List.getElem?_map, List.getElem?_map]
  by_cases h : i < l.length
  · rw [List.getElem?_range h, List.getElem?_eq_getElem h]
    show some (g (l.getD i z)) = some (g l[i])
    rw [List.getD_eq_getElem?_getD, List.getElem?_eq_getElem h]
    rfl
  · rw [List.getElem?_eq_none (by simpa using h), List.getElem?_eq_none (by simpa using h)]
    rfl
section
variable {P : Program} {w : World} {K : PySem.W.Frag} {mg : Str → Option Value} {base : Heap}
abbrev s_are_notes : Stmt := top 10
abbrev N_are_notes : List Str := ["notes", "note"]
theorem sc_are_notes : FnScope N_are_notes ["notes"] (defScope s_are_notes) := ⟨rfl, rfl, rfl, by decide +kernel, rfl, by decide +kernel, by decide +kernel⟩
def sp_are_notes : Sp := fun vs H Q _ => ∃ (a : Addr) (B : Hp) (prs : List (Int × Int)), vs = [.ref a] ∧ LL B H a (prs.map nrow) ∧ prs.length < 1000 ∧ ∀ H' : Hp, Same H H' → Q (.bl (prs.all fun x => isN x.1 x.2)) H'
theorem ok_are_notes {f : Addr} {fd : FuncData} (F : Fun K "are_notes" "are_notes" s_are_notes f fd) (T : Txt K mg) (h_is_note : Kn P w K mg base "is_note" ["d", "a"] 1 sp_is_note) : FnOk P w K mg base CX0 2 f fd ["notes"] sp_are_notes := by
  have sc := sc_are_notes
  refine F.ok sc (fun vs H Q E h => ?_) (fun cdv A outer s H vs Q E hr h => ⟨_, (pss_one (ps_ret (pe_callB (cr_all rfl) (by rfl) T.b_all (by decide +kernel) (pa_cons (pe_lc (own := [("note", 1)]) (g := gName 1) (by rfl) sc.nd (pi_list (pv 0)) (blkOk_by (own := [("note", 1)]) (N := N_are_notes) (sc := defScope s_are_notes) (by decide +kernel)) (fun _ _ _ _ _ => pg_name (i := 1) sc.nd rfl (Or.inl rfl)) (fun _ _ _ _ _ => pts_nil) (fun _ _ _ _ _ => (pe_kn h_is_note (hr.mono (by decide)) (by rfl) (pa_cons (pe_ix (ix_listK (K := K) rfl) (pv 1) pe_int (fun _ _ => rfl)) (pa_cons (pe_ix (ix_listK (K := K) rfl) (pv 1) pe_int (fun _ _ => rfl)) pa_nil))))) pa_nil)))), ?_⟩)
  · obtain ⟨a, B, prs, rfl, _⟩ := h
    rfl
  · obtain ⟨a, B, prs, rfl, ⟨xs, ha, hr2⟩, hn, q⟩ := h
    rw [show start N_are_notes [V.ref a] = [some (.ref a), none] from rfl]
    have hl := hr2.len
    rw [List.length_map] at hl
    dsimp only [tRet, tCB, tCons]
    refine tLc_list ⟨_, rfl, a, rfl, ⟨_, SqL.of ha⟩, ?_⟩
    refine lc_val (wl (xs := xs)) (f := fun i => .bl (isN (prs.getD i (0, 0)).1 (prs.getD i (0, 0)).2)) (by omega) (fun H' s' => SqL.of (s' _ _ ha)) ?_ ?_ ?_
    · intro i x H' Q' hi hx s1 q1
      obtain ⟨r, p, er, rfl, _, ep⟩ := hr2.at hx
      have er := nrow_at er
      subst er
      walk_at "rd"
      refine ixI (s1 _ _ ep) rfl ?_
      walk_at "rd"
      refine ixI (s1 _ _ ep) rfl ?_
      walk_at "rd"
      exact q1 _ (Same.refl _)
    · intro x
      rfl
    · intro D H' s1 hD e1
      refine ⟨D, prs.map fun x => isN x.1 x.2, rfl, SqL.of (e1.trans ?_), ?_⟩
      · rw [hl, range_getD (fun x : Int × Int => V.bl (isN x.1 x.2)), List.map_map]
        rfl
      · rw [List.all_map]
        exact q _ s1
abbrev s_counted : Stmt := top 24
abbrev N_counted : List Str := ["notes", "told", "note"]
theorem sc_counted : FnScope N_counted ["notes"] (defScope s_counted) := ⟨rfl, rfl, rfl, by decide +kernel, rfl, by decide +kernel, by decide +kernel⟩
/-- how many, then they; -3 where one is no note -/
def countS (prs : List (Int × Int)) : List Int := if (prs.all fun x => isN x.1 x.2) then (prs.length : Int) :: unpairs prs else [-3]
def sp_counted : Sp := fun vs H Q _ => ∃ (a : Addr) (B : Hp) (prs : List (Int × Int)), vs = [.ref a] ∧ LL B H a (prs.map nrow) ∧ prs.length < 100 ∧ NewI H Q (countS prs)
theorem ok_counted {f : Addr} {fd : FuncData} (F : Fun K "counted" "counted" s_counted f fd) (T : Txt K mg) (h_are_notes : Kn P w K mg base "are_notes" ["notes"] 2 sp_are_notes) : FnOk P w K mg base CX0 3 f fd ["notes"] sp_counted := by
  have sc := sc_counted
  refine F.ok sc (fun vs H Q E h => ?_) (fun cdv A outer s H vs Q E hr h => ⟨_, (pss_cons (ps_if (pt_not (pt_val (pe_kn h_are_notes (hr.mono (by decide)) (by rfl) (pa_cons (pv 0) pa_nil)))) (pss_one (ps_ret (pe_lst (pa_cons (pe_gi T.g_NO_NOTE (by rfl)) pa_nil)))) pss_nil)
      (pss_cons (ps_set (i := 1) sc.nd rfl (Or.inl rfl) (pe_lst (pa_cons (pe_callB call_len_seq (by rfl) T.b_len (by decide +kernel) (pa_cons (pv 0) pa_nil)) pa_nil)))
      (pss_cons (ps_for PassesOwn.never rfl (pi_list (pv 0)) (pg_name (i := 2) sc.nd rfl (Or.inl rfl)) (pss_one (ps_expr (pe_bm PySem.F.plainAttrs_list PySem.F.slot_list_extend PySem.F.type_list_extend mt_extend (pv 1) (pa_cons (pv 2) pa_nil)))))
      (pss_one (ps_ret (pv 1)))))), ?_⟩)
  · obtain ⟨a, B, prs, rfl, _⟩ := h
    rfl
  · obtain ⟨a, B, prs, rfl, hL, hn, q⟩ := h
    rw [show start N_counted [V.ref a] = [some (.ref a), none, none] from rfl]
    refine ⟨_, rfl, a, B, prs, rfl, hL, by omega, fun H1 s1 => ?_⟩
    refine ⟨_, rfl, ?_⟩
    unfold countS at q
    revert q
    cases prs.all fun x => isN x.1 x.2
    · intro q
      exact ⟨sz3, fun p hp => fin_new q s1 hp⟩
    · intro q
      obtain ⟨xs, ha, hr2⟩ := hL
      have hl := hr2.len
      rw [List.length_map] at hl
      have ha1 := s1 _ _ ha
      refine ⟨_, rfl, a, xs, rfl, .inl (SqL.of ha1), sz3 (by show 1 ≤ 1000; decide), fun t ht => ?_⟩
      refine ⟨_, rfl, a, rfl, ⟨xs, SqL.of (same_new ht _ _ ha1)⟩, ?_⟩
      refine for_list (xs := xs) (fun i σ H' => Same H1 H' ∧ (∃ v, σ = [some (.ref a), some (.ref t), v]) ∧ H' t = some (.lst (((prs.length : Int) :: unpairs (prs.take i)).map V.int))) ⟨same_new ht, ⟨_, rfl⟩, ?_⟩ (fun i σ H' _ p => SqL.of (p.1 _ _ ha1)) ?_ ?_
      · show upd H1 t (.lst [.int xs.length]) t = _
        rw [upd_same, hl]
        rfl
      · rintro i x σ H' hx ⟨s2, ⟨v, rfl⟩, e2⟩
        obtain ⟨r, p, er, rfl, _, ep⟩ := hr2.at hx
        have hi : i < prs.length := by
          obtain ⟨h1, _⟩ := List.getElem?_eq_some_iff.mp hx
          omega
        have er := nrow_at er
        subst er
        have ep2 := s2 _ _ (s1 _ _ ep)
        refine ⟨_, rfl, .inl ⟨rfl, _, SqL.of e2⟩, _, rfl, t, p, _, _, rfl, rfl, e2, ep2, sz3 ?_, ?_⟩
        · rw [List.length_map, List.length_map, List.length_cons]
          have l1 : ∀ l : List (Int × Int), (unpairs l).length = 2 * l.length := by
            intro l
            induction l with
            | nil => rfl
            | cons x l ih =>
              show (x.1 :: x.2 :: unpairs l).length = _
              rw [List.length_cons, List.length_cons, ih, List.length_cons]
              omega
          rw [l1, List.length_take]
          show 2 * min i prs.length + 1 + 2 ≤ 1000
          omega
        · refine ⟨same_up ht s2, ⟨_, rfl⟩, ?_⟩
          rw [upd_same]
          have et : prs.take (i + 1) = prs.take i ++ [prs.getD i (0, 0)] := by
            rw [List.take_succ, List.getD_eq_getElem?_getD, List.getElem?_eq_getElem hi]
            rfl
          rw [et]
          have eu : unpairs (prs.take i ++ [prs.getD i (0, 0)]) = unpairs (prs.take i) ++ nrow (prs.getD i (0, 0)) := List.flatMap_append
          rw [eu, ← List.map_append]
          rfl
      · rintro σ H' ⟨s2, ⟨v, rfl⟩, e2⟩
        rw [hl, List.take_length] at e2
        exact ⟨_, rfl, q _ t (s1.trans s2) (s1.free ht) e2⟩
end
end Nf


set_option Elab.async false
set_option linter.all false
set_option maxRecDepth 100000
set_option maxHeartbeats 2000000
namespace Nf
open PySem PySem.Spec PyProof.Rows L2 Nl Nb
local macro_rules | `(tactic| walk_at "rd") => `(tactic| simp only [tRet, tSeq, tIfS, tAsg, gName, tNext, tAndV, tOrV, tNotV, tChain, tOp, tUn, rU, rI, rI0, rEq, rNe, tC, tVar, tTest, tB, tAnd, tOr, tNot, tIf, tCons, tNil, tCall, tCB, tTab, tLst, tTup, tInI, sp1s, sp2s, wipe, List.map_cons, List.map_nil,
  sp1, sp2, spL2, spL4, scal_int, deci, m7a, m7b, CMul, CDiv, V.int.injEq, V.bl.injEq, V.ref.injEq, exists_and_left, exists_eq_left', exists_eq_left, and_assoc, true_and, and_true, true_or, and_self, List.append_nil, List.cons.injEq,
  List.getElem?_cons_zero, List.getElem?_cons_succ, Option.some.injEq, List.set_cons_zero, List.set_cons_succ, List.length_cons, List.length_nil, Nat.reduceAdd, Int.cast_ofNat_Int, Int.reducePow, Int.reduceNeg, Int.reduceLT])
/-- a new list of rows -/
def NewR (H : Hp) (Q : VK) (rs : List (List Int)) : Prop := ∀ (H' : Hp) (p : Addr), Same H H' → H p = none → LL H H' p rs → Q (.ref p) H'
theorem small2 {b m : Int} (hb : 0 ≤ b) (hb' : b < 2 ^ 62) (e : Builtin.Range.rangeSize 0 b 2 = m) (h0 : 0 ≤ m) (h1 : m < 2 ^ 62) : Builtin.Range.small 0 b 2 = true := by
  unfold Builtin.Range.small
  rw [e]
  simp only [Builtin.Range.rangeFitsLong, Bool.and_eq_true, Bool.or_eq_true, decide_eq_true_eq, beq_iff_eq, show (2 : Int) > 0 by decide, if_true]
  omega
theorem rg2 (n : Nat) (h : n < 1000) : RgC 0 ((2 * n : Nat) : Int) 2 n := by
  have e : Builtin.Range.rangeSize 0 ((2 * n : Nat) : Int) 2 = n := by
    unfold Builtin.Range.rangeSize
    simp only [show (2 : Int) > 0 by decide, if_true]
    split <;> omega
  exact ⟨by decide, by decide, small2 (by omega) (by omega) e (by omega) (by omega), e⟩
theorem len_un : ∀ l : List (Int × Int), (unpairs l).length = 2 * l.length
  | [] => rfl
  | x :: l => by
    show (x.1 :: x.2 :: unpairs l).length = _
    rw [List.length_cons, List.length_cons, len_un l, List.length_cons]
    omega
theorem cut_map {A B C : List Int} {i j : Int} (hi : i = (A.length : Int)) (hj : j = ((A.length + B.length : Nat) : Int)) : cutV ((A ++ (B ++ C)).map V.int) (some i) (some j) = B.map V.int := by
  subst hi hj
  unfold cutV
  rw [HT.sIx_nat, HT.sIx_nat, List.length_map]
  have e1 : min A.length (A ++ (B ++ C)).length = A.length := by
    rw [List.length_append]; omega
  have e2 : min (A.length + B.length) (A ++ (B ++ C)).length = A.length + B.length := by
    rw [List.length_append, List.length_append]; omega
  rw [e1, e2]
  have e3 : A.length + B.length - A.length = B.length := by omega
  rw [e3, List.map_append, List.drop_left' (by rw [List.length_map]), List.map_append, List.take_left' (by rw [List.length_map])]
theorem un_split {prs : List (Int × Int)} {i : Nat} (h : i < prs.length) : unpairs prs = unpairs (prs.take i) ++ (nrow (prs.getD i (0, 0)) ++ unpairs (prs.drop (i + 1))) := by
  have e : prs = prs.take i ++ (prs.getD i (0, 0) :: prs.drop (i + 1)) := by
    rw [List.getD_eq_getElem?_getD, List.getElem?_eq_getElem h]
    show prs = prs.take i ++ (prs[i] :: prs.drop (i + 1))
    rw [← List.drop_eq_getElem_cons h, List.take_append_drop]
  have e2 : unpairs (prs.take i ++ (prs.getD i (0, 0) :: prs.drop (i + 1))) = unpairs (prs.take i) ++ (nrow (prs.getD i (0, 0)) ++ unpairs (prs.drop (i + 1))) := by
    show List.flatMap _ (_ ++ _) = _
    rw [List.flatMap_append]
    rfl
  rw [← e2, ← e]
section
variable {P : Program} {w : World} {K : PySem.W.Frag} {mg : Str → Option Value} {base : Heap}
abbrev s_paired : Stmt := top 23
abbrev N_paired : List Str := ["numbers", "at"]
theorem sc_paired : FnScope N_paired ["numbers"] (defScope s_paired) := ⟨rfl, rfl, rfl, by decide +kernel, rfl, by decide +kernel, by decide +kernel⟩
def sp_paired : Sp := fun vs H Q _ => ∃ (a : Addr) (prs : List (Int × Int)), vs = [.ref a] ∧ H a = some (.lst ((unpairs prs).map V.int)) ∧ prs.length < 1000 ∧ NewR H Q (prs.map nrow)
theorem ok_paired {f : Addr} {fd : FuncData} (F : Fun K "paired" "paired" s_paired f fd) (T : Txt K mg) : FnOk P w K mg base CX0 1 f fd ["numbers"] sp_paired := by
  have sc := sc_paired
  refine F.ok sc (fun vs H Q E h => ?_) (fun cdv A outer s H vs Q E hr h => ⟨_, (pss_one (ps_ret (pe_lc (own := [("at", 1)]) (g := gName 1) (by rfl) sc.nd (pi_range3 (by rfl) T.b_range (pa_cons pe_int (pa_cons (pe_callB call_len_seq (by rfl) T.b_len (by decide +kernel) (pa_cons (pv 0) pa_nil)) (pa_cons pe_int pa_nil)))) (blkOk_by (own := [("at", 1)]) (N := N_paired) (sc := defScope s_paired) (by decide +kernel)) (fun _ _ _ _ _ => pg_name (i := 1) sc.nd rfl (Or.inl rfl)) (fun _ _ _ _ _ => pts_nil) (fun _ _ _ _ _ => (pe_slice (sl_listK (K := K) rfl) (pv 0) (po_some (pv 1)) (po_some (pe_op op_add (pv 1) pe_int))))))), ?_⟩)
  · obtain ⟨a, prs, rfl, _⟩ := h
    rfl
  · obtain ⟨a, prs, rfl, ha, hn, q⟩ := h
    rw [show start N_paired [V.ref a] = [some (.ref a), none] from rfl]
    dsimp only [tRet]
    have rg := rg2 prs.length hn
    refine tLc_rng3 ⟨_, rfl, a, _, rfl, .inl (SqL.of ha), 0, _, 2, prs.length, rfl, ?_, ?_⟩
    · rw [List.length_map, len_un]
      exact rg
    refine lc_new wrc (f := fun i => nrow (prs.getD i (0, 0))) hn (fun _ _ => trivial) ?_ ?_ ?_
    · intro i x H' Q' hi hx s1 q1
      subst hx
      refine ⟨_, rfl, _, rfl, _, rfl, _, rfl, _, _, rfl, rfl, _, rfl, a, _, rfl, SqL.of (s1 _ _ ha), fun p hp => ?_⟩
      refine q1 _ p (same_new hp) hp (upd_same.trans (congrArg (fun z => some (HO.lst z)) ?_))
      rw [un_split hi]
      refine cut_map ?_ ?_
      · rw [len_un, List.length_take]
        omega
      · rw [len_un, List.length_take]
        show _ = ((2 * min i prs.length + 2 : Nat) : Int)
        omega
    · intro x
      rfl
    · intro D H' s1 hD e1
      rw [range_getD nrow] at e1
      exact q _ D s1 hD e1
abbrev s_tell_above : Stmt := top 38
abbrev N_tell_above : List Str := ["d", "a", "s", "t", "note"]
theorem sc_tell_above : FnScope N_tell_above ["d", "a", "s", "t"] (defScope s_tell_above) := ⟨rfl, rfl, rfl, by decide +kernel, rfl, by decide +kernel, by decide +kernel⟩
abbrev sp_tell_above : Sp := spL4 tellAbove
theorem ok_tell_above {f : Addr} {fd : FuncData} (F : Fun K "tell_above" "tell_above" s_tell_above f fd) (T : Txt K mg) (h_is_note : Kn P w K mg base "is_note" ["d", "a"] 1 sp_is_note) (h_is_distance : Kn P w K mg base "is_distance" ["s", "t"] 1 sp_is_distance) (h_above : Kn P w K mg base "above" ["note", "s", "t"] 3 sp_above) :
    FnOk P w K mg base CX0 4 f fd ["d", "a", "s", "t"] sp_tell_above := by
  have sc := sc_tell_above
  refine F.ok sc (fun vs H Q E h => ?_) (fun cdv A outer s H vs Q E hr h => ⟨_, (pss_cons (ps_if (PW.pt (pw_or (pt_not (pt_val (pe_kn h_is_note (hr.mono (by decide)) (by rfl) (pa_cons (pv 0) (pa_cons (pv 1) pa_nil))))) (pw_or1 (pt_not (pt_val (pe_kn h_is_distance (hr.mono (by decide)) (by rfl) (pa_cons (pv 2) (pa_cons (pv 3) pa_nil)))))))) (pss_one (ps_ret (pe_lst (pa_cons (pe_gi T.g_REFUSED (by rfl)) pa_nil)))) pss_nil)
      (pss_cons (ps_set (i := 4) sc.nd rfl (Or.inl rfl) (pe_kn h_above (hr.mono (by decide)) (by rfl) (pa_cons (pe_lst (pa_cons (pv 0) (pa_cons (pv 1) pa_nil))) (pa_cons (pv 2) (pa_cons (pv 3) pa_nil)))))
      (pss_cons (ps_if (pt_not (pt_val (pe_kn h_is_note (hr.mono (by decide)) (by rfl) (pa_cons (pe_ix (ix_listK (K := K) rfl) (pv 4) pe_int (fun _ _ => rfl)) (pa_cons (pe_ix (ix_listK (K := K) rfl) (pv 4) pe_int (fun _ _ => rfl)) pa_nil))))) (pss_one (ps_ret (pe_lst (pa_cons (pe_gi T.g_NO_NOTE (by rfl)) pa_nil)))) pss_nil)
      (pss_one (ps_ret (pe_op op_cat (pe_lst (pa_cons pe_int pa_nil)) (pv 4))))))), ?_⟩)
  · obtain ⟨d, a, e, b, rfl, _⟩ := h
    rfl
  · obtain ⟨d, a, s, t, rfl, q⟩ := h
    rw [show start N_tell_above [V.int d, V.int a, V.int s, V.int t] = [some (.int d), some (.int a), some (.int s), some (.int t), none] from rfl]
    walk_at "rd"
    have q : NewI H Q (if isN d a && (rS s && rT t) then (match aboveS d a s t with
      | none => [-3]
      | some x => [0, x.1, x.2]) else [-1]) := q
    revert q
    cases isN d a
    · exact fun q => ⟨sz3, fun p hp => fin_new q (Same.refl _) hp⟩
    cases rS s && rT t
    · exact fun q => ⟨sz3, fun p hp => fin_new q (Same.refl _) hp⟩
    intro q
    refine ⟨sz3, fun p hp => ?_⟩
    refine ⟨p, d, a, s, t, rfl, upd_same, fun H1 p1 s1 n1 e1 => ?_⟩
    walk_at "rd"
    refine ixI e1 rfl ?_
    walk_at "rd"
    refine ixI e1 rfl ?_
    walk_at "rd"
    have ea : aboveS d a s t = if isN (upS d a s t).1 (upS d a s t).2 then some (upS d a s t) else none := rfl
    rw [ea] at q
    revert q
    cases isN (upS d a s t).1 (upS d a s t).2
    · exact fun q => ⟨sz3, fun p2 hp2 => fin_new q ((same_new hp).trans s1) hp2⟩
    · intro q
      refine ⟨sz3, fun p2 hp2 => ?_⟩
      refine ⟨p2, p1, [.int 0], _, rfl, rfl, upd_same, (same_new hp2) _ _ e1, sz3 (by show 3 ≤ 1000; decide), fun p3 hp3 => ?_⟩
      exact fin_new (ns := [0, (upS d a s t).1, (upS d a s t).2]) q (((same_new hp).trans s1).trans (same_new hp2)) hp3
abbrev s_tell_degree : Stmt := top 40
abbrev N_tell_degree : List Str := ["k", "mode", "d", "a"]
theorem sc_tell_degree : FnScope N_tell_degree ["k", "mode", "d", "a"] (defScope s_tell_degree) := ⟨rfl, rfl, rfl, by decide +kernel, rfl, by decide +kernel, by decide +kernel⟩
abbrev sp_tell_degree : Sp := spL4 tellDegree
theorem ok_tell_degree {f : Addr} {fd : FuncData} (F : Fun K "tell_degree" "tell_degree" s_tell_degree f fd) (T : Txt K mg) (h_is_note : Kn P w K mg base "is_note" ["d", "a"] 1 sp_is_note) (h_is_key : Kn P w K mg base "is_key" ["k", "mode"] 2 sp_is_key)
    (h_first_step : Kn P w K mg base "first_step" ["k", "mode"] 1 sp_first_step) (h_key_alteration : Kn P w K mg base "key_alteration" ["k", "step"] 1 sp_key_alteration) :
    FnOk P w K mg base CX0 3 f fd ["k", "mode", "d", "a"] sp_tell_degree := by
  have sc := sc_tell_degree
  refine F.ok sc (fun vs H Q E h => ?_) (fun cdv A outer s H vs Q E hr h => ⟨_, (pss_cons (ps_if (PW.pt (pw_or (pt_not (pt_val (pe_kn h_is_key (hr.mono (by decide)) (by rfl) (pa_cons (pv 0) (pa_cons (pv 1) pa_nil))))) (pw_or1 (pt_not (pt_val (pe_kn h_is_note (hr.mono (by decide)) (by rfl) (pa_cons (pv 2) (pa_cons (pv 3) pa_nil)))))))) (pss_one (ps_ret (pe_lst (pa_cons (pe_gi T.g_REFUSED (by rfl)) pa_nil)))) pss_nil)
      (pss_one (ps_ret (pe_lst (pa_cons (pe_op op_mod (pe_op op_sub (pv 2) (pe_kn h_first_step (hr.mono (by decide)) (by rfl) (pa_cons (pv 0) (pa_cons (pv 1) pa_nil)))) pe_int) (pa_cons (pe_op op_sub (pv 3) (pe_kn h_key_alteration (hr.mono (by decide)) (by rfl) (pa_cons (pv 0) (pa_cons (pv 2) pa_nil)))) pa_nil)))))), ?_⟩)
  · obtain ⟨d, a, e, b, rfl, _⟩ := h
    rfl
  · obtain ⟨k, m, d, a, rfl, q⟩ := h
    rw [show start N_tell_degree [V.int k, V.int m, V.int d, V.int a] = [some (.int k), some (.int m), some (.int d), some (.int a)] from rfl]
    walk_at "rd"
    unfold tellDegree at q
    revert q
    cases isK k m
    · exact fun q => ⟨sz3, fun p hp => fin_new q (Same.refl _) hp⟩
    cases isN d a
    · exact fun q => ⟨sz3, fun p hp => fin_new q (Same.refl _) hp⟩
    exact fun q => ⟨sz3, fun p hp => fin_new q (Same.refl _) hp⟩
abbrev s_tell_key : Stmt := top 39
abbrev N_tell_key : List Str := ["k", "mode", "first", "degree"]
theorem sc_tell_key : FnScope N_tell_key ["k", "mode"] (defScope s_tell_key) := ⟨rfl, rfl, rfl, by decide +kernel, rfl, by decide +kernel, by decide +kernel⟩
abbrev sp_tell_key : Sp := spL2 tellKey
theorem ok_tell_key {f : Addr} {fd : FuncData} (F : Fun K "tell_key" "tell_key" s_tell_key f fd) (T : Txt K mg) (h_is_key : Kn P w K mg base "is_key" ["k", "mode"] 2 sp_is_key)
    (h_first_step : Kn P w K mg base "first_step" ["k", "mode"] 1 sp_first_step) (h_key_alteration : Kn P w K mg base "key_alteration" ["k", "step"] 1 sp_key_alteration) :
    FnOk P w K mg base CX0 3 f fd ["k", "mode"] sp_tell_key := by
  have sc := sc_tell_key
  refine F.ok sc (fun vs H Q E h => ?_) (fun cdv A outer s H vs Q E hr h => ⟨_, (pss_cons (ps_if (pt_not (pt_val (pe_kn h_is_key (hr.mono (by decide)) (by rfl) (pa_cons (pv 0) (pa_cons (pv 1) pa_nil))))) (pss_one (ps_ret (pe_lst (pa_cons (pe_gi T.g_REFUSED (by rfl)) pa_nil)))) pss_nil)
      (pss_cons (ps_set (i := 2) sc.nd rfl (Or.inr rfl) (pe_kn h_first_step (hr.mono (by decide)) (by rfl) (pa_cons (pv 0) (pa_cons (pv 1) pa_nil))))
      (pss_one (ps_ret (pe_op op_cat (pe_lst (pa_cons (pv 2) pa_nil)) (pe_lc (own := [("degree", 3)]) (g := gName 3) (by rfl) sc.nd (pi_range1 (by rfl) T.b_range (pa_cons pe_int pa_nil)) (blkOk_by (own := [("degree", 3)]) (N := N_tell_key) (sc := defScope s_tell_key) (by decide +kernel)) (fun _ _ _ _ _ => pg_name (i := 3) sc.nd rfl (Or.inl rfl)) (fun _ _ _ _ _ => pts_nil) (fun _ _ _ _ _ => (pe_kn h_key_alteration (hr.mono (by decide)) (by rfl) (pa_cons (pv 0) (pa_cons (pe_op op_add (pv 2) (pv 3)) pa_nil)))))))))), ?_⟩)
  · obtain ⟨d, a, rfl, _⟩ := h
    rfl
  · obtain ⟨k, m, rfl, q⟩ := h
    rw [show start N_tell_key [V.int k, V.int m] = [some (.int k), some (.int m), none, none] from rfl]
    refine ⟨_, rfl, _, rfl, k, m, rfl, trivial, ?_⟩
    refine ⟨_, rfl, ?_⟩
    unfold tellKey at q
    revert q
    cases isK k m
    · exact fun q => ⟨sz3, fun p hp => fin_new q (Same.refl _) hp⟩
    intro q
    refine ⟨_, rfl, _, rfl, k, m, rfl, trivial, ?_⟩
    refine ⟨_, rfl, sz3 (by show 1 ≤ 1000; decide), fun p hp => ?_⟩
    refine tLc_rng1 ⟨7, rfl, by decide, by decide, ?_⟩
    refine lc_val wr (f := fun i => .int (altS k (firstS k m + i))) (by decide) (fun _ _ => trivial) ?_ ?_ ?_
    · intro i x H' Q' hi hx s1 q1
      subst hx
      exact ⟨_, rfl, _, rfl, _, rfl, _, _, rfl, rfl, _, _, rfl, trivial, q1 _ (Same.refl _)⟩
    · intro x
      rfl
    · intro D H' s1 hD e1
      refine ⟨p, D, [.int (firstS k m)], _, rfl, rfl, s1 _ _ upd_same, e1, sz3 (by rw [List.length_map, List.length_range]; show 1 + 7 ≤ 1000; decide), fun p2 hp2 => ?_⟩
      exact fin_new (ns := firstS k m :: (List.range 7).map fun (i : Nat) => altS k (firstS k m + i)) q ((same_new hp).trans s1) hp2
end
end Nf


set_option Elab.async false
set_option linter.all false
set_option maxRecDepth 100000
set_option maxHeartbeats 2000000
namespace Nf
open PySem PySem.Spec PyProof.Rows L2 Nl Nb
local macro_rules | `(tactic| walk_at "rd") => `(tactic| simp only [tRet, tSeq, tIfS, tAsg, gName, tNext, tAndV, tOrV, tNotV, tChain, tOp, tUn, rU, rI, rI0, rEq, rNe, tC, tVar, tTest, tB, tAnd, tOr, tNot, tIf, tCons, tNil, tCall, tCB, tTab, tLst, tTup, tInI, sp1s, sp2s, wipe, List.map_cons, List.map_nil,
  sp1, sp2, spL2, spL4, scal_int, deci, m7a, m7b, CMul, CDiv, V.int.injEq, V.bl.injEq, V.ref.injEq, exists_and_left, exists_eq_left', exists_eq_left, and_assoc, true_and, and_true, true_or, and_self, List.append_nil, List.cons.injEq,
  List.getElem?_cons_zero, List.getElem?_cons_succ, Option.some.injEq, List.set_cons_zero, List.set_cons_succ, List.length_cons, List.length_nil, Nat.reduceAdd, Int.cast_ofNat_Int, Int.reducePow, Int.reduceNeg, Int.reduceLT])
def upP (x : Int × Int) (s t : Int) : Int × Int := upS x.1 x.2 s t
theorem above_up (d a s t : Int) : aboveS d a s t = if isN (upS d a s t).1 (upS d a s t).2 then some (upS d a s t) else none := rfl
theorem allS_ups : ∀ l : List (Int × Int), allS (l.map fun y => if isN y.1 y.2 then some y else none) = if (l.all fun x => isN x.1 x.2) then some l else none
  | [] => rfl
  | y :: l => by
    rw [List.map_cons, List.all_cons]
    cases isN y.1 y.2
    · rfl
    · show (allS (l.map fun y => if isN y.1 y.2 then some y else none)).map (y :: ·) = _
      rw [allS_ups l]
      cases l.all fun x => isN x.1 x.2 <;> rfl
theorem move_is (s t : Int) (prs : List (Int × Int)) : (match moveS s t prs with
    | none => [-3]
    | some r => (prs.length : Int) :: unpairs r) = countS (prs.map fun x => upP x s t) := by
  have e : moveS s t prs = allS ((prs.map fun x => upP x s t).map fun y => if isN y.1 y.2 then some y else none) := by
    unfold moveS
    rw [List.map_map]
    rfl
  rw [e, allS_ups]
  unfold countS
  cases (prs.map fun x => upP x s t).all fun x => isN x.1 x.2
  · rfl
  · show (prs.length : Int) :: _ = ((prs.map fun x => upP x s t).length : Int) :: _
    rw [List.length_map]
/-- the notes of a chord, from the root on -/
def chordN (d a k : Int) : List (Int × Int) := (parts k).map fun x => upS d a x.1 x.2
def turnN (l : List (Int × Int)) (t : Int) : List (Int × Int) := l.drop t.toNat ++ (l.take t.toNat).map fun x => upP x 7 12
theorem up_up (d a s t : Int) : upP (upS d a s t) 7 12 = upS d a (s + 7) (t + 12) := by
  have e : d + s + 7 = d + (s + 7) := by omega
  refine Prod.ext e ?_
  show plainS (d + s) + (plainS d + a + t - (plainS (d + s) + 0)) + 12 - (plainS (d + s + 7) + 0) = plainS d + a + (t + 12) - (plainS (d + (s + 7)) + 0)
  rw [e]
  omega
theorem build_is (d a k t : Int) : (match buildS d a k t with
    | none => [-3]
    | some r => (r.length : Int) :: unpairs r) = countS (turnN (chordN d a k) t) := by
  have e1 : turnN (chordN d a k) t = (turned k t).map fun x => upS d a x.1 x.2 := by
    unfold turnN chordN turned
    rw [← List.map_drop, ← List.map_take, List.map_append, List.map_map, List.map_map]
    congr 1
    apply List.map_congr_left
    intro x _
    exact up_up d a x.1 x.2
  have e : buildS d a k t = allS ((turnN (chordN d a k) t).map fun y => if isN y.1 y.2 then some y else none) := by
    rw [e1, List.map_map]
    rfl
  rw [e, allS_ups]
  unfold countS
  cases (turnN (chordN d a k) t).all fun x => isN x.1 x.2 <;> rfl
theorem parts_is : ∀ i : Nat, i < 9 → ∀ r, chordsT[i]? = some r → parts (i : Int) = (List.range r.length).map fun (j : Nat) => (2 * (j : Int), r.getD j 0) := by
  intro i hi r hr
  match i, hi with
  | 0, _ => cases hr; rfl
  | 1, _ => cases hr; rfl
  | 2, _ => cases hr; rfl
  | 3, _ => cases hr; rfl
  | 4, _ => cases hr; rfl
  | 5, _ => cases hr; rfl
  | 6, _ => cases hr; rfl
  | 7, _ => cases hr; rfl
  | 8, _ => cases hr; rfl
theorem chords_len : ∀ i : Nat, i < 9 → ∀ r, chordsT[i]? = some r → r.length ≤ 4 := by
  intro i hi r hr
  match i, hi with
  | 0, _ => cases hr; decide
  | 1, _ => cases hr; decide
  | 2, _ => cases hr; decide
  | 3, _ => cases hr; decide
  | 4, _ => cases hr; decide
  | 5, _ => cases hr; decide
  | 6, _ => cases hr; decide
  | 7, _ => cases hr; decide
  | 8, _ => cases hr; decide
theorem cut_from {xs : List V} {t : Int} (h0 : 0 ≤ t) : cutV xs (some t) none = xs.drop t.toNat := by
  have e : t = ((t.toNat : Nat) : Int) := by omega
  unfold cutV
  rw [e, HT.sIx_nat]
  show (xs.drop (min t.toNat xs.length)).take (xs.length - min t.toNat xs.length) = xs.drop t.toNat
  by_cases h : t.toNat ≤ xs.length
  · rw [Nat.min_eq_left h]
    exact List.take_of_length_le (by rw [List.length_drop]; omega)
  · rw [Nat.min_eq_right (by omega), List.drop_of_length_le (Nat.le_refl _), List.drop_of_length_le (by omega), List.take_nil]
theorem cut_to {xs : List V} {t : Int} (h0 : 0 ≤ t) : cutV xs none (some t) = xs.take t.toNat := by
  have e : t = ((t.toNat : Nat) : Int) := by omega
  unfold cutV
  rw [e, HT.sIx_nat]
  show (xs.drop 0).take (min t.toNat xs.length - 0) = xs.take t.toNat
  rw [List.drop_zero, Nat.sub_zero]
  by_cases h : t.toNat ≤ xs.length
  · rw [Nat.min_eq_left h]
  · rw [Nat.min_eq_right (by omega), List.take_length, List.take_of_length_le (by omega)]
section
variable {P : Program} {w : World} {K : PySem.W.Frag} {mg : Str → Option Value} {base : Heap}
abbrev s_tell_move : Stmt := top 44
abbrev N_tell_move : List Str := ["s", "t", "notes", "note"]
theorem sc_tell_move : FnScope N_tell_move ["s", "t", "notes"] (defScope s_tell_move) := ⟨rfl, rfl, rfl, by decide +kernel, rfl, by decide +kernel, by decide +kernel⟩
def sp_tell_move : Sp := fun vs H Q _ => ∃ (s t : Int) (a : Addr) (B : Hp) (prs : List (Int × Int)), vs = [.int s, .int t, .ref a] ∧ LL B H a (prs.map nrow) ∧ prs.length ≤ 8 ∧ NewI H Q (tellMove s t prs)
theorem ok_tell_move {f : Addr} {fd : FuncData} (F : Fun K "tell_move" "tell_move" s_tell_move f fd) (T : Txt K mg) (h_is_distance : Kn P w K mg base "is_distance" ["s", "t"] 1 sp_is_distance) (h_are_notes : Kn P w K mg base "are_notes" ["notes"] 2 sp_are_notes)
    (h_above : Kn P w K mg base "above" ["note", "s", "t"] 3 sp_above) (h_counted : Kn P w K mg base "counted" ["notes"] 3 sp_counted) : FnOk P w K mg base CX0 4 f fd ["s", "t", "notes"] sp_tell_move := by
  have sc := sc_tell_move
  refine F.ok sc (fun vs H Q E h => ?_) (fun cdv A outer s H vs Q E hr h => ⟨_, (pss_cons (ps_if (PW.pt (pw_or (pt_not (pt_val (pe_kn h_is_distance (hr.mono (by decide)) (by rfl) (pa_cons (pv 0) (pa_cons (pv 1) pa_nil))))) (pw_or1 (pt_not (pt_val (pe_kn h_are_notes (hr.mono (by decide)) (by rfl) (pa_cons (pv 2) pa_nil))))))) (pss_one (ps_ret (pe_lst (pa_cons (pe_gi T.g_REFUSED (by rfl)) pa_nil)))) pss_nil)
      (pss_one (ps_ret (pe_kn h_counted (hr.mono (by decide)) (by rfl) (pa_cons (pe_lc (own := [("note", 3)]) (g := gName 3) (by rfl) sc.nd (pi_list (pv 2)) (blkOk_by (own := [("note", 3)]) (N := N_tell_move) (sc := defScope s_tell_move) (by decide +kernel)) (fun _ _ _ _ _ => pg_name (i := 3) sc.nd rfl (Or.inl rfl)) (fun _ _ _ _ _ => pts_nil) (fun _ _ _ _ _ => (pe_kn h_above (hr.mono (by decide)) (by rfl) (pa_cons (pv 3) (pa_cons (pv 0) (pa_cons (pv 1) pa_nil)))))) pa_nil))))), ?_⟩)
  · obtain ⟨s, t, a, B, prs, rfl, _⟩ := h
    rfl
  · obtain ⟨s, t, a, B, prs, rfl, hL, hn, q⟩ := h
    rw [show start N_tell_move [V.int s, V.int t, V.ref a] = [some (.int s), some (.int t), some (.ref a), none] from rfl]
    have q : NewI H Q (if (prs.all fun x => isN x.1 x.2) && (rS s && rT t) then countS (prs.map fun x => upP x s t) else [-1]) := by
      rw [← move_is]
      unfold tellMove at q
      rw [decide_eq_true hn, Bool.true_and] at q
      exact q
    refine ⟨_, rfl, _, rfl, s, t, rfl, trivial, ?_⟩
    refine ⟨_, rfl, ?_⟩
    revert q
    cases rS s && rT t
    · rw [Bool.and_false]
      exact fun q => ⟨sz3, fun p hp => fin_new q (Same.refl _) hp⟩
    rw [Bool.and_true]
    intro q
    refine ⟨_, rfl, a, B, prs, rfl, hL, by omega, fun H1 s1 => ?_⟩
    refine ⟨_, rfl, ?_⟩
    revert q
    cases prs.all fun x => isN x.1 x.2
    · exact fun q => ⟨sz3, fun p hp => fin_new q s1 hp⟩
    intro q
    obtain ⟨xs, ha, hr2⟩ := hL.same s1
    have hl := hr2.len
    rw [List.length_map] at hl
    simp only [Bool.not_true, Bool.false_eq_true, if_false, tRet, tCall, tCons, tNext, tSeq]
    refine tLc_list ⟨_, rfl, a, rfl, ⟨_, SqL.of ha⟩, ?_⟩
    refine lc_new (wl (xs := xs)) (f := fun i => nrow (upP (prs.getD i (0, 0)) s t)) (by omega) (fun H' s' => SqL.of (s' _ _ ha)) ?_ ?_ ?_
    · intro i x H' Q' hi hx s2 q1
      obtain ⟨r, p, er, rfl, _, ep⟩ := hr2.at hx
      have er := nrow_at er
      subst er
      exact ⟨_, rfl, _, rfl, _, rfl, p, _, _, s, t, rfl, s2 _ _ ep, q1⟩
    · intro x
      rfl
    · intro D H' s2 hD e1
      rw [hl, range_getD (fun x => nrow (upP x s t)) (0, 0)] at e1
      refine ⟨D, H1, prs.map fun x => upP x s t, rfl, ?_, by rw [List.length_map]; omega, q.of (s1.trans s2)⟩
      rw [List.map_map]
      exact e1
abbrev s_chord_notes : Stmt := top 31
abbrev N_chord_notes : List Str := ["root", "kind", "semitones", "at"]
theorem sc_chord_notes : FnScope N_chord_notes ["root", "kind"] (defScope s_chord_notes) := ⟨rfl, rfl, rfl, by decide +kernel, rfl, by decide +kernel, by decide +kernel⟩
def sp_chord_notes : Sp := fun vs H Q _ => ∃ (p : Addr) (d a k : Int), vs = [.ref p, .int k] ∧ H p = some (.lst ((nrow (d, a)).map V.int)) ∧ 0 ≤ k ∧ k ≤ 8 ∧ NewR H Q ((chordN d a k).map nrow)
theorem ok_chord_notes {f : Addr} {fd : FuncData} (F : Fun K "chord_notes" "chord_notes" s_chord_notes f fd) (T : Txt K mg) (h_above : Kn P w K mg base "above" ["note", "s", "t"] 3 sp_above) : FnOk P w K mg base CX0 4 f fd ["root", "kind"] sp_chord_notes := by
  have sc := sc_chord_notes
  obtain ⟨cA, hC, hT⟩ := T.g_CHORDS
  refine F.ok sc (fun vs H Q E h => ?_) (fun cdv A outer s H vs Q E hr h => ⟨_, (pss_cons (ps_set (i := 2) sc.nd rfl (Or.inr rfl) (pe_ix (ix_tupK (K := K) rfl) (pe_glob (v := V.ref cA) (by rfl) hC rfl) (pv 1) (fun _ _ => rfl)))
      (pss_one (ps_ret (pe_lc (own := [("at", 3)]) (g := gName 3) (by rfl) sc.nd (pi_range1 (by rfl) T.b_range (pa_cons (pe_callB call_len_seq (by rfl) T.b_len (by decide +kernel) (pa_cons (pv 2) pa_nil)) pa_nil)) (blkOk_by (own := [("at", 3)]) (N := N_chord_notes) (sc := defScope s_chord_notes) (by decide +kernel)) (fun _ _ _ _ _ => pg_name (i := 3) sc.nd rfl (Or.inl rfl)) (fun _ _ _ _ _ => pts_nil) (fun _ _ _ _ _ => (pe_kn h_above (hr.mono (by decide)) (by rfl) (pa_cons (pv 0) (pa_cons (pe_op op_mul pe_int (pv 3)) (pa_cons (pe_ix (ix_tupK (K := K) rfl) (pv 2) (pv 3) (fun _ _ => rfl)) pa_nil))))))))), ?_⟩)
  · obtain ⟨p, d, a, k, rfl, _⟩ := h
    rfl
  · obtain ⟨p, d, a, k, rfl, hp, h0, h8, q⟩ := h
    rw [show start N_chord_notes [V.ref p, V.int k] = [some (.ref p), some (.int k), none, none] from rfl]
    obtain ⟨r, hr9⟩ : ∃ r, chordsT[k.toNat]? = some r := ⟨_, List.getElem?_eq_getElem (by show k.toNat < 9; omega)⟩
    obtain ⟨ys, c, hy, e, hc⟩ := tt_ix hT h0 hr9
    have hlen := chords_len k.toNat (by omega) r hr9
    refine ⟨_, rfl, cA, ys, k, _, rfl, rfl, hy _, e, ?_⟩
    simp only [tAsg, gName, tRet, List.set_cons_succ, List.set_cons_zero]
    refine tLc_rng1 ⟨_, rfl, c, _, rfl, .inr (hc _), _, rfl, by omega, by rw [List.length_map]; omega, ?_⟩
    rw [List.length_map, Int.toNat_natCast]
    refine lc_new wr (f := fun i => nrow (upS d a (2 * (i : Int)) (r.getD i 0))) (by omega) (fun _ _ => trivial) ?_ ?_ ?_
    · intro i x H' Q' hi hx s1 q1
      subst hx
      refine ⟨_, rfl, _, rfl, _, _, rfl, rfl, .inl ⟨by decide, by decide⟩, _, rfl, _, rfl, c, _, _, _, rfl, rfl, hc _, atI_mp V.int (atI_nat (v := r.getD i 0) ?_), ?_⟩
      · rw [List.getD_eq_getElem?_getD, List.getElem?_eq_getElem hi]
        rfl
      · exact ⟨p, d, a, _, _, rfl, s1 _ _ hp, q1⟩
    · intro x
      rfl
    · intro D H' s1 hD e1
      refine q _ D s1 hD ?_
      unfold chordN
      have ek : k = ((k.toNat : Nat) : Int) := by omega
      rw [ek, parts_is k.toNat (by omega) r hr9, List.map_map, List.map_map]
      exact e1
abbrev s_turned : Stmt := top 32
abbrev N_turned : List Str := ["notes", "turn", "note"]
theorem sc_turned : FnScope N_turned ["notes", "turn"] (defScope s_turned) := ⟨rfl, rfl, rfl, by decide +kernel, rfl, by decide +kernel, by decide +kernel⟩
def sp_turned : Sp := fun vs H Q _ => ∃ (a : Addr) (t : Int) (B : Hp) (prs : List (Int × Int)), vs = [.ref a, .int t] ∧ LL B H a (prs.map nrow) ∧ prs.length ≤ 100 ∧ 0 ≤ t ∧ ∀ (H' : Hp) (p : Addr), Same H H' → LL Emp H' p ((turnN prs t).map nrow) → Q (.ref p) H'
theorem ok_turned {f : Addr} {fd : FuncData} (F : Fun K "turned" "turned" s_turned f fd) (T : Txt K mg) (h_above : Kn P w K mg base "above" ["note", "s", "t"] 3 sp_above) : FnOk P w K mg base CX0 4 f fd ["notes", "turn"] sp_turned := by
  have sc := sc_turned
  refine F.ok sc (fun vs H Q E h => ?_) (fun cdv A outer s H vs Q E hr h => ⟨_, (pss_one (ps_ret (pe_op op_cat (pe_slice (sl_listK (K := K) rfl) (pv 0) (po_some (pv 1)) po_none) (pe_lc (own := [("note", 2)]) (g := gName 2) (by rfl) sc.nd (pi_list (pe_slice (sl_listK (K := K) rfl) (pv 0) po_none (po_some (pv 1)))) (blkOk_by (own := [("note", 2)]) (N := N_turned) (sc := defScope s_turned) (by decide +kernel)) (fun _ _ _ _ _ => pg_name (i := 2) sc.nd rfl (Or.inl rfl)) (fun _ _ _ _ _ => pts_nil) (fun _ _ _ _ _ => (pe_kn h_above (hr.mono (by decide)) (by rfl) (pa_cons (pv 2) (pa_cons pe_int (pa_cons pe_int pa_nil))))))))), ?_⟩)
  · obtain ⟨a, t, B, prs, rfl, _⟩ := h
    rfl
  · obtain ⟨a, t, B, prs, rfl, ⟨xs, ha, hr2⟩, hn, h0, q⟩ := h
    rw [show start N_turned [V.ref a, V.int t] = [some (.ref a), some (.int t), none] from rfl]
    have hl := hr2.len
    rw [List.length_map] at hl
    refine ⟨_, rfl, _, rfl, _, rfl, a, _, rfl, SqL.of ha, fun p1 n1 => ?_⟩
    rw [cut_from h0]
    refine tLc_list ⟨_, rfl, _, rfl, _, rfl, a, _, rfl, SqL.of (same_new n1 _ _ ha), fun p2 n2 => ?_⟩
    rw [cut_to h0]
    refine ⟨p2, rfl, ⟨_, SqL.of upd_same⟩, ?_⟩
    have s2 : Same H (upd (upd H p1 (.lst (xs.drop t.toNat))) p2 (.lst (xs.take t.toNat))) := (same_new n1).trans (same_new n2)
    have hr3 := (hr2.same s2).take t.toNat
    rw [← List.map_take] at hr3
    have hl3 : (xs.take t.toNat).length = (prs.take t.toNat).length := by
      have := hr3.len
      rw [List.length_map] at this
      exact this
    refine lc_new (wl (xs := xs.take t.toNat)) (f := fun i => nrow (upP ((prs.take t.toNat).getD i (0, 0)) 7 12)) (by rw [List.length_take]; omega) (fun H' s' => SqL.of (s' _ _ upd_same)) ?_ ?_ ?_
    · intro i x H' Q' hi hx s3 q1
      obtain ⟨r, p, er, rfl, _, ep⟩ := hr3.at hx
      have er := nrow_at er
      subst er
      exact ⟨_, rfl, p, _, _, 7, 12, rfl, s3 _ _ ep, q1⟩
    · intro x
      rfl
    · intro D H' s3 hD e1
      rw [hl3, range_getD (fun x => nrow (upP x 7 12)) (0, 0)] at e1
      obtain ⟨zs, hz, rz⟩ := e1
      refine ⟨p1, D, _, zs, rfl, rfl, s3 _ _ (same_new n2 _ _ upd_same), hz, sz3 ?_, fun p4 n4 => ?_⟩
      · rw [rz.len, List.length_map, List.length_drop, List.length_take]
        omega
      · refine q _ p4 ((s2.trans s3).trans (same_new n4)) ⟨_, upd_same, ?_⟩
        unfold turnN
        rw [List.map_append, List.map_drop, List.map_map]
        refine RA.append ?_ ?_
        · exact (((hr2.same (s2.trans s3)).drop t.toNat).weak (same_emp _)).same (same_new n4)
        · exact (rz.weak (same_emp _)).same (same_new n4)
abbrev s_tell_build : Stmt := top 43
abbrev N_tell_build : List Str := ["d", "a", "kind", "turn"]
theorem sc_tell_build : FnScope N_tell_build ["d", "a", "kind", "turn"] (defScope s_tell_build) := ⟨rfl, rfl, rfl, by decide +kernel, rfl, by decide +kernel, by decide +kernel⟩
abbrev sp_tell_build : Sp := spL4 tellBuild
theorem ok_tell_build {f : Addr} {fd : FuncData} (F : Fun K "tell_build" "tell_build" s_tell_build f fd) (T : Txt K mg) (h_is_note : Kn P w K mg base "is_note" ["d", "a"] 1 sp_is_note) (h_is_turned_kind : Kn P w K mg base "is_turned_kind" ["kind", "turn"] 1 sp_is_turned_kind)
    (h_chord_notes : Kn P w K mg base "chord_notes" ["root", "kind"] 4 sp_chord_notes) (h_turned : Kn P w K mg base "turned" ["notes", "turn"] 4 sp_turned) (h_counted : Kn P w K mg base "counted" ["notes"] 3 sp_counted) : FnOk P w K mg base CX0 5 f fd ["d", "a", "kind", "turn"] sp_tell_build := by
  have sc := sc_tell_build
  refine F.ok sc (fun vs H Q E h => ?_) (fun cdv A outer s H vs Q E hr h => ⟨_, (pss_cons (ps_if (PW.pt (pw_or (pt_not (pt_val (pe_kn h_is_note (hr.mono (by decide)) (by rfl) (pa_cons (pv 0) (pa_cons (pv 1) pa_nil))))) (pw_or1 (pt_not (pt_val (pe_kn h_is_turned_kind (hr.mono (by decide)) (by rfl) (pa_cons (pv 2) (pa_cons (pv 3) pa_nil)))))))) (pss_one (ps_ret (pe_lst (pa_cons (pe_gi T.g_REFUSED (by rfl)) pa_nil)))) pss_nil)
      (pss_one (ps_ret (pe_kn h_counted (hr.mono (by decide)) (by rfl) (pa_cons (pe_kn h_turned (hr.mono (by decide)) (by rfl) (pa_cons (pe_kn h_chord_notes (hr.mono (by decide)) (by rfl) (pa_cons (pe_lst (pa_cons (pv 0) (pa_cons (pv 1) pa_nil))) (pa_cons (pv 2) pa_nil))) (pa_cons (pv 3) pa_nil))) pa_nil))))), ?_⟩)
  · obtain ⟨d, a, k, t, rfl, _⟩ := h
    rfl
  · obtain ⟨d, a, k, t, rfl, q⟩ := h
    rw [show start N_tell_build [V.int d, V.int a, V.int k, V.int t] = [some (.int d), some (.int a), some (.int k), some (.int t)] from rfl]
    have q : NewI H Q (if isN d a && isB k t then countS (turnN (chordN d a k) t) else [-1]) := by
      rw [← build_is]
      exact q
    walk_at "rd"
    revert q
    cases isN d a
    · exact fun q => ⟨sz3, fun p hp => fin_new q (Same.refl _) hp⟩
    cases hB : isB k t
    · exact fun q => ⟨sz3, fun p hp => fin_new q (Same.refl _) hp⟩
    intro q
    have hk : 0 ≤ k ∧ k ≤ 8 ∧ 0 ≤ t ∧ t ≤ ((kindS k).length : Int) := by
      unfold isB at hB
      simp only [Bool.and_eq_true, decide_eq_true_eq] at hB
      exact ⟨hB.1.1, hB.1.2, hB.2.1, hB.2.2⟩
    have hpl : (chordN d a k).length ≤ 4 := by
      obtain ⟨r, hr9⟩ : ∃ r, chordsT[k.toNat]? = some r := ⟨_, List.getElem?_eq_getElem (by show k.toNat < 9; omega)⟩
      have hlen := chords_len k.toNat (by omega) r hr9
      have ek : k = ((k.toNat : Nat) : Int) := by omega
      unfold chordN
      rw [ek, parts_is k.toNat (by omega) r hr9, List.length_map, List.length_map, List.length_range]
      exact hlen
    refine ⟨sz3, fun p hp => ?_⟩
    refine ⟨p, d, a, k, rfl, upd_same, hk.1, hk.2.1, fun H1 p1 s1 n1 L1 => ?_⟩
    refine ⟨p1, t, _, chordN d a k, rfl, L1, by omega, hk.2.2.1, fun H2 p2 s2 L2 => ?_⟩
    refine ⟨p2, _, turnN (chordN d a k) t, rfl, L2, ?_, q.of (((same_new hp).trans s1).trans s2)⟩
    unfold turnN
    rw [List.length_append, List.length_map, List.length_drop, List.length_take]
    omega
end
end Nf


set_option Elab.async false
set_option linter.all false
set_option maxRecDepth 100000
set_option maxHeartbeats 2000000
namespace Nf
open PySem PySem.Spec PyProof.Rows L2 Nl Nb
local macro_rules | `(tactic| walk_at "rd") => `(tactic| simp only [tRet, tSeq, tIfS, tAsg, gName, tNext, tAndV, tOrV, tNotV, tChain, tOp, tUn, rU, rI, rI0, rEq, rNe, tC, tVar, tTest, tB, tAnd, tOr, tNot, tIf, tCons, tNil, tCall, tCB, tTab, tLst, tTup, tInI, sp1s, sp2s, wipe, List.map_cons, List.map_nil,
  sp1, sp2, spL2, spL4, scal_int, deci, m7a, m7b, CMul, CDiv, V.int.injEq, V.bl.injEq, V.ref.injEq, exists_and_left, exists_eq_left', exists_eq_left, and_assoc, true_and, and_true, true_or, and_self, List.append_nil, List.cons.injEq,
  List.getElem?_cons_zero, List.getElem?_cons_succ, Option.some.injEq, List.set_cons_zero, List.set_cons_succ, List.length_cons, List.length_nil, Nat.reduceAdd, Int.cast_ofNat_Int, Int.reducePow, Int.reduceNeg, Int.reduceLT])
/-! ### names -/
def nm (x : Int × Int) : Int × Int := (x.1 % 7, x.2)
theorem nms_snoc (l : List (Int × Int)) (x : Int × Int) : nmsS (l ++ [x]) = if (nmsS l).contains (nm x) then nmsS l else nmsS l ++ [nm x] := by
  unfold nmsS Cp01.distinct
  rw [List.map_append, List.foldl_append]
  rfl
theorem fold_nd : ∀ (l acc : List (Int × Int)), (acc ++ l).Nodup → l.foldl (fun m x => if m.contains x then m else m ++ [x]) acc = acc ++ l
  | [], acc, _ => by simp
  | x :: l, acc, h => by
    rw [List.foldl_cons]
    have hx : acc.contains x = false := by
      rw [Bool.eq_false_iff]
      intro c
      have c := List.contains_iff_mem.mp c
      exact (List.nodup_append.mp h).2.2 x c x List.mem_cons_self rfl
    rw [hx, if_neg Bool.false_ne_true]
    have e : acc ++ x :: l = (acc ++ [x]) ++ l := by simp
    rw [fold_nd l (acc ++ [x]) (e ▸ h), e]
theorem nms_nd {l : List (Int × Int)} (h : (l.map nm).Nodup) : nmsS l = l.map nm := by
  exact fold_nd (l.map nm) [] (by simpa using h)
theorem nrow_inj {x y : Int × Int} (h : nrow x = nrow y) : x = y := by
  unfold nrow at h
  injection h with h1 h2
  injection h2 with h2 _
  exact Prod.ext h1 h2
theorem nrow_has (y : Int × Int) : ∀ l : List (Int × Int), (l.map nrow).contains (nrow y) = l.contains y
  | [] => rfl
  | x :: l => by
    show ((nrow y == nrow x) || (l.map nrow).contains (nrow y)) = ((y == x) || l.contains y)
    rw [nrow_has y l]
    congr 1
    rw [Bool.eq_iff_iff]
    simp only [beq_iff_eq]
    exact ⟨nrow_inj, fun e => by rw [e]⟩
/-- the names of a chord on r -/
def chordM (r : Int × Int) (k : Int) : List (Int × Int) := (chordN r.1 r.2 k).map nm
theorem chordM_is {r : Int × Int} {k : Int} (h1 : 0 ≤ r.1) (h2 : r.1 ≤ 6) : chordM r k = r :: (kparts (kindS k)).map fun x => pn r x.1 x.2 := by
  unfold chordM chordN
  show (((0, 0) :: kparts (kindS k)).map _).map nm = _
  rw [List.map_cons, List.map_cons, List.map_map]
  have e0 : nm (upS r.1 r.2 (0, 0).1 (0, 0).2) = r := by
    refine Prod.ext ?_ ?_
    · show (r.1 + 0) % 7 = r.1
      omega
    · show plainS r.1 + r.2 + 0 - (plainS (r.1 + 0) + 0) = r.2
      rw [Int.add_zero r.1]
      omega
  rw [e0]
  congr 1
  apply List.map_congr_left
  intro x _
  refine Prod.ext rfl ?_
  show plainS r.1 + r.2 + x.2 - (plainS (r.1 + x.1) + 0) = plainS r.1 + r.2 + x.2 - plainS (r.1 + x.1)
  omega
theorem chordM_row {r : Int × Int} {k : Int} (h0 : 0 ≤ k) (h8 : k ≤ 8) : ∃ q : List Int, chordsT[k.toNat]? = some q ∧ q.length = (kindS k).length + 1 ∧ chordM r k = (List.range q.length).map fun (j : Nat) => nm (upS r.1 r.2 (2 * (j : Int)) (q.getD j 0)) := by
  obtain ⟨q, hq⟩ : ∃ q, chordsT[k.toNat]? = some q := ⟨_, List.getElem?_eq_getElem (by show k.toNat < 9; omega)⟩
  have ek : k = ((k.toNat : Nat) : Int) := by omega
  have ep : parts k = (List.range q.length).map fun (j : Nat) => (2 * (j : Int), q.getD j 0) := by
    conv => lhs; rw [ek]
    exact parts_is k.toNat (by omega) q hq
  refine ⟨q, hq, ?_, ?_⟩
  · have e := congrArg List.length ep
    rw [List.length_map, List.length_range] at e
    rw [← e]
    show ((0, 0) :: (kindS k).zipIdx.map _).length = _
    rw [List.length_cons, List.length_map, List.length_zipIdx]
  · unfold chordM chordN
    rw [ep, List.map_map, List.map_map]
    rfl
theorem chordM_fst {r : Int × Int} {k : Int} (h0 : 0 ≤ k) (h8 : k ≤ 8) {j : Nat} {y : Int × Int} (h : (chordM r k)[j]? = some y) : j < 4 ∧ j ≤ (kindS k).length ∧ y.1 = (r.1 + 2 * (j : Int)) % 7 := by
  obtain ⟨q, hq, hl, e⟩ := chordM_row (r := r) h0 h8
  have l4 := chords_len k.toNat (by omega) q hq
  rw [e, List.getElem?_map] at h
  by_cases hj : j < q.length
  · rw [List.getElem?_range hj] at h
    cases h
    exact ⟨by omega, by omega, rfl⟩
  · rw [List.getElem?_eq_none (by rw [List.length_range]; omega)] at h
    cases h
theorem chordM_at {r : Int × Int} {k : Int} (h0 : 0 ≤ k) (h8 : k ≤ 8) {i j : Nat} {y : Int × Int} (hi : (chordM r k)[i]? = some y) (hj : (chordM r k)[j]? = some y) : i = j := by
  have a := chordM_fst h0 h8 hi
  have b := chordM_fst h0 h8 hj
  omega
theorem chordM_nd {r : Int × Int} {k : Int} (h0 : 0 ≤ k) (h8 : k ≤ 8) : (chordM r k).Nodup := by
  refine List.pairwise_iff_getElem.mpr fun i j hi hj hij e => ?_
  have hj' : (chordM r k)[j]? = some (chordM r k)[j] := List.getElem?_eq_getElem hj
  have hi' : (chordM r k)[i]? = some (chordM r k)[i] := List.getElem?_eq_getElem hi
  rw [e] at hi'
  have := chordM_at h0 h8 hi' hj'
  omega
theorem turn_is {r : Int × Int} {k : Int} (h0 : 0 ≤ k) (h8 : k ≤ 8) (r1 : 0 ≤ r.1) (r2 : r.1 ≤ 6) {j : Nat} {y : Int × Int} (h : (chordM r k)[j]? = some y) : turnS y r = j := by
  have a := chordM_fst h0 h8 h
  have b : (y.1 - r.1) % 7 = 2 * (j : Int) := by omega
  unfold turnS
  rw [b]
  omega
theorem chordM_len {r : Int × Int} {k : Int} (h0 : 0 ≤ k) (h8 : k ≤ 8) : (chordM r k).length = (kindS k).length + 1 := by
  obtain ⟨q, hq, hl, e⟩ := chordM_row (r := r) h0 h8
  rw [e, List.length_map, List.length_range, hl]
/-- are these the names of that chord -/
def isC (s : List (Int × Int)) (r : Int × Int) (k : Int) : Bool := decide ((chordM r k).length = s.length) && (chordM r k).all fun x => s.contains x
theorem isC_is {s : List (Int × Int)} {r : Int × Int} {k : Int} (hs : Nms s) (hr : r ∈ s) (h0 : 0 ≤ k) (h8 : k ≤ 8) : isC s r k = Cp01.isChord r (Cp01.kinds.getD k.toNat []) s := by
  have hk : Cp01.kinds.getD k.toNat [] ∈ Cp01.kinds := (kind_cases k.toNat (by omega)).1
  rw [isChord_is hk hs hr]
  unfold isC
  rw [chordM_len h0 h8, chordM_is (hs r hr).1 (hs r hr).2, List.all_cons, List.contains_iff_mem.mpr hr, Bool.true_and, List.all_map]
  congr 1
  rw [Bool.eq_iff_iff]
  simp only [decide_eq_true_eq, beq_iff_eq]
  exact ⟨fun e => e.symm, fun e => e.symm⟩
theorem fits_is {s : List (Int × Int)} {r : Int × Int} {i : Nat} (hs : Nms s) (hr : r ∈ s) (hi : i < 9) : Fits s r i ↔ isC s r (i : Int) = true := by
  rw [isC_is hs hr (by omega) (by omega)]
  exact ⟨fun f => f.chord, fun h => ⟨hr, hi, h⟩⟩
section
variable {P : Program} {w : World} {K : PySem.W.Frag} {mg : Str → Option Value} {base : Heap}
abbrev s_different_names : Stmt := top 33
abbrev N_different_names : List Str := ["notes", "names", "note", "name"]
theorem sc_different_names : FnScope N_different_names ["notes"] (defScope s_different_names) := ⟨rfl, rfl, rfl, by decide +kernel, rfl, by decide +kernel, by decide +kernel⟩
def sp_different_names : Sp := fun vs H Q _ => ∃ (a : Addr) (B : Hp) (prs : List (Int × Int)), vs = [.ref a] ∧ LL B H a (prs.map nrow) ∧ prs.length < 1000 ∧ NewR H Q ((nmsS prs).map nrow)
theorem ok_different_names {f : Addr} {fd : FuncData} (F : Fun K "different_names" "different_names" s_different_names f fd) : FnOk P w K mg base CX0 1 f fd ["notes"] sp_different_names := by
  have sc := sc_different_names
  refine F.ok sc (fun vs H Q E h => ?_) (fun cdv A outer s H vs Q E hr h => ⟨_, (pss_cons (ps_set (i := 1) sc.nd rfl (Or.inl rfl) (pe_lst pa_nil))
      (pss_cons (ps_for PassesOwn.never rfl (pi_list (pv 0)) (pg_name (i := 2) sc.nd rfl (Or.inl rfl)) (pss_cons (ps_set (i := 3) sc.nd rfl (Or.inl rfl) (pe_lst (pa_cons (pe_op op_mod (pe_ix (ix_listK (K := K) rfl) (pv 2) pe_int (fun _ _ => rfl)) pe_int) (pa_cons (pe_ix (ix_listK (K := K) rfl) (pv 2) pe_int (fun _ _ => rfl)) pa_nil))))
      (pss_one (ps_if (pt_cmpR (op_notInD (u65 hr)) (pv 3) (pv 1) (by rfl)) (pss_one (ps_expr (pe_bm PySem.F.plainAttrs_list PySem.F.slot_list_append PySem.F.type_list_append mt_append (pv 1) (pa_cons (pv 3) pa_nil)))) pss_nil))))
      (pss_one (ps_ret (pv 1))))), ?_⟩)
  · obtain ⟨a, B, prs, rfl, _⟩ := h
    rfl
  · obtain ⟨a, B, prs, rfl, ⟨xs, ha, hr2⟩, hn, q⟩ := h
    rw [show start N_different_names [V.ref a] = [some (.ref a), none, none, none] from rfl]
    have hl := hr2.len
    rw [List.length_map] at hl
    refine ⟨sz3, fun t ht => ?_⟩
    have ha1 : (upd H t (.lst [])) a = some (.lst xs) := same_new ht _ _ ha
    refine ⟨_, rfl, a, rfl, ⟨xs, SqL.of ha1⟩, ?_⟩
    refine for_list (xs := xs) (fun i σ H' => Same H H' ∧ (∃ v2 v3, σ = [some (.ref a), some (.ref t), v2, v3]) ∧ ∃ ys, H' t = some (.lst ys) ∧ RA (upd H t (.lst [])) H' ys ((nmsS (prs.take i)).map nrow))
      ⟨same_new ht, ⟨_, _, rfl⟩, _, upd_same, .nil⟩ (fun i σ H' _ p => SqL.of (p.1 _ _ ha)) ?_ ?_
    · rintro i x σ H' hx ⟨s2, ⟨v2, v3, rfl⟩, ys, e2, r2⟩
      obtain ⟨r, p, er, rfl, _, ep⟩ := hr2.at hx
      have hi : i < prs.length := by
        obtain ⟨h1, _⟩ := List.getElem?_eq_some_iff.mp hx
        omega
      have er := nrow_at er
      subst er
      have ep2 := s2 _ _ ep
      have et : prs.take (i + 1) = prs.take i ++ [prs.getD i (0, 0)] := by
        rw [List.take_succ, List.getD_eq_getElem?_getD, List.getElem?_eq_getElem hi]
        rfl
      have hns := nms_snoc (prs.take i) (prs.getD i (0, 0))
      rw [← et] at hns
      generalize prs.getD i (0, 0) = y at *
      refine ⟨_, rfl, p, _, 0, _, rfl, rfl, SqL.of ep2, rfl, _, _, rfl, rfl, (show (0 : Int) < 7 by decide), _, rfl, p, _, 1, _, rfl, rfl, SqL.of ep2, rfl, sz3 (by show 2 ≤ 1000; decide), fun p3 n3 => ?_⟩
      have np : p3 ≠ t := fun e => by rw [e, e2] at n3; cases n3
      have e3 : (upd H' p3 (.lst ((nrow (nm y)).map V.int))) p3 = some (.lst ((nrow (nm y)).map V.int)) := upd_same
      have s3 : Same H' (upd H' p3 (.lst ((nrow (nm y)).map V.int))) := same_new n3
      have r3 := r2.same s3
      refine ⟨_, rfl, _, rfl, rowD (nrow (nm y)), ((nmsS (prs.take i)).map nrow).map rowD, row_dp e3, .lst (SqL.of (s3 _ _ e2)) r3.dp, row_shaped _, rows_shaped _, _, rfl, ?_⟩
      rw [any_row, nrow_has]
      revert hns
      cases hc : (nmsS (prs.take i)).contains (nm y)
      · rw [if_neg Bool.false_ne_true]
        intro hns
        have nB : (upd H t (.lst [])) p3 = none := by
          rw [upd_ne np]
          exact s2.free n3
        refine ⟨_, rfl, .inl ⟨rfl, _, SqL.of (s3 _ _ e2)⟩, _, rfl, t, ys, _, rfl, rfl, s3 _ _ e2, ?_, ?_⟩
        · rw [r2.len, List.length_map]
          have l1 : ∀ l : List (Int × Int), (nmsS l).length ≤ l.length := by
            intro l
            unfold nmsS Cp01.distinct
            have : ∀ (l acc : List (Int × Int)), (l.foldl (fun m x => if m.contains x then m else m ++ [x]) acc).length ≤ acc.length + l.length := by
              intro l
              induction l with
              | nil => intro acc; simp
              | cons z l ih =>
                intro acc
                rw [List.foldl_cons, List.length_cons]
                have := ih (if acc.contains z then acc else acc ++ [z])
                have h2 : (if acc.contains z then acc else acc ++ [z]).length ≤ acc.length + 1 := by
                  split
                  · omega
                  · rw [List.length_append]; exact Nat.le_refl _
                omega
            have := this (l.map fun x => (x.1 % 7, x.2)) []
            simpa using this
          have := l1 (prs.take i)
          rw [List.length_take] at this
          exact small1000 (by omega)
        · refine ⟨same_up ht (s2.trans s3), ⟨_, _, rfl⟩, _, upd_same, ?_⟩
          rw [hns, List.map_append]
          exact (r3.upd (o' := .lst []) upd_same).append (.cons ⟨p3, rfl, nB, by rw [upd_ne np]; exact e3⟩ .nil)
      · rw [if_pos rfl]
        intro hns
        rw [hns]
        exact ⟨s2.trans s3, ⟨_, _, rfl⟩, ys, s3 _ _ e2, r3⟩
    · rintro σ H' ⟨s2, ⟨v2, v3, rfl⟩, ys, e2, r2⟩
      rw [hl, List.take_length] at r2
      exact ⟨_, rfl, q _ t s2 ht ⟨ys, e2, r2.weak (same_new ht)⟩⟩
abbrev s_are_same_names : Stmt := top 34
abbrev N_are_same_names : List Str := ["names", "others", "name"]
theorem sc_are_same_names : FnScope N_are_same_names ["names", "others"] (defScope s_are_same_names) := ⟨rfl, rfl, rfl, by decide +kernel, rfl, by decide +kernel, by decide +kernel⟩
def sp_are_same_names : Sp := fun vs H Q _ => ∃ (a b : Addr) (B B' : Hp) (l s : List (Int × Int)), vs = [.ref a, .ref b] ∧ LL B H a (l.map nrow) ∧ LL B' H b (s.map nrow) ∧ l.length < 1000 ∧
  ∀ H' : Hp, Same H H' → Q (.bl (decide (l.length = s.length) && l.all fun x => s.contains x)) H'
theorem ok_are_same_names {f : Addr} {fd : FuncData} (F : Fun K "are_same_names" "are_same_names" s_are_same_names f fd) (T : Txt K mg) : FnOk P w K mg base CX0 1 f fd ["names", "others"] sp_are_same_names := by
  have sc := sc_are_same_names
  refine F.ok sc (fun vs H Q E h => ?_) (fun cdv A outer s H vs Q E hr h => ⟨_, (pss_one (ps_ret (pe_and (pe_cmpR op_eq (pe_callB call_len_seq (by rfl) T.b_len (by decide +kernel) (pa_cons (pv 0) pa_nil)) (pe_callB call_len_seq (by rfl) T.b_len (by decide +kernel) (pa_cons (pv 1) pa_nil)) (nomark _)) (pe_one (pe_callB (cr_all rfl) (by rfl) T.b_all (by decide +kernel) (pa_cons (pe_lc (own := [("name", 2)]) (g := gName 2) (by rfl) sc.nd (pi_list (pv 0)) (blkOk_by (own := [("name", 2)]) (N := N_are_same_names) (sc := defScope s_are_same_names) (by decide +kernel)) (fun _ _ _ _ _ => pg_name (i := 2) sc.nd rfl (Or.inl rfl)) (fun _ _ _ _ _ => pts_nil) (fun _ _ _ _ _ => (pe_cmpR (op_inDK (K := K) rfl (u65 hr)) (pv 2) (pv 1) (by rfl)))) pa_nil)))))), ?_⟩)
  · obtain ⟨a, b, B, B', l, s, rfl, _⟩ := h
    rfl
  · obtain ⟨a, b, B, B', l, z, rfl, ⟨xs, ha, hr2⟩, ⟨ys, hb, hr3⟩, hn, q⟩ := h
    rw [show start N_are_same_names [V.ref a, V.ref b] = [some (.ref a), some (.ref b), none] from rfl]
    have hl := hr2.len
    rw [List.length_map] at hl
    have hl3 := hr3.len
    rw [List.length_map] at hl3
    refine ⟨_, rfl, a, _, rfl, .inl (SqL.of ha), _, rfl, b, _, rfl, .inl (SqL.of hb), ?_⟩
    walk_at "rd"
    have ed : decide ((xs.length : Int) = (ys.length : Int)) = decide (l.length = z.length) := decide_eq_decide.mpr (by omega)
    rw [ed]
    revert q
    cases decide (l.length = z.length)
    · exact fun q => q _ (Same.refl _)
    intro q
    simp only [if_true]
    refine tLc_list ⟨_, rfl, a, rfl, ⟨_, SqL.of ha⟩, ?_⟩
    refine lc_val (wl (xs := xs)) (f := fun i => .bl (z.contains (l.getD i (0, 0)))) (by omega) (fun H' s' => SqL.of (s' _ _ ha)) ?_ ?_ ?_
    · intro i x H' Q' hi hx s1 q1
      obtain ⟨r, p, er, rfl, _, ep⟩ := hr2.at hx
      have er := nrow_at er
      subst er
      refine ⟨_, rfl, _, rfl, rowD (nrow (l.getD i (0, 0))), (z.map nrow).map rowD, row_dp (s1 _ _ ep), .lst (SqL.of (s1 _ _ hb)) (hr3.same s1).dp, row_shaped _, rows_shaped _, ?_⟩
      rw [any_row, nrow_has]
      exact q1 _ (Same.refl _)
    · intro x
      rfl
    · intro D H' s1 hD e1
      refine ⟨D, l.map fun x => z.contains x, rfl, SqL.of (e1.trans ?_), ?_⟩
      · rw [hl, range_getD (fun x : Int × Int => V.bl (z.contains x)), List.map_map]
        rfl
      · rw [List.all_map]
        exact q _ s1
end
end Nf


set_option Elab.async false
set_option linter.all false
set_option maxRecDepth 100000
set_option maxHeartbeats 2000000
namespace Nf
open PySem PySem.Spec PyProof.Rows L2 Nl Nb
local macro_rules | `(tactic| walk_at "rd") => `(tactic| simp only [tRet, tSeq, tIfS, tAsg, gName, tNext, tAndV, tOrV, tNotV, tChain, tOp, tUn, rU, rI, rI0, rEq, rNe, tC, tVar, tTest, tB, tAnd, tOr, tNot, tIf, tCons, tNil, tCall, tCB, tTab, tLst, tTup, tInI, sp1s, sp2s, wipe, List.map_cons, List.map_nil,
  sp1, sp2, spL2, spL4, scal_int, deci, m7a, m7b, CMul, CDiv, V.int.injEq, V.bl.injEq, V.ref.injEq, exists_and_left, exists_eq_left', exists_eq_left, and_assoc, true_and, and_true, true_or, and_self, List.append_nil, List.cons.injEq,
  List.getElem?_cons_zero, List.getElem?_cons_succ, Option.some.injEq, List.set_cons_zero, List.set_cons_succ, List.length_cons, List.length_nil, Nat.reduceAdd, Int.cast_ofNat_Int, Int.reducePow, Int.reduceNeg, Int.reduceLT])
theorem dec_rn (p : Addr) : decide (V.ref p = V.non) = false := decide_eq_false (fun h => nomatch h)
/-- what chord answers on this root -/
def ansS (n r : Int × Int) (k : Int) : List Int := r.1 :: r.2 :: k :: ((turnS n r : Nat) : Int) :: Cp01.figures k.toNat (turnS n r)
theorem figs_is (K : PySem.W.Frag) : ∀ i : Nat, i < 9 → ∃ rows, (figT K).lookup ((((kindS (i : Int)).length + 1 : Nat)) : Int) = some (isTT K rows) ∧ ∀ j : Nat, j ≤ (kindS (i : Int)).length → rows[j]? = some (Cp01.figures i j) := by
  intro i hi
  have e3 : ∀ i : Nat, i < 4 → (kindS (i : Int)).length = 2 → ∃ rows, (figT K).lookup ((((kindS (i : Int)).length + 1 : Nat)) : Int) = some (isTT K rows) ∧ ∀ j : Nat, j ≤ (kindS (i : Int)).length → rows[j]? = some (Cp01.figures i j) := by
    intro i hi hl
    refine ⟨[[], [6], [6, 4]], by rw [hl]; rfl, fun j hj => ?_⟩
    rw [hl] at hj
    unfold Cp01.figures
    rw [if_pos hi]
    match j, hj with
    | 0, _ => rfl
    | 1, _ => rfl
    | 2, _ => rfl
  have e4 : ∀ i : Nat, ¬ i < 4 → (kindS (i : Int)).length = 3 → ∃ rows, (figT K).lookup ((((kindS (i : Int)).length + 1 : Nat)) : Int) = some (isTT K rows) ∧ ∀ j : Nat, j ≤ (kindS (i : Int)).length → rows[j]? = some (Cp01.figures i j) := by
    intro i hi hl
    refine ⟨[[7], [6, 5], [4, 3], [2]], by rw [hl]; rfl, fun j hj => ?_⟩
    rw [hl] at hj
    unfold Cp01.figures
    rw [if_neg hi]
    match j, hj with
    | 0, _ => rfl
    | 1, _ => rfl
    | 2, _ => rfl
    | 3, _ => rfl
  match i, hi with
  | 0, _ => exact e3 0 (by decide) rfl
  | 1, _ => exact e3 1 (by decide) rfl
  | 2, _ => exact e3 2 (by decide) rfl
  | 3, _ => exact e3 3 (by decide) rfl
  | 4, _ => exact e4 4 (by decide) rfl
  | 5, _ => exact e4 5 (by decide) rfl
  | 6, _ => exact e4 6 (by decide) rfl
  | 7, _ => exact e4 7 (by decide) rfl
  | 8, _ => exact e4 8 (by decide) rfl
theorem fold_head (x : Int × Int) : ∀ (l t : List (Int × Int)), ∃ t', l.foldl (fun m x => if m.contains x then m else m ++ [x]) (x :: t) = x :: t'
  | [], t => ⟨t, rfl⟩
  | y :: l, t => by
    rw [List.foldl_cons]
    by_cases h : (x :: t).contains y = true
    · rw [if_pos h]
      exact fold_head x l t
    · rw [if_neg h]
      exact fold_head x l (t ++ [y])
theorem nms_head (n : Int × Int) (l : List (Int × Int)) : ∃ t, nmsS (n :: l) = nm n :: t := by
  unfold nmsS Cp01.distinct
  rw [List.map_cons, List.foldl_cons]
  exact fold_head (nm n) _ []
theorem turn_nm (n r : Int × Int) : turnS (nm n) r = turnS n r := by
  unfold turnS nm
  have e : (n.1 % 7 - r.1) % 7 = (n.1 - r.1) % 7 := by omega
  show (((n.1 % 7 - r.1) % 7) / 2).toNat = _
  rw [e]
theorem chordN_len {d a k : Int} (h0 : 0 ≤ k) (h8 : k ≤ 8) : (chordN d a k).length ≤ 4 := by
  obtain ⟨r, hr9⟩ : ∃ r, chordsT[k.toNat]? = some r := ⟨_, List.getElem?_eq_getElem (by show k.toNat < 9; omega)⟩
  have hlen := chords_len k.toNat (by omega) r hr9
  have ek : k = ((k.toNat : Nat) : Int) := by omega
  unfold chordN
  rw [ek, parts_is k.toNat (by omega) r hr9, List.length_map, List.length_map, List.length_range]
  exact hlen
section
variable {P : Program} {w : World} {K : PySem.W.Frag} {mg : Str → Option Value} {base : Heap}
abbrev s_chord_answer : Stmt := top 35
abbrev N_chord_answer : List Str := ["names", "root", "kind", "chord", "turn"]
theorem sc_chord_answer : FnScope N_chord_answer ["names", "root", "kind"] (defScope s_chord_answer) := ⟨rfl, rfl, rfl, by decide +kernel, rfl, by decide +kernel, by decide +kernel⟩
def sp_chord_answer : Sp := fun vs H Q _ => ∃ (a p : Addr) (k : Int) (B : Hp) (n0 : Int × Int) (rest : List (Int × Int)) (r : Int × Int), vs = [.ref a, .ref p, .int k] ∧ LL B H a ((n0 :: rest).map nrow) ∧ H p = some (.lst ((nrow r).map V.int)) ∧ 0 ≤ k ∧ k ≤ 8 ∧ 0 ≤ r.1 ∧ r.1 ≤ 6 ∧
  (isC (n0 :: rest) r k = false → ∀ H' : Hp, Same H H' → Q .non H') ∧ (isC (n0 :: rest) r k = true → NewI H Q (ansS n0 r k))
theorem ok_chord_answer {f : Addr} {fd : FuncData} (F : Fun K "chord_answer" "chord_answer" s_chord_answer f fd) (T : Txt K mg) (h_different_names : Kn P w K mg base "different_names" ["notes"] 1 sp_different_names) (h_chord_notes : Kn P w K mg base "chord_notes" ["root", "kind"] 4 sp_chord_notes)
    (h_are_same_names : Kn P w K mg base "are_same_names" ["names", "others"] 1 sp_are_same_names) : FnOk P w K mg base CX0 5 f fd ["names", "root", "kind"] sp_chord_answer := by
  have sc := sc_chord_answer
  refine F.ok sc (fun vs H Q E h => ?_) (fun cdv A outer s H vs Q E hr h => ⟨_, (pss_cons (ps_set (i := 3) sc.nd rfl (Or.inl rfl) (pe_kn h_different_names (hr.mono (by decide)) (by rfl) (pa_cons (pe_kn h_chord_notes (hr.mono (by decide)) (by rfl) (pa_cons (pv 1) (pa_cons (pv 2) pa_nil))) pa_nil)))
      (pss_cons (ps_if (pt_not (pt_val (pe_kn h_are_same_names (hr.mono (by decide)) (by rfl) (pa_cons (pv 3) (pa_cons (pv 0) pa_nil))))) (pss_one (ps_ret pe_non)) pss_nil)
      (pss_cons (ps_set (i := 4) sc.nd rfl (Or.inl rfl) (pe_bm PySem.F.plainAttrs_list PySem.F.slot_list_index PySem.F.type_list_index (mt_indexD (u65 hr)) (pv 3) (pa_cons (pe_ix (ix_listK (K := K) rfl) (pv 0) pe_int (fun _ _ => rfl)) pa_nil)))
      (pss_one (ps_ret (pe_op op_cat (pe_op op_cat (pv 1) (pe_lst (pa_cons (pv 2) (pa_cons (pv 4) pa_nil)))) (pe_callTy call_list_of (by rfl) T.b_list (by decide +kernel) (pa_cons (pe_ix (ix_tupK (K := K) rfl) (pe_gdp T.g_FIGURES (by rfl) (pe_callB call_len_seq (by rfl) T.b_len (by decide +kernel) (pa_cons (pv 3) pa_nil)) (fun _ _ => rfl)) (pv 4) (fun _ _ => rfl)) pa_nil)))))))), ?_⟩)
  · obtain ⟨a, p, k, B, n0, rest, r, rfl, _⟩ := h
    rfl
  · obtain ⟨a, p, k, B, n0, rest, r, rfl, hL, hp, h0, h8, r1, r2, q1, q2⟩ := h
    rw [show start N_chord_answer [V.ref a, V.ref p, V.int k] = [some (.ref a), some (.ref p), some (.int k), none, none] from rfl]
    refine ⟨_, rfl, _, rfl, p, r.1, r.2, k, rfl, hp, h0, h8, fun H1 p1 s1 n1 L1 => ?_⟩
    refine ⟨p1, _, chordN r.1 r.2 k, rfl, L1, by have := chordN_len (d := r.1) (a := r.2) h0 h8; omega, fun H2 p2 s2 n2 L2 => ?_⟩
    have nd := chordM_nd (r := r) h0 h8
    have eC : nmsS (chordN r.1 r.2 k) = chordM r k := nms_nd nd
    rw [eC] at L2
    have cl := chordM_len (r := r) h0 h8
    have cl4 : (chordM r k).length ≤ 4 := by
      have := chordN_len (d := r.1) (a := r.2) h0 h8
      unfold chordM
      rw [List.length_map]
      exact this
    refine ⟨_, rfl, _, rfl, p2, a, _, _, chordM r k, n0 :: rest, rfl, L2, hL.same (s1.trans s2), by omega, fun H3 s3 => ?_⟩
    refine ⟨_, rfl, ?_⟩
    show if (!isC (n0 :: rest) r k) = true then _ else _
    have s03 : Same H H3 := (s1.trans s2).trans s3
    cases hc : isC (n0 :: rest) r k
    · exact q1 hc _ s03
    · have q2 := q2 hc
      unfold isC at hc
      rw [Bool.and_eq_true, decide_eq_true_eq, List.all_eq_true] at hc
      obtain ⟨hc1, hc2⟩ := hc
      have hmem : n0 ∈ chordM r k := sub_of nd (fun x hx => List.contains_iff_mem.mp (hc2 x hx)) (by omega) n0 List.mem_cons_self
      obtain ⟨j, hj⟩ := List.mem_iff_getElem?.mp hmem
      have hjt := turn_is h0 h8 r1 r2 hj
      have hjl := (chordM_fst h0 h8 hj).2.1
      obtain ⟨xs, ha, hx⟩ := hL.same s03
      obtain ⟨p0, ex0, _, ep0⟩ := hx.row (i := 0) (r := nrow n0) rfl
      obtain ⟨ys, hb, hy⟩ := L2.same s3
      have hyl := hy.len
      rw [List.length_map] at hyl
      refine ⟨_, rfl, .inl ⟨rfl, _, SqL.of hb⟩, _, rfl, a, xs, 0, _, rfl, rfl, SqL.of ha, atI_nat (j := 0) ex0, ?_⟩
      refine ⟨p2, _, rowD (nrow n0), ((chordM r k).map nrow).map rowD, j, rowD (nrow n0), rfl, rfl, .lst (SqL.of hb) hy.dp, row_dp ep0, rows_shaped _, row_shaped _, ?_, ?_, ?_, ?_⟩
      · rw [List.getElem?_map, List.getElem?_map, hj]
        rfl
      · rw [row_eqv]
        exact decide_eq_true rfl
      · intro m z' hm hz
        rw [List.getElem?_map, List.getElem?_map] at hz
        cases hcm : (chordM r k)[m]? with
        | none => rw [hcm] at hz; cases hz
        | some c =>
          rw [hcm] at hz
          cases hz
          rw [row_eqv]
          refine decide_eq_false fun e => ?_
          have e := nrow_inj e
          subst e
          have := chordM_at h0 h8 hcm hj
          omega
      · refine ⟨_, rfl, _, rfl, _, rfl, sz3 (by show 2 ≤ 1000; decide), fun p4 n4 => ?_⟩
        have s34 := same_new (o := .lst [.int k, .int (j : Nat)]) n4
        refine ⟨p, p4, _, [.int k, .int (j : Nat)], rfl, rfl, s34 _ _ (s03 _ _ hp), upd_same, sz3 (by show 4 ≤ 1000; decide), fun p5 n5 => ?_⟩
        obtain ⟨rows, hlk, hrw⟩ := figs_is K k.toNat (by omega)
        have ek : ((k.toNat : Nat) : Int) = k := by omega
        rw [ek] at hlk hrw
        have s35 := s34.trans (same_new (o := .lst ((nrow r).map V.int ++ [.int k, .int (j : Nat)])) n5)
        refine ⟨_, rfl, p2, ys, rfl, .inl (SqL.of (s35 _ _ hb)), _, isTT K rows, rfl, ?_, fun v hv => ?_⟩
        · rw [hyl, cl]
          exact hlk
        obtain ⟨fa, rfl, hT⟩ := hv
        obtain ⟨zs, c, hz, ez, hc⟩ := tt_ix hT (i := (j : Int)) (by omega) (r := Cp01.figures k.toNat j) (by rw [Int.toNat_natCast]; exact hrw j hjl)
        refine ⟨_, rfl, fa, zs, (j : Int), _, rfl, rfl, hz _, ez, ?_⟩
        have fl : (Cp01.figures k.toNat j).length ≤ 100 := by
          unfold Cp01.figures
          have h4 := (chordM_fst h0 h8 hj).1
          split
          · match j, h4 with
            | 0, _ => decide
            | 1, _ => decide
            | 2, _ => decide
            | 3, _ => decide
          · match j, h4 with
            | 0, _ => decide
            | 1, _ => decide
            | 2, _ => decide
            | 3, _ => decide
        refine ⟨c, _, rfl, .inr (hc _), fun p6 n6 => ?_⟩
        refine ⟨p5, p6, _, _, rfl, rfl, same_new n6 _ _ upd_same, upd_same, sz3 ?_, fun p7 n7 => ?_⟩
        · rw [List.length_map]
          show 4 + (Cp01.figures k.toNat j).length ≤ 1000
          omega
        · have e : ((nrow r).map V.int ++ [V.int k, V.int (j : Nat)]) ++ (Cp01.figures k.toNat j).map V.int = (ansS n0 r k).map V.int := by
            unfold ansS
            rw [hjt]
            rfl
          rw [e]
          exact fin_new q2 ((s03.trans s35).trans (same_new n6)) n7
abbrev s_tell_chord : Stmt := top 42
abbrev N_tell_chord : List Str := ["notes", "names", "root", "kind", "answer"]
theorem sc_tell_chord : FnScope N_tell_chord ["notes"] (defScope s_tell_chord) := ⟨rfl, rfl, rfl, by decide +kernel, rfl, by decide +kernel, by decide +kernel⟩
def sp_tell_chord : Sp := fun vs H Q _ => ∃ (a : Addr) (B : Hp) (prs : List (Int × Int)), vs = [.ref a] ∧ LL B H a (prs.map nrow) ∧ prs ≠ [] ∧ prs.length ≤ 8 ∧ NewI H Q (tellChord prs)
theorem ok_tell_chord {f : Addr} {fd : FuncData} (F : Fun K "tell_chord" "tell_chord" s_tell_chord f fd) (T : Txt K mg) (h_are_notes : Kn P w K mg base "are_notes" ["notes"] 2 sp_are_notes) (h_different_names : Kn P w K mg base "different_names" ["notes"] 1 sp_different_names)
    (h_chord_answer : Kn P w K mg base "chord_answer" ["names", "root", "kind"] 5 sp_chord_answer) : FnOk P w K mg base CX0 6 f fd ["notes"] sp_tell_chord := by
  have sc := sc_tell_chord
  obtain ⟨cA, hC, hT⟩ := T.g_CHORDS
  refine F.ok sc (fun vs H Q E h => ?_) (fun cdv A outer s H vs Q E hr h => ⟨_, (pss_cons (ps_if (pt_not (pt_val (pe_kn h_are_notes (hr.mono (by decide)) (by rfl) (pa_cons (pv 0) pa_nil)))) (pss_one (ps_ret (pe_lst (pa_cons (pe_gi T.g_REFUSED (by rfl)) pa_nil)))) pss_nil)
      (pss_cons (ps_set (i := 1) sc.nd rfl (Or.inl rfl) (pe_kn h_different_names (hr.mono (by decide)) (by rfl) (pa_cons (pv 0) pa_nil)))
      (pss_cons (ps_for PassesOwn.never rfl (pi_list (pv 1)) (pg_name (i := 2) sc.nd rfl (Or.inl rfl)) (pss_one (ps_for PassesOwn.never rfl (pi_range1 (by rfl) T.b_range (pa_cons (pe_callB call_len_seq (by rfl) T.b_len (by decide +kernel) (pa_cons (pe_glob (v := V.ref cA) (by rfl) hC rfl) pa_nil)) pa_nil)) (pg_name (i := 3) sc.nd rfl (Or.inl rfl)) (pss_cons (ps_set (i := 4) sc.nd rfl (Or.inl rfl) (pe_kn h_chord_answer (hr.mono (by decide)) (by rfl) (pa_cons (pv 1) (pa_cons (pv 2) (pa_cons (pv 3) pa_nil)))))
      (pss_one (ps_if (pt_cmpR op_notN (pv 4) pe_non (nomark _)) (pss_one (ps_ret (pv 4))) pss_nil))))))
      (pss_one (ps_ret (pe_lst (pa_cons (pe_gi T.g_NO_CHORD (by rfl)) pa_nil))))))), ?_⟩)
  · obtain ⟨a, B, prs, rfl, _⟩ := h
    rfl
  · obtain ⟨a, B, prs, rfl, hL, hne, h8, q⟩ := h
    rw [show start N_tell_chord [V.ref a] = [some (.ref a), none, none, none, none] from rfl]
    obtain ⟨n, l, rfl⟩ : ∃ n l, prs = n :: l := by
      cases prs with
      | nil => exact absurd rfl hne
      | cons n l => exact ⟨n, l, rfl⟩
    refine ⟨_, rfl, a, B, n :: l, rfl, hL, by omega, fun H1 s1 => ?_⟩
    refine ⟨_, rfl, ?_⟩
    unfold tellChord at q
    rw [decide_eq_true h8] at q
    revert q
    cases (n :: l).all fun x => isN x.1 x.2
    · exact fun q => ⟨sz3, fun p hp => fin_new q s1 hp⟩
    intro q
    have q : NewI H Q (match Cp01.chord ((n :: l).map toN) with
      | none => [-3]
      | some x => x.root.1 :: x.root.2 :: (x.kind : Int) :: (x.turn : Int) :: Cp01.figures x.kind x.turn) := q
    refine ⟨_, rfl, a, _, n :: l, rfl, hL.same s1, by omega, fun H2 p2 s2 n2 L2 => ?_⟩
    obtain ⟨rest, hh⟩ := nms_head n l
    have hNm : Nms (nmsS (n :: l)) := nms_ok (n :: l)
    have hL0 := L2
    obtain ⟨xs, hx, hrx⟩ := L2
    have s02 := s1.trans s2
    have hl := hrx.len
    rw [List.length_map] at hl
    refine ⟨_, rfl, p2, rfl, ⟨xs, SqL.of hx⟩, ?_⟩
    refine for_list (xs := xs) (fun i σ H' => Same H2 H' ∧ (∃ v2 v3 v4, σ = [some (.ref a), some (.ref p2), v2, v3, v4]) ∧ ∀ i' : Nat, i' < i → ∀ r, (nmsS (n :: l))[i']? = some r → ∀ k : Nat, k < 9 → isC (nmsS (n :: l)) r (k : Int) = false)
      ⟨Same.refl _, ⟨_, _, _, rfl⟩, fun i' h => absurd h (Nat.not_lt_zero _)⟩ (fun i σ H' _ p => SqL.of (p.1 _ _ hx)) ?_ ?_
    · rintro i x σ H' hxi ⟨s3, ⟨v2, v3, v4, rfl⟩, no⟩
      obtain ⟨rr, p, er, rfl, _, ep⟩ := hrx.at hxi
      obtain ⟨r, er1, er2⟩ : ∃ r, (nmsS (n :: l))[i]? = some r ∧ rr = nrow r := by
        rw [List.getElem?_map] at er
        cases e : (nmsS (n :: l))[i]? with
        | none => rw [e] at er; cases er
        | some r => rw [e] at er; cases er; exact ⟨r, rfl, rfl⟩
      subst er2
      have hmem : r ∈ nmsS (n :: l) := List.mem_of_getElem? er1
      have hrb := hNm r hmem
      obtain ⟨cs, hcs, hcp⟩ := id hT
      have hcl : cs.length = 9 := Paired.length hcp
      refine ⟨cA, cs, rfl, .inr (hcs _), _, rfl, by omega, by omega, ?_⟩
      rw [hcl]
      refine for_range (n := 9) (fun j σ H'' => Same H2 H'' ∧ (∃ v3 v4, σ = [some (.ref a), some (.ref p2), some (.ref p), v3, v4]) ∧ ∀ k : Nat, k < j → isC (nmsS (n :: l)) r (k : Int) = false)
        ⟨s3, ⟨_, _, rfl⟩, fun k h => absurd h (Nat.not_lt_zero _)⟩ ?_ ?_
      · rintro j σ H4 hj ⟨s4, ⟨v3, v4, rfl⟩, no2⟩
        rw [Int.zero_add]
        refine ⟨_, rfl, _, rfl, _, rfl, p2, p, (j : Int), H1, nm n, rest, r, rfl, ?_, s4 _ _ ep, by omega, by omega, hrb.1, hrb.2, fun hf H5 s5 => ?_, fun ht H5 p5 s5 n5 e5 => ?_⟩
        · rw [← hh]
          exact hL0.same s4
        · refine ⟨_, rfl, rfl, _, rfl, ?_⟩
          refine ⟨s4.trans s5, ⟨_, _, rfl⟩, fun k hk => ?_⟩
          by_cases e : k = j
          · rw [e, hh]
            exact hf
          · exact no2 k (by omega)
        · refine ⟨_, rfl, rfl, _, rfl, ?_⟩
          rw [dec_rn]
          refine ⟨_, rfl, ?_⟩
          rw [← hh] at ht
          have ff : Fits (nmsS (n :: l)) r j := (fits_is hNm hmem hj).mpr ht
          rw [chord_of ff] at q
          refine q _ p5 ((s02.trans s4).trans s5) ((s02.trans s4).free n5) ?_
          rw [e5]
          unfold ansS
          rw [turn_nm, Int.toNat_natCast]
      · rintro σ H4 ⟨s4, ⟨v3, v4, rfl⟩, no2⟩
        refine ⟨s4, ⟨_, _, _, rfl⟩, fun i' hi' r' hr' k hk => ?_⟩
        by_cases e : i' = i
        · rw [e, er1] at hr'
          cases hr'
          exact no2 k hk
        · exact no i' (by omega) r' hr' k hk
    · rintro σ H' ⟨s3, ⟨v2, v3, v4, rfl⟩, no⟩
      have hn : Cp01.chord ((n :: l).map toN) = none := chord_none fun r i ff => by
        obtain ⟨i', hi'⟩ := List.mem_iff_getElem?.mp ff.mem
        have hi2 : i' < xs.length := by
          obtain ⟨h1, _⟩ := List.getElem?_eq_some_iff.mp hi'
          omega
        have := no i' hi2 r hi' i ff.lt
        rw [(fits_is hNm ff.mem ff.lt).mp ff] at this
        cases this
      rw [hn] at q
      exact ⟨sz3, fun p hp => fin_new q (s02.trans s3) hp⟩
end
end Nf


set_option Elab.async false
set_option linter.all false
set_option maxRecDepth 100000
set_option maxHeartbeats 2000000
namespace Nf
open PySem PySem.Spec PyProof.Rows L2 Nl Nb
local macro_rules | `(tactic| walk_at "rd") => `(tactic| simp only [tRet, tSeq, tIfS, tAsg, gName, tNext, tAndV, tOrV, tNotV, tChain, tOp, tUn, rU, rI, rI0, rEq, rNe, tC, tVar, tTest, tB, tAnd, tOr, tNot, tIf, tCons, tNil, tCall, tCB, tTab, tLst, tTup, tInI, sp1s, sp2s, wipe, List.map_cons, List.map_nil,
  sp1, sp2, spL2, spL4, scal_int, deci, m7a, m7b, CMul, CDiv, V.int.injEq, V.bl.injEq, V.ref.injEq, exists_and_left, exists_eq_left', exists_eq_left, and_assoc, true_and, and_true, true_or, and_self, List.append_nil, List.cons.injEq,
  List.getElem?_cons_zero, List.getElem?_cons_succ, Option.some.injEq, List.set_cons_zero, List.set_cons_succ, List.length_cons, List.length_nil, Nat.reduceAdd, Int.cast_ofNat_Int, Int.reducePow, Int.reduceNeg, Int.reduceLT])
def ntr (n : Cp01.Note) : List Int := [n.d, n.a]
theorem wr_rows {p : Int} (h1 : 0 ≤ p) (h2 : p ≤ 118) : (wrS p).map nrow = (Cp01.writings p).map ntr := by
  rw [← wrS_is h1 h2, List.map_map]
  rfl
theorem wr_filt (p : Int) : (((List.range 70).map fun (i : Nat) => nrow ((i : Int), p - (plainS i + 0))).filter fun r => isN (r.getD 0 0) (r.getD 1 0)) = (wrS p).map nrow := by
  unfold wrS
  rw [List.filter_map, List.filter_map, List.map_map]
  rfl
theorem wrS_len (p : Int) : (wrS p).length < 1000 := by
  unfold wrS
  have := List.length_filter_le (fun x : Int × Int => isN x.1 x.2) ((List.range 70).map fun (i : Nat) => ((i : Int), p - (plainS i + 0)))
  rw [List.length_map, List.length_range] at this
  omega
theorem natAbs_if (z : Int) : ((z.natAbs : Nat) : Int) = if z < 0 then -z else z := by
  split <;> omega
theorem atI_last2 {α : Type} (xs : List α) (u v : α) : atI (xs ++ [u, v]) (-2) = some u := by
  have hl : (xs ++ [u, v]).length = xs.length + 2 := by simp
  have e : ixN (xs ++ [u, v]).length (-2) = some xs.length := by
    unfold ixN
    rw [hl, if_neg (show ¬ (0 : Int) ≤ -2 by decide), if_pos (show -((xs.length + 2 : Nat) : Int) ≤ -2 by omega)]
    exact congrArg some (by omega)
  unfold atI
  rw [e]
  show (xs ++ [u, v])[xs.length]? = some u
  simp
theorem atI_last1 {α : Type} (xs : List α) (u v : α) : atI (xs ++ [u, v]) (-1) = some v := by
  have e : xs ++ [u, v] = (xs ++ [u]) ++ [v] := by simp
  rw [e]
  exact atI_last _ _
theorem told_len (x : List Cp01.Note) : (Cp01.told x).length = 2 * x.length := by
  induction x with
  | nil => rfl
  | cons n x ih =>
    rw [told_cons, List.length_cons, List.length_cons, ih, List.length_cons]
    omega
theorem row_cut (k : Int) (x : List Cp01.Note) : cutV ((rowOf k x).map V.int) (some 1) none = (Cp01.told x).map V.int := by
  rw [cut_from (by decide)]
  rfl
theorem row_snoc (k : Int) (x : List Cp01.Note) (n : Cp01.Note) {c : Int} (h : c = ((Cp01.cost k (x ++ [n]) : Nat) : Int)) : ([V.int c] ++ (Cp01.told x).map V.int) ++ (ntr n).map V.int = (rowOf k (x ++ [n])).map V.int := by
  unfold rowOf
  rw [told_snoc, h, List.map_cons, List.map_append]
  rfl
section
variable {P : Program} {w : World} {K : PySem.W.Frag} {mg : Str → Option Value} {base : Heap}
abbrev s_notes_sounding : Stmt := top 27
abbrev N_notes_sounding : List Str := ["sound", "reached", "step", "note"]
theorem sc_notes_sounding : FnScope N_notes_sounding ["sound"] (defScope s_notes_sounding) := ⟨rfl, rfl, rfl, by decide +kernel, rfl, by decide +kernel, by decide +kernel⟩
def sp_notes_sounding : Sp := fun vs H Q _ => ∃ p : Int, vs = [.int p] ∧ NewR H Q ((wrS p).map nrow)
theorem ok_notes_sounding {f : Addr} {fd : FuncData} (F : Fun K "notes_sounding" "notes_sounding" s_notes_sounding f fd) (T : Txt K mg) (h_sound_of : Kn P w K mg base "sound_of" ["d", "a"] 2 sp_sound_of) (h_is_note : Kn P w K mg base "is_note" ["d", "a"] 1 sp_is_note) :
    FnOk P w K mg base CX0 3 f fd ["sound"] sp_notes_sounding := by
  have sc := sc_notes_sounding
  refine F.ok sc (fun vs H Q E h => ?_) (fun cdv A outer s H vs Q E hr h => ⟨_, (pss_cons (ps_setLc (i := 1) (own := [("step", 2)]) (g := gName 2) (by rfl) sc.nd rfl rfl (sw_true rfl rfl rfl (by decide +kernel)) (pi_range1 (by rfl) T.b_range (pa_cons pe_int pa_nil)) (blkOk_by (own := [("step", 2)]) (N := N_notes_sounding) (sc := defScope s_notes_sounding) (by decide +kernel)) (fun _ _ _ _ _ => pg_name (i := 2) sc.nd rfl (Or.inl rfl)) (fun _ _ _ _ _ => pts_nil) (fun _ _ _ _ _ => (pe_lst (pa_cons (pv 2) (pa_cons (pe_op op_sub (pv 0) (pe_kn h_sound_of (hr.mono (by decide)) (by rfl) (pa_cons (pv 2) (pa_cons pe_int pa_nil)))) pa_nil)))))
      (pss_one (ps_ret (pe_lc (own := [("note", 3)]) (g := gName 3) (by rfl) sc.nd (pi_list (pv 1)) (blkOk_by (own := [("note", 3)]) (N := N_notes_sounding) (sc := defScope s_notes_sounding) (by decide +kernel)) (fun _ _ _ _ _ => pg_name (i := 3) sc.nd rfl (Or.inl rfl)) (fun _ _ _ _ _ => pts_one (pt_val (pe_kn h_is_note (hr.mono (by decide)) (by rfl) (pa_cons (pe_ix (ix_listK (K := K) rfl) (pv 3) pe_int (fun _ _ => rfl)) (pa_cons (pe_ix (ix_listK (K := K) rfl) (pv 3) pe_int (fun _ _ => rfl)) pa_nil))))) (fun _ _ _ _ _ => (pv 3)))))), ?_⟩)
  · obtain ⟨p, rfl, _⟩ := h
    rfl
  · obtain ⟨p, rfl, q⟩ := h
    rw [show start N_notes_sounding [V.int p] = [some (.int p), none, none, none] from rfl]
    dsimp only [tSeq, tAsg]
    refine tLc_rng1 ⟨70, rfl, by decide, by decide, ?_⟩
    refine lc_new wr (f := fun i => nrow ((i : Int), p - (plainS i + 0))) (by decide) (fun _ _ => trivial) ?_ ?_ ?_
    · intro i x H' Q' hi hx s1 q1
      subst hx
      walk_at "rd"
      exact ⟨sz3, fun p hp => fin_new q1 (Same.refl _) hp⟩
    · intro x
      rfl
    · intro D H1 s1 hD e1
      obtain ⟨xs, ha, hr2⟩ := e1
      dsimp only [gName, tRet]
      refine tLc_list ⟨_, rfl, D, rfl, ⟨xs, SqL.of ha⟩, ?_⟩
      refine lc_filt ha hr2 (P := fun r => isN (r.getD 0 0) (r.getD 1 0)) (by rw [List.length_map, List.length_range]; decide) ?_ ?_ ?_ ?_
      · intro p' r H' Q' hm hp s2 q1
        obtain ⟨i, _, er⟩ := List.mem_map.mp hm
        subst er
        refine ⟨_, rfl, p', _, 0, _, rfl, rfl, SqL.of hp, rfl, _, rfl, p', _, 1, _, rfl, rfl, SqL.of hp, rfl, _, _, rfl, trivial, _, rfl, q1 _ (Same.refl _)⟩
      · intro x
        rfl
      · intro x
        rfl
      · intro D2 H2 s2 hD2 e2
        rw [show (Int.toNat 70) = 70 from rfl, wr_filt] at e2
        exact q _ D2 (s1.trans s2) (s1.free hD2) e2
abbrev s_continued : Stmt := top 28
abbrev N_continued : List Str := ["row", "note", "k", "twice", "cost"]
theorem sc_continued : FnScope N_continued ["row", "note", "k"] (defScope s_continued) := ⟨rfl, rfl, rfl, by decide +kernel, rfl, by decide +kernel, by decide +kernel⟩
def sp_continued : Sp := fun vs H Q _ => ∃ (p r : Addr) (k : Int) (x : List Cp01.Note) (n : Cp01.Note), vs = [.ref p, .ref r, .int k] ∧ H p = some (.lst ((rowOf k x).map V.int)) ∧ H r = some (.lst ((ntr n).map V.int)) ∧ x.length ≤ 100 ∧ NewI H Q (rowOf k (x ++ [n]))
theorem ok_continued {f : Addr} {fd : FuncData} (F : Fun K "continued" "continued" s_continued f fd) (T : Txt K mg) (h_place_of : Kn P w K mg base "place_of" ["d", "a"] 1 sp_place_of) :
    FnOk P w K mg base CX0 2 f fd ["row", "note", "k"] sp_continued := by
  have sc := sc_continued
  refine F.ok sc (fun vs H Q E h => ?_) (fun cdv A outer s H vs Q E hr h => ⟨_, (pss_cons (ps_set (i := 3) sc.nd rfl (Or.inl rfl) (pe_op op_mul pe_int (pe_kn h_place_of (hr.mono (by decide)) (by rfl) (pa_cons (pe_ix (ix_listK (K := K) rfl) (pv 1) pe_int (fun _ _ => rfl)) (pa_cons (pe_ix (ix_listK (K := K) rfl) (pv 1) pe_int (fun _ _ => rfl)) pa_nil)))))
      (pss_cons (ps_set (i := 4) sc.nd rfl (Or.inl rfl) (pe_op op_add (pe_ix (ix_listK (K := K) rfl) (pv 0) pe_int (fun _ _ => rfl)) (pe_callB call_abs (by rfl) T.b_abs (by decide +kernel) (pa_cons (pe_op op_sub (pv 3) (pe_op op_add (pe_op op_mul pe_int (pv 2)) pe_int)) pa_nil))))
      (pss_cons (ps_if (pt_cmpR op_gt (pe_callB call_len_seq (by rfl) T.b_len (by decide +kernel) (pa_cons (pv 0) pa_nil)) pe_int (nomark _)) (pss_one (ps_aug (i := 4) sc.nd rfl (Or.inl rfl) (pe_callB call_abs (by rfl) T.b_abs (by decide +kernel) (pa_cons (pe_op op_sub (pv 3) (pe_op op_mul pe_int (pe_kn h_place_of (hr.mono (by decide)) (by rfl) (pa_cons (pe_ix (ix_listK (K := K) rfl) (pv 0) (pe_un un_neg pe_int) (fun _ _ => rfl)) (pa_cons (pe_ix (ix_listK (K := K) rfl) (pv 0) (pe_un un_neg pe_int) (fun _ _ => rfl)) pa_nil))))) pa_nil)) ip_add)) pss_nil)
      (pss_one (ps_ret (pe_op op_cat (pe_op op_cat (pe_lst (pa_cons (pv 4) pa_nil)) (pe_slice (sl_listK (K := K) rfl) (pv 0) (po_some pe_int) po_none)) (pv 1))))))), ?_⟩)
  · obtain ⟨p, r, k, x, n, rfl, _⟩ := h
    rfl
  · obtain ⟨p, r, k, x, n, rfl, hp, hn, hx, q⟩ := h
    rw [show start N_continued [V.ref p, V.ref r, V.int k] = [some (.ref p), some (.ref r), some (.int k), none, none] from rfl]
    walk_at "rd"
    refine ixI hn rfl ?_
    walk_at "rd"
    refine ixI hn rfl ?_
    walk_at "rd"
    refine ixI (z := ((Cp01.cost k x : Nat) : Int)) hp (atI_nat (j := 0) rfl) ?_
    walk_at "rd"
    have tl := told_len x
    have e0 : ((rowOf k x).map V.int).length = 2 * x.length + 1 := by
      rw [List.length_map]
      show (Cp01.told x).length + 1 = _
      rw [tl]
    refine ⟨_, .inl (SqL.of hp), ?_⟩
    rw [e0]
    have hcost := cost_snoc k n x
    rcases List.eq_nil_or_concat x with hx0 | ⟨ys, m, hx0⟩
    · rw [show decide (1 < ((2 * x.length + 1 : Nat) : Int)) = false from decide_eq_false (by rw [hx0]; decide), if_neg Bool.false_ne_true]
      refine ⟨sz3 (by decide), fun p1 n1 => ?_⟩
      refine ⟨_, rfl, 1, rfl, p, _, rfl, SqL.of (same_new n1 _ _ hp), fun p2 n2 => ?_⟩
      rw [row_cut]
      refine ⟨p1, p2, _, _, rfl, rfl, same_new n2 _ _ upd_same, upd_same, sz3 (by rw [List.length_map, tl]; show 1 + _ ≤ 1000; omega), fun p3 n3 => ?_⟩
      refine ⟨p3, r, _, _, rfl, rfl, upd_same, same_new n3 _ _ (same_new n2 _ _ (same_new n1 _ _ hn)), sz3 (by rw [List.length_append, List.length_map, tl]; show 1 + _ + 2 ≤ 1000; omega), fun p4 n4 => ?_⟩
      rw [row_snoc k x n (by
        rw [hcost, ← natAbs_if]
        have : link x n = 0 := by rw [hx0]; rfl
        rw [this]
        rfl)]
      exact fin_new q (((same_new n1).trans (same_new n2)).trans (same_new n3)) n4
    · have hx1 : x = ys ++ [m] := by rw [hx0, List.concat_eq_append]
      have hl1 : x.length = ys.length + 1 := by rw [hx1, List.length_append]; rfl
      have er : rowOf k x = (((Cp01.cost k x : Nat) : Int) :: Cp01.told ys) ++ [m.d, m.a] := by
        unfold rowOf
        conv => lhs; rw [hx1, told_snoc]
        rw [hx1]
        rfl
      rw [show decide (1 < ((2 * x.length + 1 : Nat) : Int)) = true from decide_eq_true (by omega), if_pos rfl]
      have i2 : atI (rowOf k x) (-2) = some m.d := by rw [er]; exact atI_last2 _ _ _
      have i1 : atI (rowOf k x) (-1) = some m.a := by rw [er]; exact atI_last1 _ _ _
      refine ⟨_, rfl, _, rfl, _, rfl, _, rfl, p, _, _, _, rfl, rfl, SqL.of hp, atI_mp V.int i2, _, rfl, _, rfl, p, _, _, _, rfl, rfl, SqL.of hp, atI_mp V.int i1, ?_⟩
      refine ⟨_, _, rfl, trivial, ?_⟩
      refine ⟨_, _, rfl, rfl, .inl ⟨by decide, by decide⟩, ?_⟩
      refine ⟨_, _, rfl, rfl, ?_⟩
      refine ⟨_, rfl, ?_⟩
      refine ⟨_, _, rfl, rfl, ?_⟩
      refine ⟨_, rfl, sz3 (by show 1 ≤ 1000; decide), fun p1 n1 => ?_⟩
      refine ⟨_, rfl, 1, rfl, p, _, rfl, SqL.of (same_new n1 _ _ hp), fun p2 n2 => ?_⟩
      rw [row_cut]
      refine ⟨p1, p2, _, _, rfl, rfl, same_new n2 _ _ upd_same, upd_same, sz3 (by rw [List.length_map, tl]; show 1 + _ ≤ 1000; omega), fun p3 n3 => ?_⟩
      refine ⟨_, rfl, p3, r, _, _, rfl, rfl, upd_same, same_new n3 _ _ (same_new n2 _ _ (same_new n1 _ _ hn)), sz3 (by rw [List.length_append, List.length_map, tl]; show 1 + _ + 2 ≤ 1000; omega), fun p4 n4 => ?_⟩
      rw [row_snoc k x n (by
        rw [hcost, ← natAbs_if, ← natAbs_if]
        have : link x n = (2 * (n.fifths - m.fifths)).natAbs := by
          rw [hx1]
          unfold link
          rw [List.getLast?_concat]
        rw [this]
        have e1 : n.fifths = placeS n.d n.a := rfl
        have e2 : m.fifths = placeS m.d m.a := rfl
        rw [e1, e2]
        have e3 : 2 * (placeS n.d n.a - placeS m.d m.a) = 2 * placeS n.d n.a - 2 * placeS m.d m.a := by omega
        rw [e3]
        show ((((Cp01.cost k x : Nat) : Int) + (((2 * placeS n.d n.a - (2 * k + 4)).natAbs : Nat) : Int)) + (((2 * placeS n.d n.a - 2 * placeS m.d m.a).natAbs : Nat) : Int)) = _
        omega)]
      exact fin_new q (((same_new n1).trans (same_new n2)).trans (same_new n3)) n4
abbrev s_best_row : Stmt := top 29
abbrev N_best_row : List Str := ["rows"]
theorem sc_best_row : FnScope N_best_row ["rows"] (defScope s_best_row) := ⟨rfl, rfl, rfl, by decide +kernel, rfl, by decide +kernel, by decide +kernel⟩
def sp_best_row : Sp := fun vs H Q _ => ∃ (a : Addr) (B : Hp) (r : List Int) (rs : List (List Int)), vs = [.ref a] ∧ LL B H a (r :: rs) ∧ ∀ p, B p = none → H p = some (.lst ((PySem.W.minOf r rs).map V.int)) → Q (.ref p) H
theorem ok_best_row {f : Addr} {fd : FuncData} (F : Fun K "best_row" "best_row" s_best_row f fd) (T : Txt K mg) : FnOk P w K mg base CX0 1 f fd ["rows"] sp_best_row := by
  have sc := sc_best_row
  refine F.ok sc (fun vs H Q E h => ?_) (fun cdv A outer s H vs Q E hr h => ⟨_, (pss_one (ps_ret (pe_callB (cr_minR rfl hr.units) (by rfl) T.b_min (by decide +kernel) (pa_cons (pv 0) pa_nil)))), ?_⟩)
  · obtain ⟨a, B, r, rs, rfl, _⟩ := h
    rfl
  · obtain ⟨a, B, r, rs, rfl, hL, q⟩ := h
    rw [show start N_best_row [V.ref a] = [some (.ref a)] from rfl]
    exact ⟨_, rfl, a, B, r, rs, rfl, hL, q⟩
abbrev s_best_with : Stmt := top 30
abbrev N_best_with : List Str := ["rows", "note", "k", "row"]
theorem sc_best_with : FnScope N_best_with ["rows", "note", "k"] (defScope s_best_with) := ⟨rfl, rfl, rfl, by decide +kernel, rfl, by decide +kernel, by decide +kernel⟩
def sp_best_with : Sp := fun vs H Q _ => ∃ (a r : Addr) (k : Int) (B : Hp) (x0 : List Cp01.Note) (xs : List (List Cp01.Note)) (n : Cp01.Note), vs = [.ref a, .ref r, .int k] ∧ LL B H a ((x0 :: xs).map (rowOf k)) ∧ H r = some (.lst ((ntr n).map V.int)) ∧ (x0 :: xs).length < 1000 ∧ (∀ x ∈ x0 :: xs, x.length ≤ 100) ∧
  NewI H Q (PySem.W.minOf (rowOf k (x0 ++ [n])) (xs.map fun x => rowOf k (x ++ [n])))
theorem ok_best_with {f : Addr} {fd : FuncData} (F : Fun K "best_with" "best_with" s_best_with f fd) (T : Txt K mg) (h_best_row : Kn P w K mg base "best_row" ["rows"] 1 sp_best_row) (h_continued : Kn P w K mg base "continued" ["row", "note", "k"] 2 sp_continued) :
    FnOk P w K mg base CX0 3 f fd ["rows", "note", "k"] sp_best_with := by
  have sc := sc_best_with
  refine F.ok sc (fun vs H Q E h => ?_) (fun cdv A outer s H vs Q E hr h => ⟨_, (pss_one (ps_ret (pe_kn h_best_row (hr.mono (by decide)) (by rfl) (pa_cons (pe_lc (own := [("row", 3)]) (g := gName 3) (by rfl) sc.nd (pi_list (pv 0)) (blkOk_by (own := [("row", 3)]) (N := N_best_with) (sc := defScope s_best_with) (by decide +kernel)) (fun _ _ _ _ _ => pg_name (i := 3) sc.nd rfl (Or.inl rfl)) (fun _ _ _ _ _ => pts_nil) (fun _ _ _ _ _ => (pe_kn h_continued (hr.mono (by decide)) (by rfl) (pa_cons (pv 3) (pa_cons (pv 1) (pa_cons (pv 2) pa_nil)))))) pa_nil)))), ?_⟩)
  · obtain ⟨a, r, k, B, x0, xs, n, rfl, _⟩ := h
    rfl
  · obtain ⟨a, r, k, B, x0, xs, n, rfl, ⟨ys, ha, hr2⟩, hn, hlen, hx, q⟩ := h
    rw [show start N_best_with [V.ref a, V.ref r, V.int k] = [some (.ref a), some (.ref r), some (.int k), none] from rfl]
    have hl := hr2.len
    rw [List.length_map] at hl
    dsimp only [tRet, tCall, tCons]
    refine tLc_list ⟨_, rfl, a, rfl, ⟨_, SqL.of ha⟩, ?_⟩
    refine lc_new (wl (xs := ys)) (f := fun i => rowOf k ((x0 :: xs).getD i [] ++ [n])) (by omega) (fun H' s' => SqL.of (s' _ _ ha)) ?_ ?_ ?_
    · intro i x H' Q' hi hxi s1 q1
      obtain ⟨rr, p, er, rfl, _, ep⟩ := hr2.at hxi
      have hi' : i < (x0 :: xs).length := by omega
      have eg : (x0 :: xs).getD i [] = (x0 :: xs)[i] := by
        rw [List.getD_eq_getElem?_getD, List.getElem?_eq_getElem hi']
        rfl
      have er2 : rr = rowOf k ((x0 :: xs).getD i []) := by
        rw [List.getElem?_map, List.getElem?_eq_getElem hi'] at er
        rw [eg]
        exact (Option.some.inj er).symm
      subst er2
      exact ⟨_, rfl, _, rfl, _, rfl, p, r, k, _, n, rfl, s1 _ _ ep, s1 _ _ hn, hx _ (by rw [eg]; exact List.getElem_mem hi'), q1⟩
    · intro x
      rfl
    · intro D H1 s1 hD e1
      rw [hl, range_getD (fun x => rowOf k (x ++ [n])) []] at e1
      exact ⟨D, H, _, _, rfl, e1, fun p hp ep => q _ p s1 hp ep⟩
abbrev s_tell_spell : Stmt := top 41
abbrev N_tell_spell : List Str := ["k", "sounds", "sound", "rows", "note"]
theorem sc_tell_spell : FnScope N_tell_spell ["k", "sounds"] (defScope s_tell_spell) := ⟨rfl, rfl, rfl, by decide +kernel, rfl, by decide +kernel, by decide +kernel⟩
def sp_tell_spell : Sp := fun vs H Q _ => ∃ (k : Int) (a : Addr) (l : List Int), vs = [.int k, .ref a] ∧ H a = some (.lst (l.map V.int)) ∧ l.length ≤ 6 ∧ NewI H Q (tellSpell k l)
theorem ok_tell_spell {f : Addr} {fd : FuncData} (F : Fun K "tell_spell" "tell_spell" s_tell_spell f fd) (T : Txt K mg) (h_is_fifths : Kn P w K mg base "is_fifths" ["k"] 1 sp_is_fifths) (h_is_sound : Kn P w K mg base "is_sound" ["sound"] 1 sp_is_sound)
    (h_notes_sounding : Kn P w K mg base "notes_sounding" ["sound"] 3 sp_notes_sounding) (h_best_with : Kn P w K mg base "best_with" ["rows", "note", "k"] 3 sp_best_with) (h_best_row : Kn P w K mg base "best_row" ["rows"] 1 sp_best_row) :
    FnOk P w K mg base CX0 4 f fd ["k", "sounds"] sp_tell_spell := by
  have sc := sc_tell_spell
  refine F.ok sc (fun vs H Q E h => ?_) (fun cdv A outer s H vs Q E hr h => ⟨_, (pss_cons (ps_if (PW.pt (pw_or (pt_not (pt_val (pe_kn h_is_fifths (hr.mono (by decide)) (by rfl) (pa_cons (pv 0) pa_nil)))) (pw_or1 (pt_not (pt_truth (pe_callB (cr_all rfl) (by rfl) T.b_all (by decide +kernel) (pa_cons (pe_lc (own := [("sound", 2)]) (g := gName 2) (by rfl) sc.nd (pi_list (pv 1)) (blkOk_by (own := [("sound", 2)]) (N := N_tell_spell) (sc := defScope s_tell_spell) (by decide +kernel)) (fun _ _ _ _ _ => pg_name (i := 2) sc.nd rfl (Or.inl rfl)) (fun _ _ _ _ _ => pts_nil) (fun _ _ _ _ _ => (pe_kn h_is_sound (hr.mono (by decide)) (by rfl) (pa_cons (pv 2) pa_nil)))) pa_nil)) (by intro _; rfl)))))) (pss_one (ps_ret (pe_lst (pa_cons (pe_gi T.g_REFUSED (by rfl)) pa_nil)))) pss_nil)
      (pss_cons (ps_set (i := 3) sc.nd rfl (Or.inr rfl) (pe_lst (pa_cons (pe_lst (pa_cons pe_int pa_nil)) pa_nil)))
      (pss_cons (ps_for PassesOwn.never rfl (pi_list (pv 1)) (pg_name (i := 2) sc.nd rfl (Or.inl rfl)) (pss_one (ps_set (i := 3) sc.nd rfl (Or.inr rfl) (pe_lc (own := [("note", 4)]) (g := gName 4) (by rfl) sc.nd (pi_list (pe_kn h_notes_sounding (hr.mono (by decide)) (by rfl) (pa_cons (pv 2) pa_nil))) (blkOk_by (own := [("note", 4)]) (N := N_tell_spell) (sc := defScope s_tell_spell) (by decide +kernel)) (fun _ _ _ _ _ => pg_name (i := 4) sc.nd rfl (Or.inl rfl)) (fun _ _ _ _ _ => pts_nil) (fun _ _ _ _ _ => (pe_kn h_best_with (hr.mono (by decide)) (by rfl) (pa_cons (pv 3) (pa_cons (pv 4) (pa_cons (pv 0) pa_nil)))))))))
      (pss_one (ps_ret (pe_kn h_best_row (hr.mono (by decide)) (by rfl) (pa_cons (pv 3) pa_nil))))))), ?_⟩)
  · obtain ⟨k, a, l, rfl, _⟩ := h
    rfl
  · obtain ⟨k, a, l, rfl, ha, hl6, q⟩ := h
    rw [show start N_tell_spell [V.int k, V.ref a] = [some (.int k), some (.ref a), none, none, none] from rfl]
    have q : NewI H Q (if rK k && l.all rSnd then rowOf k (Cp01.spell k l) else [-1]) := by
      unfold tellSpell at q
      rw [decide_eq_true hl6, Bool.and_true] at q
      exact q
    refine ⟨_, rfl, k, rfl, trivial, ?_⟩
    refine ⟨_, rfl, ?_⟩
    revert q
    cases rK k
    · exact fun q => ⟨sz3, fun p hp => fin_new q (Same.refl _) hp⟩
    intro q
    rw [Bool.true_and] at q
    simp only [Bool.not_true, Bool.false_eq_true, if_false, tNot, tTest, tCB, tCons]
    have at_l : ∀ (i : Nat) (x : V), (l.map V.int)[i]? = some x → i < l.length ∧ l[i]? = some (l.getD i 0) ∧ x = .int (l.getD i 0) := by
      intro i x hx
      rw [List.getElem?_map] at hx
      rw [List.getD_eq_getElem?_getD]
      cases e : l[i]? with
      | none => rw [e] at hx; cases hx
      | some z => rw [e] at hx; cases hx; exact ⟨(List.getElem?_eq_some_iff.mp e).1, rfl, rfl⟩
    refine tLc_list ⟨_, rfl, a, rfl, ⟨_, SqL.of ha⟩, ?_⟩
    refine lc_val (wl (xs := l.map V.int)) (f := fun i => .bl (rSnd (l.getD i 0))) (by rw [List.length_map]; omega) (fun H' s' => SqL.of (s' _ _ ha)) ?_ ?_ ?_
    · intro i x H' Q' hi hx s1 q1
      obtain ⟨_, _, rfl⟩ := at_l i x hx
      exact ⟨_, rfl, _, rfl, trivial, q1 _ (Same.refl _)⟩
    · intro x
      rfl
    · intro D H1 s1 hD e1
      refine ⟨D, l.map rSnd, rfl, SqL.of (e1.trans ?_), _, rfl, ?_⟩
      · rw [List.length_map, range_getD (fun x : Int => V.bl (rSnd x)), List.map_map]
        rfl
      rw [List.all_map]
      show if (!(l.all rSnd)) = true then _ else _
      revert q
      cases hall : l.all rSnd
      · exact fun q => ⟨sz3, fun p hp => fin_new q s1 hp⟩
      intro q
      have hin : inS l := fun p hp => by
        have := List.all_eq_true.mp hall p hp
        unfold rSnd at this
        rw [Bool.and_eq_true, decide_eq_true_eq, decide_eq_true_eq] at this
        exact this
      have hinT : ∀ i, inS (l.take i) := fun i p hp => hin p (List.mem_of_mem_take hp)
      refine ⟨sz3 (by show 1 ≤ 1000; decide), fun p1 n1 => ⟨sz3 (by show 1 ≤ 1000; decide), fun p2 n2 => ?_⟩⟩
      have s2 : Same H1 (upd (upd H1 p1 (.lst [.int 0])) p2 (.lst [.ref p1])) := (same_new n1).trans (same_new n2)
      have ha2 := s2 _ _ (s1 _ _ ha)
      refine ⟨_, rfl, a, rfl, ⟨_, SqL.of ha2⟩, ?_⟩
      refine for_list (xs := l.map V.int) (fun i σ H' => Same H H' ∧ ∃ (pr : Addr) (v2 v4 : Option V) (rs : List (List Cp01.Note)), σ = [some (.int k), some (.ref a), v2, some (.ref pr), v4] ∧ LL H H' pr (rs.map (rowOf k)) ∧ Good k (l.take i) rs ∧ rs.length < 1000)
        ⟨s1.trans s2, p2, _, _, [[]], rfl, ⟨[.ref p1], upd_same, .cons ⟨p1, rfl, s1.free n1, same_new n2 _ _ upd_same⟩ .nil⟩, good_nil k, by decide⟩ (fun i σ H' _ p => SqL.of (p.1 _ _ ha)) ?_ ?_
      · rintro i x σ H' hx ⟨s3, pr, v2, v4, rs, rfl, L3, g3, l3⟩
        obtain ⟨hi, hli, rfl⟩ := at_l i x hx
        generalize hp : l.getD i 0 = p at *
        have hpl : p ∈ l := List.mem_of_getElem? hli
        have hpb := hin p hpl
        have et : l.take (i + 1) = l.take i ++ [p] := by
          rw [List.take_succ, hli]
          rfl
        obtain ⟨x0, xs, rfl⟩ : ∃ x0 xs, rs = x0 :: xs := by
          cases rs with
          | nil => exact absurd rfl g3.some
          | cons x0 xs => exact ⟨x0, xs, rfl⟩
        have hch : ∀ n : Cp01.Note, ∃ m, PySem.W.minOf (rowOf k (x0 ++ [n])) (xs.map fun x => rowOf k (x ++ [n])) = rowOf k (m ++ [n]) ∧ m ∈ x0 :: xs ∧ ∀ x ∈ x0 :: xs, x ++ [n] = m ++ [n] ∨ better k (m ++ [n]) (x ++ [n]) := fun n => by
          obtain ⟨y0, ys, m, e, h1, h2, h3⟩ := good_min (hinT i) g3 n
          cases e
          exact ⟨m, h1, h2, h3⟩
        obtain ⟨M, hM⟩ := Classical.axiomOfChoice hch
        dsimp only [tAsg, gName]
        refine tLc_list ⟨_, rfl, p, rfl, fun H4 p4 s4 n4 L4 => ?_⟩
        rw [wr_rows hpb.1 hpb.2] at L4
        obtain ⟨ws, hw, hrw⟩ := L4
        have hwl := hrw.len
        rw [List.length_map] at hwl
        have hwn : (Cp01.writings p).length < 1000 := by
          have := congrArg List.length (wrS_is hpb.1 hpb.2)
          rw [List.length_map] at this
          rw [this]
          exact wrS_len p
        refine ⟨p4, rfl, ⟨ws, SqL.of hw⟩, ?_⟩
        refine lc_new (wl (xs := ws)) (f := fun j => rowOf k (M ((Cp01.writings p).getD j ⟨0, 0⟩) ++ [(Cp01.writings p).getD j ⟨0, 0⟩])) (by omega) (fun H' s' => SqL.of (s' _ _ hw)) ?_ ?_ ?_
        · intro j x H5 Q' hj hxj s5 q1
          obtain ⟨rr, p5, er, rfl, _, ep⟩ := hrw.at hxj
          have er2 : rr = ntr ((Cp01.writings p).getD j ⟨0, 0⟩) := by
            rw [List.getElem?_map] at er
            rw [List.getD_eq_getElem?_getD]
            cases e : (Cp01.writings p)[j]? with
            | none => rw [e] at er; cases er
            | some n => rw [e] at er; cases er; rfl
          subst er2
          have em := (hM ((Cp01.writings p).getD j ⟨0, 0⟩)).1
          refine ⟨_, rfl, _, rfl, _, rfl, pr, p5, k, H, x0, xs, _, rfl, L3.same (s4.trans s5), s5 _ _ ep, l3, fun x hx => ?_, ?_⟩
          · have := congrArg List.length (ways_snd (hinT i) (g3.sub x hx))
            unfold snds at this
            rw [List.length_map, List.length_take] at this
            omega
          · rw [em]
            exact q1
        · intro x
          rfl
        · intro D2 H5 s5 hD2 e5
          rw [hwl, range_getD (fun n => rowOf k (M n ++ [n])) ⟨0, 0⟩] at e5
          refine ⟨(s3.trans s4).trans s5, D2, _, _, (Cp01.writings p).map (fun n => M n ++ [n]), rfl, ?_, ?_, by rw [List.length_map]; exact hwn⟩
          · rw [List.map_map]
            exact e5.weak (s3.trans s4)
          · rw [et]
            refine good_step (by rw [← et]; exact hinT _) g3 _ fun n _ => ⟨M n, (hM n).2.1, rfl, (hM n).2.2⟩
      · rintro σ H' ⟨s3, pr, v2, v4, rs, rfl, L3, g3, l3⟩
        rw [List.length_map, List.take_length] at g3
        obtain ⟨x0, xs, rfl, e⟩ := good_end hin g3
        refine ⟨_, rfl, pr, H, rowOf k x0, xs.map (rowOf k), rfl, L3, fun p hp ep => ?_⟩
        rw [e] at ep
        exact q _ p s3 hp ep
end
end Nf


set_option Elab.async false
set_option linter.all false
set_option maxRecDepth 100000
set_option maxHeartbeats 2000000
namespace Nf
open PySem PySem.Spec PyProof.Rows L2 Nl Nb
theorem if_yes {c : Bool} {S U : Prop} (hc : c = true) (h : S) : if c = true then S else U := by
  rw [if_pos hc]
  exact h
theorem if_no {c : Bool} {S U : Prop} (hc : c = false) (h : U) : if c = true then S else U := by
  subst hc
  exact h
local macro_rules | `(tactic| walk_at "no") => `(tactic| refine ⟨_, rfl, rfl, _, rfl, if_no rfl ?_⟩)
local macro_rules | `(tactic| walk_at "yes") => `(tactic| refine ⟨_, rfl, rfl, _, rfl, if_yes rfl ?_⟩)
theorem has_spell (n : Nat) : ([1, 2, 3, 4, 5, 6, 7] : List Int).contains ((n + 1 : Nat) : Int) = decide (n ≤ 6) := by
  rw [Bool.eq_iff_iff, List.contains_iff_mem]
  simp only [List.mem_cons, List.not_mem_nil, or_false, decide_eq_true_eq]
  omega
theorem has_chord (n : Nat) : ([2, 4, 6, 8, 10, 12, 14, 16] : List Int).contains ((2 * n : Nat) : Int) = (decide (0 < n) && decide (n ≤ 8)) := by
  rw [Bool.eq_iff_iff, List.contains_iff_mem]
  simp only [List.mem_cons, List.not_mem_nil, or_false, Bool.and_eq_true, decide_eq_true_eq]
  omega
theorem has_move (n : Nat) : ([2, 4, 6, 8, 10, 12, 14, 16, 18] : List Int).contains ((2 * n + 2 : Nat) : Int) = decide (n ≤ 8) := by
  rw [Bool.eq_iff_iff, List.contains_iff_mem]
  simp only [List.mem_cons, List.not_mem_nil, or_false, decide_eq_true_eq]
  omega
/-- is the count of numbers one of those that the call may have -/
theorem wid_at {K : PySem.W.Frag} {p n : Int} {ws : List Int} {H : Hp} {Q : VK} (hw : (widT K).lookup p = some (isTI K ws)) (q : Q (.bl (!ws.contains n)) H) : ∃ (i : Int) (R : V → Prop), (V.int p) = .int i ∧ (widT K).lookup i = some R ∧ ∀ v, R v → rIn K true (.int n) v H Q := by
  refine ⟨p, _, rfl, hw, fun v hv => ?_⟩
  obtain ⟨a, rfl, hs⟩ := hv
  refine ⟨a, _, rfl, .inr (hs _), rfl, flat_ints _, ?_⟩
  show Q (.bl (!inV (.int n) (ws.map V.int))) H
  rw [inV_ints]
  exact q
section
variable {P : Program} {w : World} {K : PySem.W.Frag} {mg : Str → Option Value} {base : Heap}
abbrev s_tell : Stmt := top 45
abbrev N_tell : List Str := ["number", "numbers"]
theorem sc_tell : FnScope N_tell ["number", "numbers"] (defScope s_tell) := ⟨rfl, rfl, rfl, by decide +kernel, rfl, by decide +kernel, by decide +kernel⟩
def sp_tell : Sp := fun vs H Q _ => ∃ (p : Int) (a : Addr) (ns : List Int), vs = [.int p, .ref a] ∧ H a = some (.lst (ns.map V.int)) ∧ Ok (p, ns) ∧ NewI H Q (due (p, ns))
theorem ok_tell {f : Addr} {fd : FuncData} (F : Fun K "tell" "tell" s_tell f fd) (T : Txt K mg) (h_tell_sound : Kn P w K mg base "tell_sound" ["d", "a"] 3 sp_tell_sound) (h_tell_interval : Kn P w K mg base "tell_interval" ["d", "a", "other_d", "other_a"] 4 sp_tell_interval)
    (h_tell_above : Kn P w K mg base "tell_above" ["d", "a", "s", "t"] 4 sp_tell_above) (h_tell_key : Kn P w K mg base "tell_key" ["k", "mode"] 3 sp_tell_key) (h_tell_degree : Kn P w K mg base "tell_degree" ["k", "mode", "d", "a"] 3 sp_tell_degree)
    (h_tell_spell : Kn P w K mg base "tell_spell" ["k", "sounds"] 4 sp_tell_spell) (h_tell_chord : Kn P w K mg base "tell_chord" ["notes"] 6 sp_tell_chord) (h_tell_build : Kn P w K mg base "tell_build" ["d", "a", "kind", "turn"] 5 sp_tell_build)
    (h_tell_move : Kn P w K mg base "tell_move" ["s", "t", "notes"] 4 sp_tell_move) (h_paired : Kn P w K mg base "paired" ["numbers"] 1 sp_paired) :
    FnOk P w K mg base CX0 7 f fd ["number", "numbers"] sp_tell := by
  have sc := sc_tell
  refine F.ok sc (fun vs H Q E h => ?_) (fun cdv A outer s H vs Q E hr h => ⟨_, (pss_cons (ps_if (pt_cmpR op_notIn_seq (pe_callB call_len_seq (by rfl) T.b_len (by decide +kernel) (pa_cons (pv 1) pa_nil)) (pe_gdp T.g_WIDTHS (by rfl) (pv 0) (fun _ _ => rfl)) (by rfl)) (pss_one (ps_ret (pe_lst (pa_cons (pe_gi T.g_REFUSED (by rfl)) pa_nil)))) pss_nil)
      (pss_cons (ps_if (pt_cmpR op_eq (pv 0) pe_int (nomark _)) (pss_one (ps_ret (pe_kn h_tell_sound (hr.mono (by decide)) (by rfl) (pa_cons (pe_ix (ix_listK (K := K) rfl) (pv 1) pe_int (fun _ _ => rfl)) (pa_cons (pe_ix (ix_listK (K := K) rfl) (pv 1) pe_int (fun _ _ => rfl)) pa_nil))))) pss_nil)
      (pss_cons (ps_if (pt_cmpR op_eq (pv 0) pe_int (nomark _)) (pss_one (ps_ret (pe_kn h_tell_interval (hr.mono (by decide)) (by rfl) (pa_cons (pe_ix (ix_listK (K := K) rfl) (pv 1) pe_int (fun _ _ => rfl)) (pa_cons (pe_ix (ix_listK (K := K) rfl) (pv 1) pe_int (fun _ _ => rfl)) (pa_cons (pe_ix (ix_listK (K := K) rfl) (pv 1) pe_int (fun _ _ => rfl)) (pa_cons (pe_ix (ix_listK (K := K) rfl) (pv 1) pe_int (fun _ _ => rfl)) pa_nil))))))) pss_nil)
      (pss_cons (ps_if (pt_cmpR op_eq (pv 0) pe_int (nomark _)) (pss_one (ps_ret (pe_kn h_tell_above (hr.mono (by decide)) (by rfl) (pa_cons (pe_ix (ix_listK (K := K) rfl) (pv 1) pe_int (fun _ _ => rfl)) (pa_cons (pe_ix (ix_listK (K := K) rfl) (pv 1) pe_int (fun _ _ => rfl)) (pa_cons (pe_ix (ix_listK (K := K) rfl) (pv 1) pe_int (fun _ _ => rfl)) (pa_cons (pe_ix (ix_listK (K := K) rfl) (pv 1) pe_int (fun _ _ => rfl)) pa_nil))))))) pss_nil)
      (pss_cons (ps_if (pt_cmpR op_eq (pv 0) pe_int (nomark _)) (pss_one (ps_ret (pe_kn h_tell_key (hr.mono (by decide)) (by rfl) (pa_cons (pe_ix (ix_listK (K := K) rfl) (pv 1) pe_int (fun _ _ => rfl)) (pa_cons (pe_ix (ix_listK (K := K) rfl) (pv 1) pe_int (fun _ _ => rfl)) pa_nil))))) pss_nil)
      (pss_cons (ps_if (pt_cmpR op_eq (pv 0) pe_int (nomark _)) (pss_one (ps_ret (pe_kn h_tell_degree (hr.mono (by decide)) (by rfl) (pa_cons (pe_ix (ix_listK (K := K) rfl) (pv 1) pe_int (fun _ _ => rfl)) (pa_cons (pe_ix (ix_listK (K := K) rfl) (pv 1) pe_int (fun _ _ => rfl)) (pa_cons (pe_ix (ix_listK (K := K) rfl) (pv 1) pe_int (fun _ _ => rfl)) (pa_cons (pe_ix (ix_listK (K := K) rfl) (pv 1) pe_int (fun _ _ => rfl)) pa_nil))))))) pss_nil)
      (pss_cons (ps_if (pt_cmpR op_eq (pv 0) pe_int (nomark _)) (pss_one (ps_ret (pe_kn h_tell_spell (hr.mono (by decide)) (by rfl) (pa_cons (pe_ix (ix_listK (K := K) rfl) (pv 1) pe_int (fun _ _ => rfl)) (pa_cons (pe_slice (sl_listK (K := K) rfl) (pv 1) (po_some pe_int) po_none) pa_nil))))) pss_nil)
      (pss_cons (ps_if (pt_cmpR op_eq (pv 0) pe_int (nomark _)) (pss_one (ps_ret (pe_kn h_tell_chord (hr.mono (by decide)) (by rfl) (pa_cons (pe_kn h_paired (hr.mono (by decide)) (by rfl) (pa_cons (pv 1) pa_nil)) pa_nil)))) pss_nil)
      (pss_cons (ps_if (pt_cmpR op_eq (pv 0) pe_int (nomark _)) (pss_one (ps_ret (pe_kn h_tell_build (hr.mono (by decide)) (by rfl) (pa_cons (pe_ix (ix_listK (K := K) rfl) (pv 1) pe_int (fun _ _ => rfl)) (pa_cons (pe_ix (ix_listK (K := K) rfl) (pv 1) pe_int (fun _ _ => rfl)) (pa_cons (pe_ix (ix_listK (K := K) rfl) (pv 1) pe_int (fun _ _ => rfl)) (pa_cons (pe_ix (ix_listK (K := K) rfl) (pv 1) pe_int (fun _ _ => rfl)) pa_nil))))))) pss_nil)
      (pss_one (ps_ret (pe_kn h_tell_move (hr.mono (by decide)) (by rfl) (pa_cons (pe_ix (ix_listK (K := K) rfl) (pv 1) pe_int (fun _ _ => rfl)) (pa_cons (pe_ix (ix_listK (K := K) rfl) (pv 1) pe_int (fun _ _ => rfl)) (pa_cons (pe_kn h_paired (hr.mono (by decide)) (by rfl) (pa_cons (pe_slice (sl_listK (K := K) rfl) (pv 1) (po_some pe_int) po_none) pa_nil)) pa_nil))))))))))))))), ?_⟩)
  · obtain ⟨p, a, ns, rfl, _⟩ := h
    rfl
  · obtain ⟨p, a, ns, rfl, ha, ok, q⟩ := h
    rw [show start N_tell [V.int p, V.ref a] = [some (.int p), some (.ref a)] from rfl]
    refine ⟨_, rfl, a, _, rfl, .inl (SqL.of ha), _, rfl, ?_⟩
    rw [List.length_map]
    rcases shapes ok.some with ⟨rfl, x, y, rfl⟩ | ⟨rfl, x, y, z, u, rfl⟩ | ⟨rfl, x, y, z, u, rfl⟩ | ⟨rfl, x, y, rfl⟩ | ⟨rfl, x, y, z, u, rfl⟩ | ⟨rfl, k, l, rfl⟩ | ⟨rfl, hs⟩ | ⟨rfl, x, y, z, u, rfl⟩ | ⟨rfl, s', t', r, rfl, hs⟩
    · rw [due_sound] at q
      refine wid_at rfl ⟨_, rfl, if_no rfl ?_⟩
      walk_at "yes"
      exact ⟨_, rfl, a, _, 0, _, rfl, rfl, SqL.of ha, rfl, _, rfl, a, _, 1, _, rfl, rfl, SqL.of ha, rfl, x, y, rfl, q⟩
    · rw [due_interval] at q
      refine wid_at rfl ⟨_, rfl, if_no rfl ?_⟩
      walk_at "no"
      walk_at "yes"
      exact ⟨_, rfl, a, _, 0, _, rfl, rfl, SqL.of ha, rfl, _, rfl, a, _, 1, _, rfl, rfl, SqL.of ha, rfl, _, rfl, a, _, 2, _, rfl, rfl, SqL.of ha, rfl, _, rfl, a, _, 3, _, rfl, rfl, SqL.of ha, rfl, x, y, z, u, rfl, q⟩
    · rw [due_above] at q
      refine wid_at rfl ⟨_, rfl, if_no rfl ?_⟩
      walk_at "no"
      walk_at "no"
      walk_at "yes"
      exact ⟨_, rfl, a, _, 0, _, rfl, rfl, SqL.of ha, rfl, _, rfl, a, _, 1, _, rfl, rfl, SqL.of ha, rfl, _, rfl, a, _, 2, _, rfl, rfl, SqL.of ha, rfl, _, rfl, a, _, 3, _, rfl, rfl, SqL.of ha, rfl, x, y, z, u, rfl, q⟩
    · rw [due_key] at q
      refine wid_at rfl ⟨_, rfl, if_no rfl ?_⟩
      walk_at "no"
      walk_at "no"
      walk_at "no"
      walk_at "yes"
      exact ⟨_, rfl, a, _, 0, _, rfl, rfl, SqL.of ha, rfl, _, rfl, a, _, 1, _, rfl, rfl, SqL.of ha, rfl, x, y, rfl, q⟩
    · rw [due_degree] at q
      refine wid_at rfl ⟨_, rfl, if_no rfl ?_⟩
      walk_at "no"
      walk_at "no"
      walk_at "no"
      walk_at "no"
      walk_at "yes"
      exact ⟨_, rfl, a, _, 0, _, rfl, rfl, SqL.of ha, rfl, _, rfl, a, _, 1, _, rfl, rfl, SqL.of ha, rfl, _, rfl, a, _, 2, _, rfl, rfl, SqL.of ha, rfl, _, rfl, a, _, 3, _, rfl, rfl, SqL.of ha, rfl, x, y, z, u, rfl, q⟩
    · rw [due_spell] at q
      refine wid_at rfl ⟨_, rfl, ?_⟩
      rw [List.length_cons, has_spell]
      by_cases h6 : l.length ≤ 6
      · refine if_no (by rw [decide_eq_true h6]; rfl) ?_
        walk_at "no"
        walk_at "no"
        walk_at "no"
        walk_at "no"
        walk_at "no"
        walk_at "yes"
        refine ⟨_, rfl, a, _, 0, _, rfl, rfl, SqL.of ha, atI_nat (j := 0) rfl, _, rfl, 1, rfl, a, _, rfl, SqL.of ha, fun p2 n2 => ?_⟩
        rw [cut_from (by decide)]
        exact ⟨k, p2, l, rfl, upd_same, h6, q.of (same_new n2)⟩
      · refine if_yes (by rw [decide_eq_false h6]; rfl) ?_
        have e : tellSpell k l = [-1] := by
          unfold tellSpell
          rw [decide_eq_false h6, Bool.and_false, Bool.and_false]
          rfl
        rw [e] at q
        exact ⟨sz3, fun p hp => fin_new q (Same.refl _) hp⟩
    · rw [due_chord hs] at q
      have en : ns = unpairs (pairs ns) := (notes_pairs (ns := ns) hs).1
      have hlen : ns.length = 2 * (pairs ns).length := by
        conv => lhs; rw [en]
        exact len_un _
      refine wid_at rfl ⟨_, rfl, ?_⟩
      rw [hlen, has_chord]
      by_cases h8 : 0 < (pairs ns).length ∧ (pairs ns).length ≤ 8
      · refine if_no (by rw [decide_eq_true h8.1, decide_eq_true h8.2]; rfl) ?_
        walk_at "no"
        walk_at "no"
        walk_at "no"
        walk_at "no"
        walk_at "no"
        walk_at "no"
        walk_at "yes"
        refine ⟨_, rfl, a, pairs ns, rfl, ?_, by omega, fun H1 p1 s1 n1 L1 => ?_⟩
        · rw [← en]
          exact ha
        · refine ⟨p1, _, pairs ns, rfl, L1, fun e => ?_, h8.2, q.of s1⟩
          rw [e] at h8
          exact absurd h8.1 (Nat.lt_irrefl _)
      · refine if_yes ?_ ?_
        · rw [Bool.not_eq_true', Bool.and_eq_false_iff, decide_eq_false_iff_not, decide_eq_false_iff_not]
          omega
        have e : tellChord (pairs ns) = [-1] := by
          unfold tellChord
          have : (!(pairs ns).isEmpty && decide ((pairs ns).length ≤ 8)) = false := by
            cases hc : pairs ns with
            | nil => rfl
            | cons c cs =>
              rw [hc] at h8
              show (true && decide ((c :: cs).length ≤ 8)) = false
              rw [Bool.true_and]
              refine decide_eq_false fun h => h8 ⟨?_, h⟩
              rw [List.length_cons]
              omega
          rw [this, Bool.and_false]
          rfl
        rw [e] at q
        exact ⟨sz3, fun p hp => fin_new q (Same.refl _) hp⟩
    · rw [due_build] at q
      refine wid_at rfl ⟨_, rfl, if_no rfl ?_⟩
      walk_at "no"
      walk_at "no"
      walk_at "no"
      walk_at "no"
      walk_at "no"
      walk_at "no"
      walk_at "no"
      walk_at "yes"
      exact ⟨_, rfl, a, _, 0, _, rfl, rfl, SqL.of ha, rfl, _, rfl, a, _, 1, _, rfl, rfl, SqL.of ha, rfl, _, rfl, a, _, 2, _, rfl, rfl, SqL.of ha, rfl, _, rfl, a, _, 3, _, rfl, rfl, SqL.of ha, rfl, x, y, z, u, rfl, q⟩
    · rw [due_move hs] at q
      obtain ⟨en, _⟩ := notes_pairs hs
      have hlen : r.length = 2 * (pairs r).length := by
        conv => lhs; rw [en]
        exact len_un _
      refine wid_at rfl ⟨_, rfl, ?_⟩
      rw [List.length_cons, List.length_cons, hlen, has_move]
      by_cases h8 : (pairs r).length ≤ 8
      · refine if_no (by rw [decide_eq_true h8]; rfl) ?_
        walk_at "no"
        walk_at "no"
        walk_at "no"
        walk_at "no"
        walk_at "no"
        walk_at "no"
        walk_at "no"
        walk_at "no"
        refine ⟨_, rfl, a, _, 0, _, rfl, rfl, SqL.of ha, atI_nat (j := 0) rfl, _, rfl, a, _, 1, _, rfl, rfl, SqL.of ha, atI_nat (j := 1) rfl, _, rfl, 2, rfl, a, _, rfl, SqL.of ha, fun p2 n2 => ?_⟩
        rw [cut_from (by decide)]
        refine ⟨p2, pairs r, rfl, ?_, by omega, fun H1 p1 s1 n1 L1 => ?_⟩
        · rw [← en]
          exact upd_same
        · exact ⟨s', t', p1, _, pairs r, rfl, L1, h8, q.of ((same_new n2).trans s1)⟩
      · refine if_yes (by rw [decide_eq_false h8]; rfl) ?_
        have e : tellMove s' t' (pairs r) = [-1] := by
          unfold tellMove
          rw [decide_eq_false h8, Bool.false_and, Bool.and_false]
          rfl
        rw [e] at q
        exact ⟨sz3, fun p hp => fin_new q (Same.refl _) hp⟩
end
end Nf


set_option Elab.async false
set_option linter.all false
set_option maxRecDepth 100000
set_option maxHeartbeats 2000000
namespace Nf
open PySem PySem.Spec PyProof.Rows L2 Nl Nb
/-! ### a call in the list -/
theorem at_map {A B : List Int} {x : Int} {z : Int} (h : z = (A.length : Int)) : atI ((A ++ x :: B).map V.int) z = some (.int x) := by
  subst h
  refine atI_nat ?_
  rw [List.map_append, List.getElem?_append_right (by rw [List.length_map]; exact Nat.le_refl _), List.length_map, Nat.sub_self]
  rfl
theorem flat_cons (c : Int × List Int) (cs : List (Int × List Int)) : flat (c :: cs) = flat1 c ++ flat cs := rfl
theorem flat_app (a b : List (Int × List Int)) : flat (a ++ b) = flat a ++ flat b := List.flatMap_append
theorem dues_app (a b : List (Int × List Int)) : dues (a ++ b) = dues a ++ dues b := List.flatMap_append
theorem dues_one (c : Int × List Int) : dues [c] = ((due c).length : Int) :: due c := by
  show (((due c).length : Int) :: due c) ++ [] = _
  rw [List.append_nil]
theorem len_dues {a b : List (Int × List Int)} (h : (dues (a ++ b)).length ≤ 10000000) : (dues a).length ≤ 10000000 := by
  rw [dues_app, List.length_append] at h
  omega
theorem big {n : Nat} (h : n ≤ 10000000) : n < sizeLine := Nat.lt_of_le_of_lt h (by rw [sizeLine_eq]; decide)
def mu (n : Nat) (σ : L2.St) : Nat := match σ with
  | [_, _, some (.int i), _, _] => n - i.toNat
  | _ => 0
section
variable {P : Program} {w : World} {K : PySem.W.Frag} {mg : Str → Option Value} {base : Heap}
abbrev s_answers : Stmt := top 46
abbrev N_answers : List Str := ["calls", "told", "at", "behind", "answer"]
theorem sc_answers : FnScope N_answers ["calls"] (defScope s_answers) := ⟨rfl, rfl, rfl, by decide +kernel, rfl, by decide +kernel, by decide +kernel⟩
def sp_answers (K : PySem.W.Frag) : Sp := fun vs H Q _ => ∃ (a : Addr) (cs : List (Int × List Int)), vs = [.ref a] ∧ SqL K H a ((flat cs).map V.int) ∧ (∀ c ∈ cs, Ok c) ∧ (dues cs).length ≤ 10000000 ∧
  ∀ (H' : Hp) (p : Addr), H' p = some (.lst ((dues cs).map V.int)) → Q (.ref p) H'
theorem ok_answers {f : Addr} {fd : FuncData} (F : Fun K "answers" "answers" s_answers f fd) (T : Txt K mg) (h_tell : Kn P w K mg base "tell" ["number", "numbers"] 7 sp_tell) :
    FnOk P w K mg base CX0 8 f fd ["calls"] (sp_answers K) := by
  have sc := sc_answers
  refine F.ok sc (fun vs H Q E h => ?_) (fun cdv A outer s H vs Q E hr h => ⟨_, (pss_cons (ps_set (i := 1) sc.nd rfl (Or.inl rfl) (pe_lst pa_nil))
      (pss_cons (ps_set (i := 2) sc.nd rfl (Or.inl rfl) pe_int)
      (pss_cons (ps_while PassesOwn.never (pt_cmpR op_lt (pv 2) (pe_callB call_len_seq (by rfl) T.b_len (by decide +kernel) (pa_cons (pv 0) pa_nil)) (nomark _)) (pss_cons (ps_set (i := 3) sc.nd rfl (Or.inl rfl) (pe_op op_add (pe_op op_add (pv 2) pe_int) (pe_ix (ix_listK (K := K) rfl) (pv 0) (pe_op op_add (pv 2) pe_int) (fun _ _ => rfl))))
      (pss_cons (ps_set (i := 4) sc.nd rfl (Or.inl rfl) (pe_kn h_tell (hr.mono (by decide)) (by rfl) (pa_cons (pe_ix (ix_listK (K := K) rfl) (pv 0) (pv 2) (fun _ _ => rfl)) (pa_cons (pe_slice (sl_listK (K := K) rfl) (pv 0) (po_some (pe_op op_add (pv 2) pe_int)) (po_some (pv 3))) pa_nil))))
      (pss_cons (ps_expr (pe_bm PySem.F.plainAttrs_list PySem.F.slot_list_append PySem.F.type_list_append mt_append (pv 1) (pa_cons (pe_callB call_len_seq (by rfl) T.b_len (by decide +kernel) (pa_cons (pv 4) pa_nil)) pa_nil)))
      (pss_cons (ps_expr (pe_bm PySem.F.plainAttrs_list PySem.F.slot_list_extend PySem.F.type_list_extend mt_extend (pv 1) (pa_cons (pv 4) pa_nil)))
      (pss_one (ps_set (i := 2) sc.nd rfl (Or.inl rfl) (pe_op op_add (pv 3) pe_int))))))))
      (pss_one (ps_ret (pv 1)))))), ?_⟩)
  · obtain ⟨a, cs, rfl, _⟩ := h
    rfl
  · obtain ⟨a, cs, rfl, hl, hok, hlen, k⟩ := h
    rw [show start N_answers [V.ref a] = [some (.ref a), none, none, none, none] from rfl]
    refine ⟨sz3, fun t ht => ?_⟩
    refine while_by (fun σ H' => ∃ (done rest : List (Int × List Int)) (v3 v4 : Option V), cs = done ++ rest ∧ σ = [some (.ref a), some (.ref t), some (.int ((flat done).length : Nat)), v3, v4] ∧ Same H H' ∧ H' t = some (.lst ((dues done).map V.int)))
      (fun σ _ => mu (flat cs).length σ) ⟨[], cs, none, none, rfl, rfl, same_new ht, upd_same⟩ ?_ ?_
    · rintro σ H1 ⟨done, rest, v3, v4, rfl, rfl, s1, e1⟩
      have hl1 := s1.seq hl
      refine ⟨_, rfl, _, rfl, a, _, rfl, .inl hl1, _, _, rfl, rfl, _, rfl, ?_⟩
      cases rest with
      | nil =>
        refine if_no (c := decide _) (decide_eq_false ?_) ?_
        · rw [List.length_map, List.append_nil]
          omega
        · refine ⟨_, rfl, ?_⟩
          rw [List.append_nil] at k
          exact k _ t e1
      | cons c rest =>
        obtain ⟨p, ns⟩ := c
        have hc := hok (p, ns) (by simp)
        have e0 : flat (done ++ (p, ns) :: rest) = flat done ++ p :: ((ns.length : Int) :: (ns ++ (0 :: flat rest))) := by
          rw [flat_app, flat_cons]
          show flat done ++ ((p :: (ns.length : Int) :: (ns ++ [0])) ++ flat rest) = _
          simp
        refine if_yes (c := decide _) (decide_eq_true ?_) ?_
        · rw [List.length_map, e0, List.length_append, List.length_cons]
          omega
        · have h0 : atI ((flat (done ++ (p, ns) :: rest)).map V.int) ((flat done).length : Nat) = some (.int p) := by
            rw [e0]
            exact at_map rfl
          have h1 : atI ((flat (done ++ (p, ns) :: rest)).map V.int) (((flat done).length : Nat) + 1) = some (.int ns.length) := by
            rw [e0, show flat done ++ p :: ((ns.length : Int) :: (ns ++ (0 :: flat rest))) = (flat done ++ [p]) ++ (ns.length : Int) :: (ns ++ (0 :: flat rest)) by simp]
            refine at_map ?_
            rw [List.length_append]
            rfl
          have h2 : cutV ((flat (done ++ (p, ns) :: rest)).map V.int) (some (((flat done).length : Nat) + 2)) (some (((flat done).length : Nat) + 2 + ns.length)) = ns.map V.int := by
            rw [e0, show flat done ++ p :: ((ns.length : Int) :: (ns ++ (0 :: flat rest))) = (flat done ++ [p, (ns.length : Int)]) ++ (ns ++ (0 :: flat rest)) by simp]
            refine cut_map ?_ ?_
            · rw [List.length_append]
              rfl
            · rw [List.length_append]
              show _ = (((flat done).length + 2 + ns.length : Nat) : Int)
              omega
          refine ⟨_, rfl, _, _, rfl, rfl, _, rfl, _, rfl, _, _, rfl, rfl, a, _, _, _, rfl, rfl, hl1, h1, _, _, rfl, rfl, ?_⟩
          refine ⟨_, rfl, _, rfl, a, _, _, _, rfl, rfl, hl1, h0, _, rfl, _, rfl, _, _, rfl, rfl, _, rfl, _, rfl, _, rfl, a, _, rfl, hl1, fun p2 hp2 => ?_⟩
          refine ⟨p, p2, ns, rfl, upd_same.trans (congrArg (fun z => some (HO.lst z)) h2), hc, fun H3 q3 s3 n3 e3 => ?_⟩
          have s13 : Same H1 H3 := (same_new hp2).trans s3
          have t3 := s13 _ _ e1
          have hd : (dues done).length + 1 + (due (p, ns)).length ≤ 10000000 := by
            have z := hlen
            rw [show done ++ (p, ns) :: rest = (done ++ [(p, ns)]) ++ rest by simp] at z
            have z := len_dues z
            rw [dues_app, dues_one, List.length_append, List.length_cons] at z
            omega
          refine ⟨_, rfl, .inl ⟨rfl, _, SqL.of t3⟩, _, rfl, q3, _, rfl, .inl (SqL.of e3), t, _, _, rfl, rfl, t3, big (by rw [List.length_map]; omega), ?_⟩
          have ne : q3 ≠ t := fun z => by
            have z1 := s13.free (l := q3)
            rw [z] at n3
            rw [(same_new hp2) _ _ e1] at n3
            cases n3
          refine ⟨_, rfl, .inl ⟨rfl, _, SqL.of upd_same⟩, _, rfl, t, q3, _, _, rfl, rfl, upd_same, (upd_ne ne).trans e3, Nat.le_of_lt (big (by rw [List.length_append, List.length_map, List.length_map]; show _ + 1 + _ ≤ _; omega)), ?_⟩
          refine ⟨_, rfl, _, _, rfl, rfl, ?_⟩
          refine ⟨⟨done ++ [(p, ns)], rest, some (.int (((flat done).length : Nat) + 2 + (ns.length : Int))), some (.ref q3), by simp, ?_, ?_, ?_⟩, ?_⟩
          · show [_, _, some (V.int (((flat done).length : Nat) + 2 + (ns.length : Int) + 1)), _, _] = _
            have z : ((flat (done ++ [(p, ns)])).length : Int) = ((flat done).length : Nat) + 2 + (ns.length : Int) + 1 := by
              rw [flat_app, List.length_append]
              have z2 : (flat [(p, ns)]).length = ns.length + 3 := by
                show (flat1 (p, ns) ++ []).length = _
                rw [List.append_nil]
                show (p :: (ns.length : Int) :: (ns ++ [0])).length = _
                rw [List.length_cons, List.length_cons, List.length_append]
                rfl
              rw [z2]
              omega
            rw [z]
          · intro b o e
            have nb : b ≠ t := ne_of_none e ht
            rw [upd_ne nb, upd_ne nb]
            exact s13 _ _ (s1 _ _ e)
          · rw [upd_same, dues_app, dues_one, List.map_append, List.length_map]
            simp
          · show (flat (done ++ (p, ns) :: rest)).length - ((((flat done).length : Nat) : Int) + 2 + (ns.length : Int) + 1).toNat < (flat (done ++ (p, ns) :: rest)).length - (((flat done).length : Nat) : Int).toNat
            rw [e0, List.length_append, List.length_cons, List.length_cons]
            omega
    · rintro σ H1 Q1 Q2 m ⟨v, e, w, e2, p, ys, e3, h, i, j, e4, e5, k, e6, q⟩
      exact ⟨v, e, w, e2, p, ys, e3, h, i, j, e4, e5, k, e6, m _ _ q⟩
end
end Nf


set_option Elab.async false
set_option linter.all false
set_option maxRecDepth 100000
set_option maxHeartbeats 2000000
namespace Nf
open PySem PySem.Spec PyProof.Rows L2 Nl Nb
open PySem.W (Codec)
def DefE (K : PySem.W.Frag) (x : Str) (st : Stmt) : Prop := ∃ (f : Addr) (fd : FuncData), PySem.W.nsIn K mainGlobals x = some (some (.ref f)) ∧ Fun K x x st f fd
theorem def_mk {K : PySem.W.Frag} {x : Str} {st : Stmt} {f : Addr} {oc : Value} {od an : Option Addr} {sl : Array (Option Value)} {kV dc pm cd ct : Value} (a : PySem.W.nsIn K mainGlobals x = some (some (.ref f)))
    (l : K.lookup f = some ⟨oc, od, .func (PySem.W.fnOf x x (defArgs st) (defBody st) (defScope st) .none kV dc pm an cd ct), sl⟩) (c : PySem.W.codeIn K cd x = true) (k : PySem.W.keepIn K (.ref f) = true) : DefE K x st :=
  ⟨f, _, a, fun_mk (st := st) l c k⟩
def GiE (K : PySem.W.Frag) (x : Str) (i : Int) : Prop := ∃ t, PySem.W.nsIn K mainGlobals x = some (some (.int i t))
theorem gi_mk {K : PySem.W.Frag} {x : Str} {i : Int} {t : Tok} (a : PySem.W.nsIn K mainGlobals x = some (some (.int i t))) : GiE K x i := ⟨t, a⟩
theorem sqt_mk {K : PySem.W.Frag} {p : Addr} {xs : List V} {dd : Option Addr} {its : Array Value} {n : Nat} {sl : Array (Option Value)} (l : K.lookup p = some ⟨.type "tuple", dd, .seq its n, sl⟩) (hz : its.size ≤ 1000) (v : Vals xs its.toList) : ∀ H : Hp, SqT K H p xs :=
  fun H => .inr ⟨_, its, n, l, rfl, rfl, Nat.le_trans hz (by rw [sizeLine_eq]; decide), v⟩
def GtE (K : PySem.W.Frag) (x : Str) (ns : List Int) : Prop := ∃ a, PySem.W.nsIn K mainGlobals x = some (some (.ref a)) ∧ ∀ H : Hp, SqT K H a (ns.map V.int)
theorem gt_mk {K : PySem.W.Frag} {x : Str} {ns : List Int} {a : Addr} {dd : Option Addr} {its : Array Value} {n : Nat} {sl : Array (Option Value)} (e : PySem.W.nsIn K mainGlobals x = some (some (.ref a))) (l : K.lookup a = some ⟨.type "tuple", dd, .seq its n, sl⟩)
    (hz : its.size ≤ 1000) (v : Vals (ns.map V.int) its.toList) : GtE K x ns := ⟨a, e, sqt_mk l hz v⟩
def RowsK (K : PySem.W.Frag) (us : List Value) (rs : List (List Int)) : Prop := Paired (fun (u : Value) (r : List Int) => ∃ p, u = .ref p ∧ ∀ H : Hp, SqT K H p (r.map V.int)) us rs
theorem rows_k {K : PySem.W.Frag} : ∀ {us : List Value} {rs : List (List Int)}, RowsK K us rs → ∃ xs, Vals xs us ∧ Paired (fun (x : V) (r : List Int) => ∃ p, x = .ref p ∧ ∀ H : Hp, SqT K H p (r.map V.int)) xs rs
  | _, _, .nil => ⟨[], .nil, .nil⟩
  | _, _, .cons ⟨p, e, h⟩ t => by
    obtain ⟨xs, h1, h2⟩ := rows_k t
    exact ⟨.ref p :: xs, .cons e h1, .cons ⟨p, rfl, h⟩ h2⟩
theorem tt_mk {K : PySem.W.Frag} {rs : List (List Int)} {a : Addr} {dd : Option Addr} {its : Array Value} {n : Nat} {sl : Array (Option Value)} (l : K.lookup a = some ⟨.type "tuple", dd, .seq its n, sl⟩) (hz : its.size ≤ 1000) (v : RowsK K its.toList rs) : TT K a rs := by
  obtain ⟨xs, h1, h2⟩ := rows_k v
  exact ⟨xs, sqt_mk l hz h1, h2⟩
theorem row_mk {K : PySem.W.Frag} {p : Addr} {u : Value} {r : List Int} {dd : Option Addr} {its : Array Value} {n : Nat} {sl : Array (Option Value)} (e : u = .ref p) (l : K.lookup p = some ⟨.type "tuple", dd, .seq its n, sl⟩) (hz : its.size ≤ 1000) (v : Vals (r.map V.int) its.toList) : ∃ p, u = .ref p ∧ ∀ H : Hp, SqT K H p (r.map V.int) := ⟨p, e, sqt_mk l hz v⟩
def GttE (K : PySem.W.Frag) (x : Str) (rs : List (List Int)) : Prop := ∃ a, PySem.W.nsIn K mainGlobals x = some (some (.ref a)) ∧ TT K a rs
theorem gtt_mk {K : PySem.W.Frag} {x : Str} {rs : List (List Int)} {a : Addr} (e : PySem.W.nsIn K mainGlobals x = some (some (.ref a))) (h : TT K a rs) : GttE K x rs := ⟨a, e, h⟩
def GdpE (K : PySem.W.Frag) (x : Str) (tab : List (Int × (V → Prop))) : Prop := ∃ a, PySem.W.nsIn K mainGlobals x = some (some (.ref a)) ∧ DictP K a tab
theorem gdp_mk {K : PySem.W.Frag} {x : Str} {tab : List (Int × (V → Prop))} {a : Addr} {es : Array DictEntry} {n : Nat} (e : PySem.W.nsIn K mainGlobals x = some (some (.ref a))) (l : K.lookup a = some ⟨.type "dict", none, .dict es n, #[]⟩)
    (lo : (a == sysModules) = false) (v : KvsP tab es.toList) : GdpE K x tab := ⟨a, e, ⟨es, n, l, v⟩, lo⟩
def EntP (t : Int × (V → Prop)) (e : DictEntry) : Prop := (∃ u, e.key = .int t.1 u) ∧ e.hash = hashInt t.1 ∧ ∃ v, RelV v e.val ∧ t.2 v
theorem ent_ti {K : PySem.W.Frag} {k : Int} {ns : List Int} {e : DictEntry} {u : Tok} {p : Addr} {dd : Option Addr} {its : Array Value} {n : Nat} {sl : Array (Option Value)} (h1 : e.key = .int k u) (h2 : e.hash = hashInt k) (h3 : e.val = .ref p)
    (l : K.lookup p = some ⟨.type "tuple", dd, .seq its n, sl⟩) (hz : its.size ≤ 1000) (v : Vals (ns.map V.int) its.toList) : EntP (k, isTI K ns) e := ⟨⟨u, h1⟩, h2, .ref p, h3, p, rfl, sqt_mk l hz v⟩
theorem ent_tt {K : PySem.W.Frag} {k : Int} {rs : List (List Int)} {e : DictEntry} {u : Tok} {p : Addr} (h1 : e.key = .int k u) (h2 : e.hash = hashInt k) (h3 : e.val = .ref p) (h : TT K p rs) : EntP (k, isTT K rs) e := ⟨⟨u, h1⟩, h2, .ref p, h3, p, rfl, h⟩

theorem all_mk {P : Program} {w : World} {K : PySem.W.Frag} {h : Heap} {mg : Str → Option Value} {fa : Addr} (X : K.In h) (G : h.Ns mainGlobals mg) (hfa : mg "answers" = some (.ref fa))
    (d_is_note : DefE K "is_note" s_is_note)
    (d_plain_semitones : DefE K "plain_semitones" s_plain_semitones)
    (d_sound_of : DefE K "sound_of" s_sound_of)
    (d_place_of : DefE K "place_of" s_place_of)
    (d_quality_of : DefE K "quality_of" s_quality_of)
    (d_perfection_of : DefE K "perfection_of" s_perfection_of)
    (d_consonance_of : DefE K "consonance_of" s_consonance_of)
    (d_first_step : DefE K "first_step" s_first_step)
    (d_key_alteration : DefE K "key_alteration" s_key_alteration)
    (d_tell_sound : DefE K "tell_sound" s_tell_sound)
    (d_tell_interval : DefE K "tell_interval" s_tell_interval)
    (d_is_fifths : DefE K "is_fifths" s_is_fifths)
    (d_is_sound : DefE K "is_sound" s_is_sound)
    (d_is_key : DefE K "is_key" s_is_key)
    (d_is_distance : DefE K "is_distance" s_is_distance)
    (d_is_turned_kind : DefE K "is_turned_kind" s_is_turned_kind)
    (d_above : DefE K "above" s_above)
    (d_are_notes : DefE K "are_notes" s_are_notes)
    (d_counted : DefE K "counted" s_counted)
    (d_paired : DefE K "paired" s_paired)
    (d_tell_above : DefE K "tell_above" s_tell_above)
    (d_tell_degree : DefE K "tell_degree" s_tell_degree)
    (d_tell_key : DefE K "tell_key" s_tell_key)
    (d_tell_move : DefE K "tell_move" s_tell_move)
    (d_chord_notes : DefE K "chord_notes" s_chord_notes)
    (d_turned : DefE K "turned" s_turned)
    (d_tell_build : DefE K "tell_build" s_tell_build)
    (d_different_names : DefE K "different_names" s_different_names)
    (d_are_same_names : DefE K "are_same_names" s_are_same_names)
    (d_chord_answer : DefE K "chord_answer" s_chord_answer)
    (d_tell_chord : DefE K "tell_chord" s_tell_chord)
    (d_notes_sounding : DefE K "notes_sounding" s_notes_sounding)
    (d_continued : DefE K "continued" s_continued)
    (d_best_row : DefE K "best_row" s_best_row)
    (d_best_with : DefE K "best_with" s_best_with)
    (d_tell_spell : DefE K "tell_spell" s_tell_spell)
    (d_tell : DefE K "tell" s_tell)
    (d_answers : DefE K "answers" s_answers)
    (g1 : GiE K "REFUSED" (-1)) (g2 : GiE K "NO_NOTE" (-3)) (g3 : GiE K "NO_CHORD" (-3)) (g4 : GtE K "SEMITONES" [0, 2, 4, 5, 7, 9, 11]) (g5 : GtE K "PLACES" [0, 2, 4, -1, 1, 3, 5]) (g6 : GttE K "CHORDS" chordsT) (g7 : GdpE K "FIGURES" (figT K)) (g8 : GdpE K "WIDTHS" (widT K))
    (z1 : PySem.W.nsIn K mainGlobals "len" = some none) (z2 : PySem.W.nsIn K mainGlobals "abs" = some none) (z3 : PySem.W.nsIn K mainGlobals "range" = some none) (z4 : PySem.W.nsIn K mainGlobals "all" = some none) (z5 : PySem.W.nsIn K mainGlobals "min" = some none) (z6 : PySem.W.nsIn K mainGlobals "list" = some none) :
    ∃ fd : FuncData, (∀ (s : Shared) (us : List Value), us.length = (["calls"] : List Str).length → BindsTo s fd ⟨us, []⟩ ((["calls"] : List Str).zip us)) ∧ ∀ base : Heap, K.In base → base.Ns mainGlobals mg → FnOk P w K mg base CX0 8 fa fd ["calls"] (sp_answers K) := by
  have T : Txt K mg := by
    obtain ⟨t1, g1⟩ := g1
    obtain ⟨t2, g2⟩ := g2
    obtain ⟨t3, g3⟩ := g3
    obtain ⟨a4, g4, h4⟩ := g4
    obtain ⟨a5, g5, h5⟩ := g5
    obtain ⟨a6, g6, h6⟩ := g6
    obtain ⟨a7, g7, h7⟩ := g7
    obtain ⟨a8, g8, h8⟩ := g8
    exact ⟨⟨t1, PySem.W.mg_of X G g1⟩, ⟨t2, PySem.W.mg_of X G g2⟩, ⟨t3, PySem.W.mg_of X G g3⟩, ⟨a4, PySem.W.mg_of X G g4, h4⟩, ⟨a5, PySem.W.mg_of X G g5, h5⟩, ⟨a6, PySem.W.mg_of X G g6, h6⟩, ⟨a7, PySem.W.mg_of X G g7, h7⟩, ⟨a8, PySem.W.mg_of X G g8, h8⟩, PySem.W.mg_none_of X G z1, PySem.W.mg_none_of X G z2, PySem.W.mg_none_of X G z3, PySem.W.mg_none_of X G z4, PySem.W.mg_none_of X G z5, PySem.W.mg_none_of X G z6⟩
  obtain ⟨f_is_note, fd_is_note, a_is_note, F_is_note⟩ := d_is_note
  obtain ⟨f_plain_semitones, fd_plain_semitones, a_plain_semitones, F_plain_semitones⟩ := d_plain_semitones
  obtain ⟨f_sound_of, fd_sound_of, a_sound_of, F_sound_of⟩ := d_sound_of
  obtain ⟨f_place_of, fd_place_of, a_place_of, F_place_of⟩ := d_place_of
  obtain ⟨f_quality_of, fd_quality_of, a_quality_of, F_quality_of⟩ := d_quality_of
  obtain ⟨f_perfection_of, fd_perfection_of, a_perfection_of, F_perfection_of⟩ := d_perfection_of
  obtain ⟨f_consonance_of, fd_consonance_of, a_consonance_of, F_consonance_of⟩ := d_consonance_of
  obtain ⟨f_first_step, fd_first_step, a_first_step, F_first_step⟩ := d_first_step
  obtain ⟨f_key_alteration, fd_key_alteration, a_key_alteration, F_key_alteration⟩ := d_key_alteration
  obtain ⟨f_tell_sound, fd_tell_sound, a_tell_sound, F_tell_sound⟩ := d_tell_sound
  obtain ⟨f_tell_interval, fd_tell_interval, a_tell_interval, F_tell_interval⟩ := d_tell_interval
  obtain ⟨f_is_fifths, fd_is_fifths, a_is_fifths, F_is_fifths⟩ := d_is_fifths
  obtain ⟨f_is_sound, fd_is_sound, a_is_sound, F_is_sound⟩ := d_is_sound
  obtain ⟨f_is_key, fd_is_key, a_is_key, F_is_key⟩ := d_is_key
  obtain ⟨f_is_distance, fd_is_distance, a_is_distance, F_is_distance⟩ := d_is_distance
  obtain ⟨f_is_turned_kind, fd_is_turned_kind, a_is_turned_kind, F_is_turned_kind⟩ := d_is_turned_kind
  obtain ⟨f_above, fd_above, a_above, F_above⟩ := d_above
  obtain ⟨f_are_notes, fd_are_notes, a_are_notes, F_are_notes⟩ := d_are_notes
  obtain ⟨f_counted, fd_counted, a_counted, F_counted⟩ := d_counted
  obtain ⟨f_paired, fd_paired, a_paired, F_paired⟩ := d_paired
  obtain ⟨f_tell_above, fd_tell_above, a_tell_above, F_tell_above⟩ := d_tell_above
  obtain ⟨f_tell_degree, fd_tell_degree, a_tell_degree, F_tell_degree⟩ := d_tell_degree
  obtain ⟨f_tell_key, fd_tell_key, a_tell_key, F_tell_key⟩ := d_tell_key
  obtain ⟨f_tell_move, fd_tell_move, a_tell_move, F_tell_move⟩ := d_tell_move
  obtain ⟨f_chord_notes, fd_chord_notes, a_chord_notes, F_chord_notes⟩ := d_chord_notes
  obtain ⟨f_turned, fd_turned, a_turned, F_turned⟩ := d_turned
  obtain ⟨f_tell_build, fd_tell_build, a_tell_build, F_tell_build⟩ := d_tell_build
  obtain ⟨f_different_names, fd_different_names, a_different_names, F_different_names⟩ := d_different_names
  obtain ⟨f_are_same_names, fd_are_same_names, a_are_same_names, F_are_same_names⟩ := d_are_same_names
  obtain ⟨f_chord_answer, fd_chord_answer, a_chord_answer, F_chord_answer⟩ := d_chord_answer
  obtain ⟨f_tell_chord, fd_tell_chord, a_tell_chord, F_tell_chord⟩ := d_tell_chord
  obtain ⟨f_notes_sounding, fd_notes_sounding, a_notes_sounding, F_notes_sounding⟩ := d_notes_sounding
  obtain ⟨f_continued, fd_continued, a_continued, F_continued⟩ := d_continued
  obtain ⟨f_best_row, fd_best_row, a_best_row, F_best_row⟩ := d_best_row
  obtain ⟨f_best_with, fd_best_with, a_best_with, F_best_with⟩ := d_best_with
  obtain ⟨f_tell_spell, fd_tell_spell, a_tell_spell, F_tell_spell⟩ := d_tell_spell
  obtain ⟨f_tell, fd_tell, a_tell, F_tell⟩ := d_tell
  obtain ⟨f_answers, fd_answers, a_answers, F_answers⟩ := d_answers
  have e := hfa.symm.trans (PySem.W.mg_of X G a_answers)
  cases e
  refine ⟨fd_answers, ?_, fun base _ _ => ?_⟩
  · obtain ⟨oc, od, kV, doc, pm, an, cdv, ct, osl, rfl, lk, hcd⟩ := F_answers.ex
    exact fun s us hu => match us, hu with | [_], _ => .of_eq rfl
  have k_is_note : Kn P w K mg base "is_note" ["d", "a"] 1 sp_is_note := ⟨f_is_note, fd_is_note, PySem.W.mg_of X G a_is_note, F_is_note.kp, F_is_note.binds (ps := ["d", "a"]) (fun _ _ _ _ _ _ us hl => match us, hl with | [_, _], _ => rfl), ok_is_note F_is_note ⟩
  have k_plain_semitones : Kn P w K mg base "plain_semitones" ["steps"] 1 sp_plain_semitones := ⟨f_plain_semitones, fd_plain_semitones, PySem.W.mg_of X G a_plain_semitones, F_plain_semitones.kp, F_plain_semitones.binds (ps := ["steps"]) (fun _ _ _ _ _ _ us hl => match us, hl with | [_], _ => rfl), ok_plain_semitones F_plain_semitones T⟩
  have k_sound_of : Kn P w K mg base "sound_of" ["d", "a"] 2 sp_sound_of := ⟨f_sound_of, fd_sound_of, PySem.W.mg_of X G a_sound_of, F_sound_of.kp, F_sound_of.binds (ps := ["d", "a"]) (fun _ _ _ _ _ _ us hl => match us, hl with | [_, _], _ => rfl), ok_sound_of F_sound_of k_plain_semitones⟩
  have k_place_of : Kn P w K mg base "place_of" ["d", "a"] 1 sp_place_of := ⟨f_place_of, fd_place_of, PySem.W.mg_of X G a_place_of, F_place_of.kp, F_place_of.binds (ps := ["d", "a"]) (fun _ _ _ _ _ _ us hl => match us, hl with | [_, _], _ => rfl), ok_place_of F_place_of T⟩
  have k_quality_of : Kn P w K mg base "quality_of" ["s", "t"] 2 sp_quality_of := ⟨f_quality_of, fd_quality_of, PySem.W.mg_of X G a_quality_of, F_quality_of.kp, F_quality_of.binds (ps := ["s", "t"]) (fun _ _ _ _ _ _ us hl => match us, hl with | [_, _], _ => rfl), ok_quality_of F_quality_of k_plain_semitones⟩
  have k_perfection_of : Kn P w K mg base "perfection_of" ["s"] 1 sp_perfection_of := ⟨f_perfection_of, fd_perfection_of, PySem.W.mg_of X G a_perfection_of, F_perfection_of.kp, F_perfection_of.binds (ps := ["s"]) (fun _ _ _ _ _ _ us hl => match us, hl with | [_], _ => rfl), ok_perfection_of F_perfection_of T⟩
  have k_consonance_of : Kn P w K mg base "consonance_of" ["s", "t"] 3 sp_consonance_of := ⟨f_consonance_of, fd_consonance_of, PySem.W.mg_of X G a_consonance_of, F_consonance_of.kp, F_consonance_of.binds (ps := ["s", "t"]) (fun _ _ _ _ _ _ us hl => match us, hl with | [_, _], _ => rfl), ok_consonance_of F_consonance_of T k_quality_of⟩
  have k_first_step : Kn P w K mg base "first_step" ["k", "mode"] 1 sp_first_step := ⟨f_first_step, fd_first_step, PySem.W.mg_of X G a_first_step, F_first_step.kp, F_first_step.binds (ps := ["k", "mode"]) (fun _ _ _ _ _ _ us hl => match us, hl with | [_, _], _ => rfl), ok_first_step F_first_step ⟩
  have k_key_alteration : Kn P w K mg base "key_alteration" ["k", "step"] 1 sp_key_alteration := ⟨f_key_alteration, fd_key_alteration, PySem.W.mg_of X G a_key_alteration, F_key_alteration.kp, F_key_alteration.binds (ps := ["k", "step"]) (fun _ _ _ _ _ _ us hl => match us, hl with | [_, _], _ => rfl), ok_key_alteration F_key_alteration T⟩
  have k_tell_sound : Kn P w K mg base "tell_sound" ["d", "a"] 3 sp_tell_sound := ⟨f_tell_sound, fd_tell_sound, PySem.W.mg_of X G a_tell_sound, F_tell_sound.kp, F_tell_sound.binds (ps := ["d", "a"]) (fun _ _ _ _ _ _ us hl => match us, hl with | [_, _], _ => rfl), ok_tell_sound F_tell_sound T k_is_note k_sound_of k_place_of⟩
  have k_tell_interval : Kn P w K mg base "tell_interval" ["d", "a", "other_d", "other_a"] 4 sp_tell_interval := ⟨f_tell_interval, fd_tell_interval, PySem.W.mg_of X G a_tell_interval, F_tell_interval.kp, F_tell_interval.binds (ps := ["d", "a", "other_d", "other_a"]) (fun _ _ _ _ _ _ us hl => match us, hl with | [_, _, _, _], _ => rfl), ok_tell_interval F_tell_interval T k_is_note k_sound_of k_quality_of k_perfection_of k_consonance_of⟩
  have k_is_fifths : Kn P w K mg base "is_fifths" ["k"] 1 sp_is_fifths := ⟨f_is_fifths, fd_is_fifths, PySem.W.mg_of X G a_is_fifths, F_is_fifths.kp, F_is_fifths.binds (ps := ["k"]) (fun _ _ _ _ _ _ us hl => match us, hl with | [_], _ => rfl), ok_is_fifths F_is_fifths ⟩
  have k_is_sound : Kn P w K mg base "is_sound" ["sound"] 1 sp_is_sound := ⟨f_is_sound, fd_is_sound, PySem.W.mg_of X G a_is_sound, F_is_sound.kp, F_is_sound.binds (ps := ["sound"]) (fun _ _ _ _ _ _ us hl => match us, hl with | [_], _ => rfl), ok_is_sound F_is_sound ⟩
  have k_is_key : Kn P w K mg base "is_key" ["k", "mode"] 2 sp_is_key := ⟨f_is_key, fd_is_key, PySem.W.mg_of X G a_is_key, F_is_key.kp, F_is_key.binds (ps := ["k", "mode"]) (fun _ _ _ _ _ _ us hl => match us, hl with | [_, _], _ => rfl), ok_is_key F_is_key k_is_fifths⟩
  have k_is_distance : Kn P w K mg base "is_distance" ["s", "t"] 1 sp_is_distance := ⟨f_is_distance, fd_is_distance, PySem.W.mg_of X G a_is_distance, F_is_distance.kp, F_is_distance.binds (ps := ["s", "t"]) (fun _ _ _ _ _ _ us hl => match us, hl with | [_, _], _ => rfl), ok_is_distance F_is_distance ⟩
  have k_is_turned_kind : Kn P w K mg base "is_turned_kind" ["kind", "turn"] 1 sp_is_turned_kind := ⟨f_is_turned_kind, fd_is_turned_kind, PySem.W.mg_of X G a_is_turned_kind, F_is_turned_kind.kp, F_is_turned_kind.binds (ps := ["kind", "turn"]) (fun _ _ _ _ _ _ us hl => match us, hl with | [_, _], _ => rfl), ok_is_turned_kind F_is_turned_kind T⟩
  have k_above : Kn P w K mg base "above" ["note", "s", "t"] 3 sp_above := ⟨f_above, fd_above, PySem.W.mg_of X G a_above, F_above.kp, F_above.binds (ps := ["note", "s", "t"]) (fun _ _ _ _ _ _ us hl => match us, hl with | [_, _, _], _ => rfl), ok_above F_above k_sound_of⟩
  have k_are_notes : Kn P w K mg base "are_notes" ["notes"] 2 sp_are_notes := ⟨f_are_notes, fd_are_notes, PySem.W.mg_of X G a_are_notes, F_are_notes.kp, F_are_notes.binds (ps := ["notes"]) (fun _ _ _ _ _ _ us hl => match us, hl with | [_], _ => rfl), ok_are_notes F_are_notes T k_is_note⟩
  have k_counted : Kn P w K mg base "counted" ["notes"] 3 sp_counted := ⟨f_counted, fd_counted, PySem.W.mg_of X G a_counted, F_counted.kp, F_counted.binds (ps := ["notes"]) (fun _ _ _ _ _ _ us hl => match us, hl with | [_], _ => rfl), ok_counted F_counted T k_are_notes⟩
  have k_paired : Kn P w K mg base "paired" ["numbers"] 1 sp_paired := ⟨f_paired, fd_paired, PySem.W.mg_of X G a_paired, F_paired.kp, F_paired.binds (ps := ["numbers"]) (fun _ _ _ _ _ _ us hl => match us, hl with | [_], _ => rfl), ok_paired F_paired T⟩
  have k_tell_above : Kn P w K mg base "tell_above" ["d", "a", "s", "t"] 4 sp_tell_above := ⟨f_tell_above, fd_tell_above, PySem.W.mg_of X G a_tell_above, F_tell_above.kp, F_tell_above.binds (ps := ["d", "a", "s", "t"]) (fun _ _ _ _ _ _ us hl => match us, hl with | [_, _, _, _], _ => rfl), ok_tell_above F_tell_above T k_is_note k_is_distance k_above⟩
  have k_tell_degree : Kn P w K mg base "tell_degree" ["k", "mode", "d", "a"] 3 sp_tell_degree := ⟨f_tell_degree, fd_tell_degree, PySem.W.mg_of X G a_tell_degree, F_tell_degree.kp, F_tell_degree.binds (ps := ["k", "mode", "d", "a"]) (fun _ _ _ _ _ _ us hl => match us, hl with | [_, _, _, _], _ => rfl), ok_tell_degree F_tell_degree T k_is_note k_is_key k_first_step k_key_alteration⟩
  have k_tell_key : Kn P w K mg base "tell_key" ["k", "mode"] 3 sp_tell_key := ⟨f_tell_key, fd_tell_key, PySem.W.mg_of X G a_tell_key, F_tell_key.kp, F_tell_key.binds (ps := ["k", "mode"]) (fun _ _ _ _ _ _ us hl => match us, hl with | [_, _], _ => rfl), ok_tell_key F_tell_key T k_is_key k_first_step k_key_alteration⟩
  have k_tell_move : Kn P w K mg base "tell_move" ["s", "t", "notes"] 4 sp_tell_move := ⟨f_tell_move, fd_tell_move, PySem.W.mg_of X G a_tell_move, F_tell_move.kp, F_tell_move.binds (ps := ["s", "t", "notes"]) (fun _ _ _ _ _ _ us hl => match us, hl with | [_, _, _], _ => rfl), ok_tell_move F_tell_move T k_is_distance k_are_notes k_above k_counted⟩
  have k_chord_notes : Kn P w K mg base "chord_notes" ["root", "kind"] 4 sp_chord_notes := ⟨f_chord_notes, fd_chord_notes, PySem.W.mg_of X G a_chord_notes, F_chord_notes.kp, F_chord_notes.binds (ps := ["root", "kind"]) (fun _ _ _ _ _ _ us hl => match us, hl with | [_, _], _ => rfl), ok_chord_notes F_chord_notes T k_above⟩
  have k_turned : Kn P w K mg base "turned" ["notes", "turn"] 4 sp_turned := ⟨f_turned, fd_turned, PySem.W.mg_of X G a_turned, F_turned.kp, F_turned.binds (ps := ["notes", "turn"]) (fun _ _ _ _ _ _ us hl => match us, hl with | [_, _], _ => rfl), ok_turned F_turned T k_above⟩
  have k_tell_build : Kn P w K mg base "tell_build" ["d", "a", "kind", "turn"] 5 sp_tell_build := ⟨f_tell_build, fd_tell_build, PySem.W.mg_of X G a_tell_build, F_tell_build.kp, F_tell_build.binds (ps := ["d", "a", "kind", "turn"]) (fun _ _ _ _ _ _ us hl => match us, hl with | [_, _, _, _], _ => rfl), ok_tell_build F_tell_build T k_is_note k_is_turned_kind k_chord_notes k_turned k_counted⟩
  have k_different_names : Kn P w K mg base "different_names" ["notes"] 1 sp_different_names := ⟨f_different_names, fd_different_names, PySem.W.mg_of X G a_different_names, F_different_names.kp, F_different_names.binds (ps := ["notes"]) (fun _ _ _ _ _ _ us hl => match us, hl with | [_], _ => rfl), ok_different_names F_different_names ⟩
  have k_are_same_names : Kn P w K mg base "are_same_names" ["names", "others"] 1 sp_are_same_names := ⟨f_are_same_names, fd_are_same_names, PySem.W.mg_of X G a_are_same_names, F_are_same_names.kp, F_are_same_names.binds (ps := ["names", "others"]) (fun _ _ _ _ _ _ us hl => match us, hl with | [_, _], _ => rfl), ok_are_same_names F_are_same_names T⟩
  have k_chord_answer : Kn P w K mg base "chord_answer" ["names", "root", "kind"] 5 sp_chord_answer := ⟨f_chord_answer, fd_chord_answer, PySem.W.mg_of X G a_chord_answer, F_chord_answer.kp, F_chord_answer.binds (ps := ["names", "root", "kind"]) (fun _ _ _ _ _ _ us hl => match us, hl with | [_, _, _], _ => rfl), ok_chord_answer F_chord_answer T k_different_names k_chord_notes k_are_same_names⟩
  have k_tell_chord : Kn P w K mg base "tell_chord" ["notes"] 6 sp_tell_chord := ⟨f_tell_chord, fd_tell_chord, PySem.W.mg_of X G a_tell_chord, F_tell_chord.kp, F_tell_chord.binds (ps := ["notes"]) (fun _ _ _ _ _ _ us hl => match us, hl with | [_], _ => rfl), ok_tell_chord F_tell_chord T k_are_notes k_different_names k_chord_answer⟩
  have k_notes_sounding : Kn P w K mg base "notes_sounding" ["sound"] 3 sp_notes_sounding := ⟨f_notes_sounding, fd_notes_sounding, PySem.W.mg_of X G a_notes_sounding, F_notes_sounding.kp, F_notes_sounding.binds (ps := ["sound"]) (fun _ _ _ _ _ _ us hl => match us, hl with | [_], _ => rfl), ok_notes_sounding F_notes_sounding T k_sound_of k_is_note⟩
  have k_continued : Kn P w K mg base "continued" ["row", "note", "k"] 2 sp_continued := ⟨f_continued, fd_continued, PySem.W.mg_of X G a_continued, F_continued.kp, F_continued.binds (ps := ["row", "note", "k"]) (fun _ _ _ _ _ _ us hl => match us, hl with | [_, _, _], _ => rfl), ok_continued F_continued T k_place_of⟩
  have k_best_row : Kn P w K mg base "best_row" ["rows"] 1 sp_best_row := ⟨f_best_row, fd_best_row, PySem.W.mg_of X G a_best_row, F_best_row.kp, F_best_row.binds (ps := ["rows"]) (fun _ _ _ _ _ _ us hl => match us, hl with | [_], _ => rfl), ok_best_row F_best_row T⟩
  have k_best_with : Kn P w K mg base "best_with" ["rows", "note", "k"] 3 sp_best_with := ⟨f_best_with, fd_best_with, PySem.W.mg_of X G a_best_with, F_best_with.kp, F_best_with.binds (ps := ["rows", "note", "k"]) (fun _ _ _ _ _ _ us hl => match us, hl with | [_, _, _], _ => rfl), ok_best_with F_best_with T k_best_row k_continued⟩
  have k_tell_spell : Kn P w K mg base "tell_spell" ["k", "sounds"] 4 sp_tell_spell := ⟨f_tell_spell, fd_tell_spell, PySem.W.mg_of X G a_tell_spell, F_tell_spell.kp, F_tell_spell.binds (ps := ["k", "sounds"]) (fun _ _ _ _ _ _ us hl => match us, hl with | [_, _], _ => rfl), ok_tell_spell F_tell_spell T k_is_fifths k_is_sound k_notes_sounding k_best_with k_best_row⟩
  have k_tell : Kn P w K mg base "tell" ["number", "numbers"] 7 sp_tell := ⟨f_tell, fd_tell, PySem.W.mg_of X G a_tell, F_tell.kp, F_tell.binds (ps := ["number", "numbers"]) (fun _ _ _ _ _ _ us hl => match us, hl with | [_, _], _ => rfl), ok_tell F_tell T k_tell_sound k_tell_interval k_tell_above k_tell_key k_tell_degree k_tell_spell k_tell_chord k_tell_build k_tell_move k_paired⟩
  exact ok_answers F_answers T k_tell
end Nf

open PySem PySem.W PyProof.Rows
set_option maxRecDepth 100000 in
set_option maxHeartbeats 8000000 in
theorem PySem.Challenge.cw_calledbyname_s01_answers_holds : PySem.Challenge.rw_calledbyname_s01_answers.Holds := by
  w_on; k_headS; (case hw => exact ⟨[.list [.int 1, .int 2, .int 0, .int 0, .int 0]], by decide +kernel, by decide +kernel⟩)
  k_fillS
  refine L2.walk_specK (r := PySem.Challenge.rw_calledbyname_s01_answers) (k := 8) (CX := L2.CX0) (ps := ["calls"]) (sp := Nf.sp_answers) (by decide +kernel) rfl rfl ⟨rfl, by decide, by decide⟩ (fun w h Y => PySem.W.kIn_of Y) ?F ?S (fun _ _ _ _ z => z)
  case F =>
    intro w mg fa h Y KX G hmg
    refine' Nf.all_mk KX G hmg ?d_is_note ?d_plain_semitones ?d_sound_of ?d_place_of ?d_quality_of ?d_perfection_of ?d_consonance_of ?d_first_step ?d_key_alteration ?d_tell_sound ?d_tell_interval ?d_is_fifths ?d_is_sound ?d_is_key ?d_is_distance ?d_is_turned_kind ?d_above ?d_are_notes ?d_counted ?d_paired ?d_tell_above ?d_tell_degree ?d_tell_key ?d_tell_move ?d_chord_notes ?d_turned ?d_tell_build ?d_different_names ?d_are_same_names ?d_chord_answer ?d_tell_chord ?d_notes_sounding ?d_continued ?d_best_row ?d_best_with ?d_tell_spell ?d_tell ?d_answers ?g1 ?g2 ?g3 ?g4 ?g5 ?g6 ?g7 ?g8 ?z1 ?z2 ?z3 ?z4 ?z5 ?z6
    (case d_is_note => (refine' Nf.def_mk ?a ?l ?c ?k; (case a => k_is); (case l => k_is); (case c => k_is); (case k => k_is)))
    (case d_plain_semitones => (refine' Nf.def_mk ?a ?l ?c ?k; (case a => k_is); (case l => k_is); (case c => k_is); (case k => k_is)))
    (case d_sound_of => (refine' Nf.def_mk ?a ?l ?c ?k; (case a => k_is); (case l => k_is); (case c => k_is); (case k => k_is)))
    (case d_place_of => (refine' Nf.def_mk ?a ?l ?c ?k; (case a => k_is); (case l => k_is); (case c => k_is); (case k => k_is)))
    (case d_quality_of => (refine' Nf.def_mk ?a ?l ?c ?k; (case a => k_is); (case l => k_is); (case c => k_is); (case k => k_is)))
    (case d_perfection_of => (refine' Nf.def_mk ?a ?l ?c ?k; (case a => k_is); (case l => k_is); (case c => k_is); (case k => k_is)))
    (case d_consonance_of => (refine' Nf.def_mk ?a ?l ?c ?k; (case a => k_is); (case l => k_is); (case c => k_is); (case k => k_is)))
    (case d_first_step => (refine' Nf.def_mk ?a ?l ?c ?k; (case a => k_is); (case l => k_is); (case c => k_is); (case k => k_is)))
    (case d_key_alteration => (refine' Nf.def_mk ?a ?l ?c ?k; (case a => k_is); (case l => k_is); (case c => k_is); (case k => k_is)))
    (case d_tell_sound => (refine' Nf.def_mk ?a ?l ?c ?k; (case a => k_is); (case l => k_is); (case c => k_is); (case k => k_is)))
    (case d_tell_interval => (refine' Nf.def_mk ?a ?l ?c ?k; (case a => k_is); (case l => k_is); (case c => k_is); (case k => k_is)))
    (case d_is_fifths => (refine' Nf.def_mk ?a ?l ?c ?k; (case a => k_is); (case l => k_is); (case c => k_is); (case k => k_is)))
    (case d_is_sound => (refine' Nf.def_mk ?a ?l ?c ?k; (case a => k_is); (case l => k_is); (case c => k_is); (case k => k_is)))
    (case d_is_key => (refine' Nf.def_mk ?a ?l ?c ?k; (case a => k_is); (case l => k_is); (case c => k_is); (case k => k_is)))
    (case d_is_distance => (refine' Nf.def_mk ?a ?l ?c ?k; (case a => k_is); (case l => k_is); (case c => k_is); (case k => k_is)))
    (case d_is_turned_kind => (refine' Nf.def_mk ?a ?l ?c ?k; (case a => k_is); (case l => k_is); (case c => k_is); (case k => k_is)))
    (case d_above => (refine' Nf.def_mk ?a ?l ?c ?k; (case a => k_is); (case l => k_is); (case c => k_is); (case k => k_is)))
    (case d_are_notes => (refine' Nf.def_mk ?a ?l ?c ?k; (case a => k_is); (case l => k_is); (case c => k_is); (case k => k_is)))
    (case d_counted => (refine' Nf.def_mk ?a ?l ?c ?k; (case a => k_is); (case l => k_is); (case c => k_is); (case k => k_is)))
    (case d_paired => (refine' Nf.def_mk ?a ?l ?c ?k; (case a => k_is); (case l => k_is); (case c => k_is); (case k => k_is)))
    (case d_tell_above => (refine' Nf.def_mk ?a ?l ?c ?k; (case a => k_is); (case l => k_is); (case c => k_is); (case k => k_is)))
    (case d_tell_degree => (refine' Nf.def_mk ?a ?l ?c ?k; (case a => k_is); (case l => k_is); (case c => k_is); (case k => k_is)))
    (case d_tell_key => (refine' Nf.def_mk ?a ?l ?c ?k; (case a => k_is); (case l => k_is); (case c => k_is); (case k => k_is)))
    (case d_tell_move => (refine' Nf.def_mk ?a ?l ?c ?k; (case a => k_is); (case l => k_is); (case c => k_is); (case k => k_is)))
    (case d_chord_notes => (refine' Nf.def_mk ?a ?l ?c ?k; (case a => k_is); (case l => k_is); (case c => k_is); (case k => k_is)))
    (case d_turned => (refine' Nf.def_mk ?a ?l ?c ?k; (case a => k_is); (case l => k_is); (case c => k_is); (case k => k_is)))
    (case d_tell_build => (refine' Nf.def_mk ?a ?l ?c ?k; (case a => k_is); (case l => k_is); (case c => k_is); (case k => k_is)))
    (case d_different_names => (refine' Nf.def_mk ?a ?l ?c ?k; (case a => k_is); (case l => k_is); (case c => k_is); (case k => k_is)))
    (case d_are_same_names => (refine' Nf.def_mk ?a ?l ?c ?k; (case a => k_is); (case l => k_is); (case c => k_is); (case k => k_is)))
    (case d_chord_answer => (refine' Nf.def_mk ?a ?l ?c ?k; (case a => k_is); (case l => k_is); (case c => k_is); (case k => k_is)))
    (case d_tell_chord => (refine' Nf.def_mk ?a ?l ?c ?k; (case a => k_is); (case l => k_is); (case c => k_is); (case k => k_is)))
    (case d_notes_sounding => (refine' Nf.def_mk ?a ?l ?c ?k; (case a => k_is); (case l => k_is); (case c => k_is); (case k => k_is)))
    (case d_continued => (refine' Nf.def_mk ?a ?l ?c ?k; (case a => k_is); (case l => k_is); (case c => k_is); (case k => k_is)))
    (case d_best_row => (refine' Nf.def_mk ?a ?l ?c ?k; (case a => k_is); (case l => k_is); (case c => k_is); (case k => k_is)))
    (case d_best_with => (refine' Nf.def_mk ?a ?l ?c ?k; (case a => k_is); (case l => k_is); (case c => k_is); (case k => k_is)))
    (case d_tell_spell => (refine' Nf.def_mk ?a ?l ?c ?k; (case a => k_is); (case l => k_is); (case c => k_is); (case k => k_is)))
    (case d_tell => (refine' Nf.def_mk ?a ?l ?c ?k; (case a => k_is); (case l => k_is); (case c => k_is); (case k => k_is)))
    (case d_answers => (refine' Nf.def_mk ?a ?l ?c ?k; (case a => k_is); (case l => k_is); (case c => k_is); (case k => k_is)))
    (case g1 => (refine' Nf.gi_mk ?a; (case a => k_is)))
    (case g2 => (refine' Nf.gi_mk ?a; (case a => k_is)))
    (case g3 => (refine' Nf.gi_mk ?a; (case a => k_is)))
    (case g4 => (refine' Nf.gt_mk ?a ?l ?z ?v; (case a => k_is); (case l => k_is); (case z => decide); (case v => exact (.cons ⟨_, rfl⟩ (.cons ⟨_, rfl⟩ (.cons ⟨_, rfl⟩ (.cons ⟨_, rfl⟩ (.cons ⟨_, rfl⟩ (.cons ⟨_, rfl⟩ (.cons ⟨_, rfl⟩ .nil))))))))))
    (case g5 => (refine' Nf.gt_mk ?a ?l ?z ?v; (case a => k_is); (case l => k_is); (case z => decide); (case v => exact (.cons ⟨_, rfl⟩ (.cons ⟨_, rfl⟩ (.cons ⟨_, rfl⟩ (.cons ⟨_, rfl⟩ (.cons ⟨_, rfl⟩ (.cons ⟨_, rfl⟩ (.cons ⟨_, rfl⟩ .nil))))))))))
    case g6 =>
      refine' Nf.gtt_mk ?a100 ?h100
      (case a100 => k_is)
      case h100 =>
        refine' Nf.tt_mk ?l101 ?z101 ?v101
        (case l101 => k_is)
        (case z101 => decide)
        case v101 =>
          refine' PySem.Paired.cons ?h102 ?t102
          (case h102 => (refine' Nf.row_mk rfl ?l103 ?z103 ?v103; (case l103 => k_is); (case z103 => decide); (case v103 => exact (.cons ⟨_, rfl⟩ (.cons ⟨_, rfl⟩ (.cons ⟨_, rfl⟩ .nil))))))
          case t102 =>
            refine' PySem.Paired.cons ?h104 ?t104
            (case h104 => (refine' Nf.row_mk rfl ?l105 ?z105 ?v105; (case l105 => k_is); (case z105 => decide); (case v105 => exact (.cons ⟨_, rfl⟩ (.cons ⟨_, rfl⟩ (.cons ⟨_, rfl⟩ .nil))))))
            case t104 =>
              refine' PySem.Paired.cons ?h106 ?t106
              (case h106 => (refine' Nf.row_mk rfl ?l107 ?z107 ?v107; (case l107 => k_is); (case z107 => decide); (case v107 => exact (.cons ⟨_, rfl⟩ (.cons ⟨_, rfl⟩ (.cons ⟨_, rfl⟩ .nil))))))
              case t106 =>
                refine' PySem.Paired.cons ?h108 ?t108
                (case h108 => (refine' Nf.row_mk rfl ?l109 ?z109 ?v109; (case l109 => k_is); (case z109 => decide); (case v109 => exact (.cons ⟨_, rfl⟩ (.cons ⟨_, rfl⟩ (.cons ⟨_, rfl⟩ .nil))))))
                case t108 =>
                  refine' PySem.Paired.cons ?h110 ?t110
                  (case h110 => (refine' Nf.row_mk rfl ?l111 ?z111 ?v111; (case l111 => k_is); (case z111 => decide); (case v111 => exact (.cons ⟨_, rfl⟩ (.cons ⟨_, rfl⟩ (.cons ⟨_, rfl⟩ (.cons ⟨_, rfl⟩ .nil)))))))
                  case t110 =>
                    refine' PySem.Paired.cons ?h112 ?t112
                    (case h112 => (refine' Nf.row_mk rfl ?l113 ?z113 ?v113; (case l113 => k_is); (case z113 => decide); (case v113 => exact (.cons ⟨_, rfl⟩ (.cons ⟨_, rfl⟩ (.cons ⟨_, rfl⟩ (.cons ⟨_, rfl⟩ .nil)))))))
                    case t112 =>
                      refine' PySem.Paired.cons ?h114 ?t114
                      (case h114 => (refine' Nf.row_mk rfl ?l115 ?z115 ?v115; (case l115 => k_is); (case z115 => decide); (case v115 => exact (.cons ⟨_, rfl⟩ (.cons ⟨_, rfl⟩ (.cons ⟨_, rfl⟩ (.cons ⟨_, rfl⟩ .nil)))))))
                      case t114 =>
                        refine' PySem.Paired.cons ?h116 ?t116
                        (case h116 => (refine' Nf.row_mk rfl ?l117 ?z117 ?v117; (case l117 => k_is); (case z117 => decide); (case v117 => exact (.cons ⟨_, rfl⟩ (.cons ⟨_, rfl⟩ (.cons ⟨_, rfl⟩ (.cons ⟨_, rfl⟩ .nil)))))))
                        case t116 =>
                          refine' PySem.Paired.cons ?h118 ?t118
                          (case h118 => (refine' Nf.row_mk rfl ?l119 ?z119 ?v119; (case l119 => k_is); (case z119 => decide); (case v119 => exact (.cons ⟨_, rfl⟩ (.cons ⟨_, rfl⟩ (.cons ⟨_, rfl⟩ (.cons ⟨_, rfl⟩ .nil)))))))
                          case t118 =>
                            exact PySem.Paired.nil
    case g7 =>
      refine' Nf.gdp_mk ?a120 ?l120 ?z120 ?v120
      (case a120 => k_is)
      (case l120 => k_is)
      (case z120 => rfl)
      case v120 =>
        refine' PySem.Paired.cons (Nf.ent_tt rfl rfl rfl ?h121) ?t121
        case h121 =>
          refine' Nf.tt_mk ?l122 ?z122 ?v122
          (case l122 => k_is)
          (case z122 => decide)
          case v122 =>
            refine' PySem.Paired.cons ?h123 ?t123
            (case h123 => (refine' Nf.row_mk rfl ?l124 ?z124 ?v124; (case l124 => k_is); (case z124 => decide); (case v124 => exact .nil)))
            case t123 =>
              refine' PySem.Paired.cons ?h125 ?t125
              (case h125 => (refine' Nf.row_mk rfl ?l126 ?z126 ?v126; (case l126 => k_is); (case z126 => decide); (case v126 => exact (.cons ⟨_, rfl⟩ .nil))))
              case t125 =>
                refine' PySem.Paired.cons ?h127 ?t127
                (case h127 => (refine' Nf.row_mk rfl ?l128 ?z128 ?v128; (case l128 => k_is); (case z128 => decide); (case v128 => exact (.cons ⟨_, rfl⟩ (.cons ⟨_, rfl⟩ .nil)))))
                case t127 =>
                  exact PySem.Paired.nil
        case t121 =>
          refine' PySem.Paired.cons (Nf.ent_tt rfl rfl rfl ?h129) ?t129
          case h129 =>
            refine' Nf.tt_mk ?l130 ?z130 ?v130
            (case l130 => k_is)
            (case z130 => decide)
            case v130 =>
              refine' PySem.Paired.cons ?h131 ?t131
              (case h131 => (refine' Nf.row_mk rfl ?l132 ?z132 ?v132; (case l132 => k_is); (case z132 => decide); (case v132 => exact (.cons ⟨_, rfl⟩ .nil))))
              case t131 =>
                refine' PySem.Paired.cons ?h133 ?t133
                (case h133 => (refine' Nf.row_mk rfl ?l134 ?z134 ?v134; (case l134 => k_is); (case z134 => decide); (case v134 => exact (.cons ⟨_, rfl⟩ (.cons ⟨_, rfl⟩ .nil)))))
                case t133 =>
                  refine' PySem.Paired.cons ?h135 ?t135
                  (case h135 => (refine' Nf.row_mk rfl ?l136 ?z136 ?v136; (case l136 => k_is); (case z136 => decide); (case v136 => exact (.cons ⟨_, rfl⟩ (.cons ⟨_, rfl⟩ .nil)))))
                  case t135 =>
                    refine' PySem.Paired.cons ?h137 ?t137
                    (case h137 => (refine' Nf.row_mk rfl ?l138 ?z138 ?v138; (case l138 => k_is); (case z138 => decide); (case v138 => exact (.cons ⟨_, rfl⟩ .nil))))
                    case t137 =>
                      exact PySem.Paired.nil
          case t129 =>
            exact PySem.Paired.nil
    case g8 =>
      refine' Nf.gdp_mk ?a139 ?l139 ?z139 ?v139
      (case a139 => k_is)
      (case l139 => k_is)
      (case z139 => rfl)
      case v139 =>
        refine' PySem.Paired.cons (Nf.ent_ti rfl rfl rfl ?l140 ?z140 ?v140) ?t140
        (case l140 => k_is)
        (case z140 => decide)
        (case v140 => exact (.cons ⟨_, rfl⟩ .nil))
        case t140 =>
          refine' PySem.Paired.cons (Nf.ent_ti rfl rfl rfl ?l141 ?z141 ?v141) ?t141
          (case l141 => k_is)
          (case z141 => decide)
          (case v141 => exact (.cons ⟨_, rfl⟩ .nil))
          case t141 =>
            refine' PySem.Paired.cons (Nf.ent_ti rfl rfl rfl ?l142 ?z142 ?v142) ?t142
            (case l142 => k_is)
            (case z142 => decide)
            (case v142 => exact (.cons ⟨_, rfl⟩ .nil))
            case t142 =>
              refine' PySem.Paired.cons (Nf.ent_ti rfl rfl rfl ?l143 ?z143 ?v143) ?t143
              (case l143 => k_is)
              (case z143 => decide)
              (case v143 => exact (.cons ⟨_, rfl⟩ .nil))
              case t143 =>
                refine' PySem.Paired.cons (Nf.ent_ti rfl rfl rfl ?l144 ?z144 ?v144) ?t144
                (case l144 => k_is)
                (case z144 => decide)
                (case v144 => exact (.cons ⟨_, rfl⟩ .nil))
                case t144 =>
                  refine' PySem.Paired.cons (Nf.ent_ti rfl rfl rfl ?l145 ?z145 ?v145) ?t145
                  (case l145 => k_is)
                  (case z145 => decide)
                  (case v145 => exact (.cons ⟨_, rfl⟩ (.cons ⟨_, rfl⟩ (.cons ⟨_, rfl⟩ (.cons ⟨_, rfl⟩ (.cons ⟨_, rfl⟩ (.cons ⟨_, rfl⟩ (.cons ⟨_, rfl⟩ .nil))))))))
                  case t145 =>
                    refine' PySem.Paired.cons (Nf.ent_ti rfl rfl rfl ?l146 ?z146 ?v146) ?t146
                    (case l146 => k_is)
                    (case z146 => decide)
                    (case v146 => exact (.cons ⟨_, rfl⟩ (.cons ⟨_, rfl⟩ (.cons ⟨_, rfl⟩ (.cons ⟨_, rfl⟩ (.cons ⟨_, rfl⟩ (.cons ⟨_, rfl⟩ (.cons ⟨_, rfl⟩ (.cons ⟨_, rfl⟩ .nil)))))))))
                    case t146 =>
                      refine' PySem.Paired.cons (Nf.ent_ti rfl rfl rfl ?l147 ?z147 ?v147) ?t147
                      (case l147 => k_is)
                      (case z147 => decide)
                      (case v147 => exact (.cons ⟨_, rfl⟩ .nil))
                      case t147 =>
                        refine' PySem.Paired.cons (Nf.ent_ti rfl rfl rfl ?l148 ?z148 ?v148) ?t148
                        (case l148 => k_is)
                        (case z148 => decide)
                        (case v148 => exact (.cons ⟨_, rfl⟩ (.cons ⟨_, rfl⟩ (.cons ⟨_, rfl⟩ (.cons ⟨_, rfl⟩ (.cons ⟨_, rfl⟩ (.cons ⟨_, rfl⟩ (.cons ⟨_, rfl⟩ (.cons ⟨_, rfl⟩ (.cons ⟨_, rfl⟩ .nil))))))))))
                        case t148 =>
                          exact PySem.Paired.nil
    (case z1 => k_is)
    (case z2 => k_is)
    (case z3 => k_is)
    (case z4 => k_is)
    (case z5 => k_is)
    (case z6 => k_is)
  case S =>
    intro K H xs a hO hwi hask hx
    cases hx with
    | cons h1 h2 =>
      cases h2
      cases h1 with
      | lst hs ha =>
        have e := L2.ints_dw a.1 _ ha
        subst e
        obtain ⟨cs, e1, e2, ok, hlen⟩ := Nb.asked_inv (l := a.1) hask
        rw [e1] at hs
        refine ⟨_, cs, rfl, hs, ok, hlen, fun H' p hp => ?_⟩
        have q : L2.Dw K H' (.ref p) (WData.list ((PyCp01.answers a.1).map WData.int)) := by
          rw [e2]
          exact .lst (L2.SqL.of hp) (L2.dw_ints _)
        exact q


