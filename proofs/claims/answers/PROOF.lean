import PyProof.Rows.All
import Wide.All
import OpenK.AllK
import Wide.FinOn
import Open.SpecLaws
import KE.OsGo
import HandS.ForSpec
import HandS.Deep
import HandS.Comp
import HandS.Iter
import HandS.Walk
import HandS.Conv
import PySem.Challenge.RW_rehearsalday_s01_answers
/-! The calls of a request, as the specification reads them: one list of the document's calls. -/
namespace Rd
open Uw03
def natsI (l : List Nat) : List Int := l.map fun (x : Nat) => (x : Int)
def enc : Call → List Int
  | .begins => [0]
  | .player p => [1, (p.rate : Int), (p.from_ : Int), (p.till : Int)]
  | .piece n l => 2 :: (n : Int) :: (l.length : Int) :: natsI l
  | .ahead i j => [3, (i : Int), (j : Int)]
  | .best => [4]
  | .check o => 5 :: (o.length : Int) :: natsI o
  | .work => [6]
/-- what the interface lets be handed in, of one call -/
def okCall : Call → Prop
  | .piece _ l => l.length ≤ 20
  | .check o => o.length ≤ 20
  | _ => True
/-- the answers, call by call -/
def run : Day → List Call → List Int
  | _, [] => []
  | d, c :: r => ((Uw03Neutral.out (step d c).2).length : Int) :: (Uw03Neutral.out (step d c).2 ++ run (step d c).1 r)
theorem natsI_toNat : ∀ (l : List Int), l.all Uw03Neutral.nat = true → natsI (l.map Int.toNat) = l
  | [], _ => rfl
  | x :: l, h => by
    rw [List.all_cons, Bool.and_eq_true] at h
    have e : ((x.toNat : Nat) : Int) = x := by
      have h1 := h.1
      unfold Uw03Neutral.nat at h1
      rw [Bool.and_eq_true, decide_eq_true_eq] at h1
      omega
    show ((x.toNat : Nat) : Int) :: natsI (l.map Int.toNat) = x :: l
    rw [e, natsI_toNat l h.2]
theorem callOf_some {l : List Int} {x : Call} (h : Uw03Neutral.callOf l = some x) : l = enc x ∧ okCall x := by
  unfold Uw03Neutral.callOf at h
  split at h
  · cases h
  · rename_i hn
    have hall : l.all Uw03Neutral.nat = true := by
      cases e : l.all Uw03Neutral.nat
      · exact absurd e hn
      · rfl
    have e := natsI_toNat l hall
    generalize l.map Int.toNat = m at h e
    subst e
    have li : ∀ {a b : List Nat}, Uw03Neutral.listIn a = some b → a = b.length :: b ∧ b.length ≤ 20 := by
      intro a b hab
      unfold Uw03Neutral.listIn at hab
      split at hab
      · split at hab
        · rename_i n t hc
          cases hab
          exact ⟨by rw [hc.2], by omega⟩
        · cases hab
      · cases hab
    unfold Uw03Neutral.callIn at h
    split at h
    · cases h; exact ⟨rfl, trivial⟩
    · cases h; exact ⟨rfl, trivial⟩
    · rename_i n t
      cases e : Uw03Neutral.listIn t with
      | none => rw [e] at h; cases h
      | some b =>
        rw [e] at h
        cases h
        obtain ⟨rfl, h2⟩ := li e
        exact ⟨rfl, h2⟩
    · cases h; exact ⟨rfl, trivial⟩
    · cases h; exact ⟨rfl, trivial⟩
    · rename_i t
      cases e : Uw03Neutral.listIn t with
      | none => rw [e] at h; cases h
      | some b =>
        rw [e] at h
        cases h
        obtain ⟨rfl, h2⟩ := li e
        exact ⟨rfl, h2⟩
    · cases h; exact ⟨rfl, trivial⟩
    · cases h
/-- one call of the request, and what is behind it -/
theorem call_whole {ns t : List Int} {c : List (List Int)} (h : PyFlat.call PyUw03.shape ns = some (c, t)) : ns = (PyUw03.whole c).headD [] ++ t := by
  cases ns with
  | nil => cases h
  | cons p r =>
    have row1 : ∀ {a x s : List Int}, PyFlat.row a = some (x, s) → a = (x.length : Int) :: x ++ s := by
      intro a x s hr
      unfold PyFlat.row at hr
      split at hr
      · cases hr
      · split at hr
        · rename_i n q hc
          cases hr
          have e : ((q.take n.toNat).length : Int) = n := by rw [List.length_take]; omega
          rw [e, List.cons_append, List.take_append_drop]
        · cases hr
    have rows1 : ∀ {a s : List Int} {xs : List (List Int)}, PyFlat.rows 1 a = some (xs, s) → ∃ x, xs = [x] ∧ a = (x.length : Int) :: x ++ s := by
      intro a s xs hr
      unfold PyFlat.rows at hr
      cases e : PyFlat.row a with
      | none => rw [e] at hr; cases hr
      | some z =>
        obtain ⟨x, s'⟩ := z
        rw [e] at hr
        have hr2 : some ([x], s') = some (xs, s) := hr
        cases hr2
        exact ⟨x, rfl, row1 e⟩
    unfold PyFlat.call at h
    by_cases h0 : p = 0
    · subst h0
      have h' : (if r.length < 0 then none else some ([(0 : Int) :: r.take 0], r.drop 0)) = some (c, t) := h
      rw [if_neg (by omega)] at h'
      cases h'
      rfl
    by_cases h1 : p = 1
    · subst h1
      have h' : (if r.length < 3 then none else some ([(1 : Int) :: r.take 3], r.drop 3)) = some (c, t) := h
      split at h'
      · cases h'
      · rename_i hl
        match r, hl with
        | x :: y :: z :: w, _ => cases h'; rfl
        | [], hl => exact absurd (by decide) hl
        | [_], hl => exact absurd (by simp) hl
        | [_, _], hl => exact absurd (by simp) hl
    by_cases h2 : p = 2
    · subst h2
      have h' : (if r.length < 1 then none else match PyFlat.rows 1 (r.drop 1) with
        | none => none
        | some (xs, t) => some (((2 : Int) :: r.take 1) :: xs, t)) = some (c, t) := h
      split at h'
      · cases h'
      · rename_i hl
        match r, hl with
        | x :: w, _ =>
          cases e : PyFlat.rows 1 w with
          | none =>
            have e' : PyFlat.rows 1 ((x :: w).drop 1) = none := e
            rw [e'] at h'; cases h'
          | some z =>
            obtain ⟨xs, s⟩ := z
            have e' : PyFlat.rows 1 ((x :: w).drop 1) = some (xs, s) := e
            rw [e'] at h'
            obtain ⟨y, rfl, e2⟩ := rows1 e
            cases h'
            rw [e2]
            rfl
        | [], hl => exact absurd (by decide) hl
    by_cases h3 : p = 3
    · subst h3
      have h' : (if r.length < 2 then none else some ([(3 : Int) :: r.take 2], r.drop 2)) = some (c, t) := h
      split at h'
      · cases h'
      · rename_i hl
        match r, hl with
        | x :: y :: w, _ => cases h'; rfl
        | [], hl => exact absurd (by decide) hl
        | [_], hl => exact absurd (by simp) hl
    by_cases h4 : p = 4
    · subst h4
      have h' : (if r.length < 0 then none else some ([(4 : Int) :: r.take 0], r.drop 0)) = some (c, t) := h
      rw [if_neg (by omega)] at h'
      cases h'
      rfl
    by_cases h5 : p = 5
    · subst h5
      have h' : (if r.length < 0 then none else match PyFlat.rows 1 (r.drop 0) with
        | none => none
        | some (xs, t) => some (((5 : Int) :: r.take 0) :: xs, t)) = some (c, t) := h
      rw [if_neg (by omega)] at h'
      cases e : PyFlat.rows 1 r with
      | none =>
        have e' : PyFlat.rows 1 (r.drop 0) = none := e
        rw [e'] at h'; cases h'
      | some z =>
        obtain ⟨xs, s⟩ := z
        have e' : PyFlat.rows 1 (r.drop 0) = some (xs, s) := e
        rw [e'] at h'
        obtain ⟨y, rfl, e2⟩ := rows1 e
        cases h'
        rw [e2]
        rfl
    by_cases h6 : p = 6
    · subst h6
      have h' : (if r.length < 0 then none else some ([(6 : Int) :: r.take 0], r.drop 0)) = some (c, t) := h
      rw [if_neg (by omega)] at h'
      cases h'
      rfl
    · have hs : PyUw03.shape p = none := by
        unfold PyUw03.shape
        rw [if_neg h0, if_neg h1, if_neg h2, if_neg h3, if_neg h4, if_neg h5, if_neg h6]
      dsimp only at h
      rw [hs] at h
      cases h
theorem calls_read : ∀ (f : Nat) (ns : List Int) (raw : List (List (List Int))), PyFlat.calls PyUw03.shape f ns = some raw →
    (((raw.map PyUw03.whole).map fun c => c.headD []).all Uw03Neutral.asked1) = true →
    ∃ cs : List Call, ns = cs.flatMap enc ∧ (∀ c ∈ cs, okCall c) ∧ cs.length = raw.length ∧
      ∀ d, PyFlat.told (PyFlat.played (fun s c => Uw03Neutral.step s (c.headD [])) d (raw.map PyUw03.whole)) = run d cs ∧
        (run d cs).length = Uw03Neutral.many d ((raw.map PyUw03.whole).map fun c => c.headD []) + cs.length
  | f, [], raw, h, _ => by
    have h' : some [] = some raw := by cases f <;> exact h
    cases h'
    exact ⟨[], rfl, by simp, rfl, fun _ => ⟨rfl, rfl⟩⟩
  | 0, p :: r, raw, h, _ => by cases h
  | f + 1, p :: r, raw, h, ha => by
    unfold PyFlat.calls at h
    cases e : PyFlat.call PyUw03.shape (p :: r) with
    | none => rw [e] at h; cases h
    | some z =>
      obtain ⟨c, t⟩ := z
      rw [e] at h
      cases e2 : PyFlat.calls PyUw03.shape f t with
      | none =>
        have h' : (match PyFlat.calls PyUw03.shape f t with
          | none => none
          | some cs => some (c :: cs)) = some raw := h
        rw [e2] at h'; cases h'
      | some rs =>
        have h' : (match PyFlat.calls PyUw03.shape f t with
          | none => none
          | some cs => some (c :: cs)) = some raw := h
        rw [e2] at h'
        cases h'
        have ha' : (Uw03Neutral.asked1 ((PyUw03.whole c).headD []) && (((rs.map PyUw03.whole).map fun c => c.headD []).all Uw03Neutral.asked1)) = true := ha
        rw [Bool.and_eq_true] at ha'
        obtain ⟨cs, e3, ok, len, pl⟩ := calls_read f t rs e2 ha'.2
        obtain ⟨x, hx⟩ := Option.isSome_iff_exists.mp (show (Uw03Neutral.callOf ((PyUw03.whole c).headD [])).isSome = true from ha'.1)
        obtain ⟨ex, okx⟩ := callOf_some hx
        refine ⟨x :: cs, ?_, ?_, ?_, fun d => ?_⟩
        · rw [call_whole e, ex, List.flatMap_cons, ← e3]
        · intro c hc
          rcases List.mem_cons.mp hc with rfl | hc
          · exact okx
          · exact ok c hc
        · simp [len]
        · have es : Uw03Neutral.step d ((PyUw03.whole c).headD []) = ((step d x).1, Uw03Neutral.out (step d x).2) := by
            unfold Uw03Neutral.step
            rw [hx]
          refine ⟨?_, ?_⟩
          · show (((Uw03Neutral.step d ((PyUw03.whole c).headD [])).2.length : Int) :: (Uw03Neutral.step d ((PyUw03.whole c).headD [])).2) ++ PyFlat.told (PyFlat.played (fun s c => Uw03Neutral.step s (c.headD [])) (Uw03Neutral.step d ((PyUw03.whole c).headD [])).1 (rs.map PyUw03.whole)) = _
            rw [es, (pl _).1]
            rfl
          · show (((Uw03Neutral.out (step d x).2).length : Int) :: (Uw03Neutral.out (step d x).2 ++ run (step d x).1 cs)).length = (Uw03Neutral.step d ((PyUw03.whole c).headD [])).2.length + Uw03Neutral.many (Uw03Neutral.step d ((PyUw03.whole c).headD [])).1 ((rs.map PyUw03.whole).map fun c => c.headD []) + (x :: cs).length
            rw [es, List.length_cons, List.length_append, (pl _).2, List.length_cons]
            dsimp only
            omega
/-- **What is asked, read**: the calls, and what is due. -/
theorem asked_read {ns : List Int} (h : PyUw03.answers_asked ns = true) : ∃ cs : List Call, ns = cs.flatMap enc ∧ (∀ c ∈ cs, okCall c) ∧ cs.length ≤ 40 ∧ PyUw03.answers ns = run init cs ∧ (run init cs).length ≤ 1000040 := by
  unfold PyUw03.answers_asked at h
  cases e : PyFlat.calls PyUw03.shape ns.length ns with
  | none => rw [e] at h; cases h
  | some raw =>
    rw [e] at h
    have h' : (!raw.isEmpty && PyFlat.atMost 40 raw && PyInside.calls PyUw03.bound raw && Uw03Neutral.asked ((raw.map PyUw03.whole).map fun c => c.headD [])) = true := h
    rw [Bool.and_eq_true, Bool.and_eq_true, Bool.and_eq_true] at h'
    obtain ⟨⟨⟨_, h2⟩, _⟩, h4⟩ := h'
    have h2' : raw.length ≤ 40 := of_decide_eq_true h2
    unfold Uw03Neutral.asked at h4
    rw [Bool.and_eq_true] at h4
    obtain ⟨cs, e1, ok, len, pl⟩ := calls_read _ _ _ e h4.1
    rw [Bool.and_eq_true, Bool.and_eq_true] at h4
    have h5 : Uw03Neutral.many Uw03Neutral.start ((raw.map PyUw03.whole).map fun c => c.headD []) ≤ 1000000 := of_decide_eq_true h4.2.2.2
    refine ⟨cs, e1, ok, by omega, ?_, ?_⟩
    · unfold PyUw03.answers PyUw03.calls
      rw [e]
      exact (pl init).1
    · rw [(pl init).2]
      have h6 : Uw03Neutral.many init ((raw.map PyUw03.whole).map fun c => c.headD []) ≤ 1000000 := h5
      omega
end Rd

/-! The specification's day, place by place: what one more piece at an order's end changes; orders by their beginnings. -/
namespace Rd
open Uw03
theorem foldl_total : ∀ (l : List Nat) (a : Nat), l.foldl (fun a b => a + b) a = a + total l
  | [], a => rfl
  | x :: l, a => by
    show l.foldl (fun a b => a + b) (a + x) = a + l.foldl (fun a b => a + b) (0 + x)
    rw [foldl_total l (a + x), foldl_total l (0 + x)]
    omega
theorem total_append (l m : List Nat) : total (l ++ m) = total l + total m := by
  unfold total
  rw [List.foldl_append, foldl_total m]
  rfl
theorem total_cons (x : Nat) (l : List Nat) : total (x :: l) = x + total l := by
  show l.foldl (fun a b => a + b) (0 + x) = x + total l
  rw [foldl_total]
  omega
theorem total_snoc (l : List Nat) (x : Nat) : total (l ++ [x]) = total l + x := by
  rw [total_append, total_cons]
  rfl
theorem total_le {l : List Nat} {b : Nat} (h : ∀ x ∈ l, x ≤ b) : total l ≤ l.length * b := by
  induction l with
  | nil => exact Nat.zero_le _
  | cons x l ih =>
    rw [total_cons, List.length_cons, Nat.add_mul]
    have h1 := h x (List.mem_cons_self ..)
    have h2 := ih fun y hy => h y (List.mem_cons_of_mem _ hy)
    omega
/-- how long an order is -/
def span (d : Day) (o : Order) : Nat := total (o.map d.long)
theorem span_snoc (d : Day) (o : Order) (p : Nat) : span d (o ++ [p]) = span d o + d.long p := by
  unfold span
  rw [List.map_append]
  exact total_snoc _ _
theorem begin_all (d : Day) (o : Order) : d.begin_ o o.length = span d o := by
  unfold Day.begin_ span
  rw [List.take_length]
theorem begin_old (d : Day) (o : Order) (p : Nat) {k : Nat} (h : k ≤ o.length) : d.begin_ (o ++ [p]) k = d.begin_ o k := by
  unfold Day.begin_
  rw [List.take_append_of_le_length h]
theorem getD_old (o : Order) (p : Nat) {k : Nat} (h : k < o.length) : (o ++ [p]).getD k 0 = o.getD k 0 := by
  rw [List.getD_eq_getElem?_getD, List.getD_eq_getElem?_getD, List.getElem?_append_left h]
theorem getD_new (o : Order) (p : Nat) : (o ++ [p]).getD o.length 0 = p := by
  rw [List.getD_eq_getElem?_getD, List.getElem?_append_right (Nat.le_refl _)]
  simp
theorem places_lt {d : Day} {o : Order} {a k : Nat} (h : k ∈ d.places o a) : k < o.length := by
  unfold Day.places at h
  exact List.mem_range.mp (List.mem_filter.mp h).1
theorem places_snoc (d : Day) (o : Order) (p a : Nat) : d.places (o ++ [p]) a = d.places o a ++ (if d.has p a = true then [o.length] else []) := by
  unfold Day.places
  rw [List.length_append, List.length_singleton, List.range_succ, List.filter_append]
  congr 1
  · apply List.filter_congr
    intro k hk
    rw [getD_old o p (List.mem_range.mp hk)]
  · rw [List.filter_cons, getD_new]
    rfl
/-- how long a player is in pieces -/
def worked (d : Day) (o : Order) (a : Nat) : Nat := total ((d.places o a).map fun k => d.long (o.getD k 0))
theorem worked_snoc (d : Day) (o : Order) (p a : Nat) : worked d (o ++ [p]) a = worked d o a + (if d.has p a = true then d.long p else 0) := by
  unfold worked
  rw [places_snoc, List.map_append, total_append]
  congr 1
  · congr 1
    apply List.map_congr_left
    intro k hk
    rw [getD_old o p (places_lt hk)]
  · split
    · show total [d.long ((o ++ [p]).getD o.length 0)] = _
      rw [getD_new, total_cons]
      rfl
    · rfl
theorem stays_eq (d : Day) (o : Order) (a : Nat) : d.stays o a = match (d.places o a).head?, (d.places o a).getLast? with
  | some k, some l => some (d.begin_ o k, d.begin_ o (l + 1))
  | _, _ => none := rfl
theorem stays_none {d : Day} {o : Order} {a : Nat} (h : d.places o a = []) : d.stays o a = none := by
  rw [stays_eq, h]
  rfl
theorem stays_some {d : Day} {o : Order} {a k l : Nat} (h1 : (d.places o a).head? = some k) (h2 : (d.places o a).getLast? = some l) : d.stays o a = some (d.begin_ o k, d.begin_ o (l + 1)) := by
  rw [stays_eq, h1, h2]
/-- **one more piece at the end**: when a player comes and goes -/
theorem stays_snoc (d : Day) (o : Order) (p a : Nat) : d.stays (o ++ [p]) a = if d.has p a = true then some (((d.stays o a).map fun x => x.1).getD (span d o), span d o + d.long p) else d.stays o a := by
  have e0 : d.begin_ (o ++ [p]) (o.length + 1) = span d o + d.long p := by
    have h := begin_all d (o ++ [p])
    rw [List.length_append, List.length_singleton] at h
    rw [h, span_snoc]
  cases hp : d.places o a with
  | nil =>
    rw [stays_none hp]
    split
    · rename_i hh
      have e : d.places (o ++ [p]) a = [o.length] := by rw [places_snoc, hp, if_pos hh]; rfl
      rw [stays_some (k := o.length) (l := o.length) (by rw [e]; rfl) (by rw [e]; rfl), e0, begin_old d o p (Nat.le_refl _), begin_all]
      rfl
    · rename_i hh
      exact stays_none (by rw [places_snoc, hp, if_neg hh]; rfl)
  | cons k r =>
    have hk : k < o.length := places_lt (a := a) (by rw [hp]; exact List.mem_cons_self ..)
    obtain ⟨l, hl⟩ : ∃ l, (d.places o a).getLast? = some l := by
      rw [hp]
      exact ⟨_, List.getLast?_eq_some_getLast (List.cons_ne_nil k r)⟩
    have hlt : l < o.length := places_lt (a := a) (List.mem_of_getLast? hl)
    have hh : (d.places o a).head? = some k := by rw [hp]; rfl
    have es := stays_some hh hl
    split
    · rename_i hc
      have e : d.places (o ++ [p]) a = d.places o a ++ [o.length] := by rw [places_snoc, if_pos hc]
      rw [stays_some (k := k) (l := o.length) (by rw [e, hp]; rfl) (by rw [e, List.getLast?_append]; rfl), e0, begin_old d o p (Nat.le_of_lt hk), es]
      rfl
    · rename_i hc
      have e : d.places (o ++ [p]) a = d.places o a := by rw [places_snoc, if_neg hc, List.append_nil]
      rw [stays_some (k := k) (l := l) (by rw [e]; exact hh) (by rw [e]; exact hl), begin_old d o p (Nat.le_of_lt hk), begin_old d o p hlt, es]
theorem stays_nil (d : Day) (a : Nat) : d.stays [] a = none := rfl
theorem waits_eq (d : Day) (o : Order) (a : Nat) : d.waits o a = match d.stays o a with
  | some x => x.2 - x.1 - worked d o a
  | none => 0 := rfl
/-- a player goes by the end -/
theorem stays_le (d : Day) (a : Nat) : ∀ {o : Order} {x : Nat × Nat}, d.stays o a = some x → x.1 ≤ x.2 ∧ x.2 ≤ span d o ∧ worked d o a ≤ x.2 - x.1 := by
  have key : ∀ (n : Nat) (o : Order), o.length = n → (∀ x, d.stays o a = some x → x.1 ≤ x.2 ∧ x.2 ≤ span d o ∧ worked d o a ≤ x.2 - x.1) ∧ (d.stays o a = none → worked d o a = 0) := by
    intro n
    induction n with
    | zero =>
      intro o h
      have e : o = [] := List.length_eq_zero_iff.mp h
      subst e
      exact ⟨fun x hx => (by cases hx), fun _ => rfl⟩
    | succ n ih =>
      intro o h
      have hne : o ≠ [] := fun e => by rw [e] at h; cases h
      have e := List.dropLast_concat_getLast hne
      generalize o.getLast hne = p at e
      have hl : o.dropLast.length = n := by rw [List.length_dropLast, h]; rfl
      generalize o.dropLast = q at e hl
      subst e
      obtain ⟨i1, i2⟩ := ih q hl
      rw [stays_snoc, span_snoc, worked_snoc]
      by_cases hh : d.has p a = true
      · rw [if_pos hh, if_pos hh]
        refine ⟨fun x hx => ?_, fun z => by cases z⟩
        cases hs : d.stays q a with
        | none =>
          rw [hs] at hx
          cases hx
          have := i2 hs
          refine ⟨?_, Nat.le_refl _, ?_⟩ <;> simp <;> omega
        | some y =>
          rw [hs] at hx
          cases hx
          obtain ⟨j1, j2, j3⟩ := i1 y hs
          refine ⟨?_, Nat.le_refl _, ?_⟩ <;> simp <;> omega
      · rw [if_neg hh, if_neg hh]
        refine ⟨fun x hx => ?_, fun hx => i2 hx⟩
        obtain ⟨j1, j2, j3⟩ := i1 x hx
        exact ⟨j1, by omega, by omega⟩
  intro o x hx
  exact (key o.length o rfl).1 x hx
/-! ### orders by their beginnings -/
theorem others_filter (k : Nat) : ∀ (l : List Nat), l.Nodup → others k l = l.filter fun x => !decide (x = k)
  | [], _ => rfl
  | x :: l, h => by
    rw [List.nodup_cons] at h
    unfold others
    by_cases e : x = k
    · subst e
      rw [if_pos rfl, List.filter_cons, if_neg (by simp)]
      symm
      rw [List.filter_eq_self]
      intro y hy
      have : y ≠ x := fun e => h.1 (e ▸ hy)
      simp [this]
    · rw [if_neg e, List.filter_cons, if_pos (by simp [e]), others_filter k l h.2]
/-- what an order's beginning leaves, in order -/
def left (n : Nat) (pre : Order) : List Nat := (List.range n).filter fun k => !pre.contains k
theorem left_nodup (n : Nat) (pre : Order) : (left n pre).Nodup := List.Nodup.sublist List.filter_sublist List.nodup_range
theorem left_nil (n : Nat) : left n [] = List.range n := by
  unfold left
  rw [List.filter_eq_self]
  intro a _
  rfl
theorem mem_left {n : Nat} {pre : Order} {k : Nat} : k ∈ left n pre ↔ k < n ∧ k ∉ pre := by
  unfold left
  rw [List.mem_filter, List.mem_range]
  simp
theorem others_left {n : Nat} {pre : Order} (k : Nat) : others k (left n pre) = left n (pre ++ [k]) := by
  rw [others_filter k _ (left_nodup n pre)]
  unfold left
  rw [List.filter_filter]
  apply List.filter_congr
  intro x _
  by_cases e : x = k <;> by_cases h : x ∈ pre <;> simp [e, h]
theorem left_length {n : Nat} : ∀ {pre : Order}, pre.Nodup → (∀ k ∈ pre, k < n) → (left n pre).length + pre.length = n := by
  have key : ∀ (m : Nat) (pre : Order), pre.length = m → pre.Nodup → (∀ k ∈ pre, k < n) → (left n pre).length + pre.length = n := by
    intro m
    induction m with
    | zero =>
      intro pre h _ _
      have e : pre = [] := List.length_eq_zero_iff.mp h
      subst e
      rw [left_nil, List.length_range]
      rfl
    | succ m ih =>
      intro pre h nd hb
      have hne : pre ≠ [] := fun e => by rw [e] at h; cases h
      have e := List.dropLast_concat_getLast hne
      generalize pre.getLast hne = p at e
      have hl : pre.dropLast.length = m := by rw [List.length_dropLast, h]; rfl
      generalize pre.dropLast = q at e hl
      subst e
      rw [List.nodup_append] at nd
      have hp : p ∉ q := fun hq => nd.2.2 p hq p (List.mem_singleton.mpr rfl) rfl
      have hpn : p < n := hb p (List.mem_append.mpr (.inr (List.mem_singleton.mpr rfl)))
      have i := ih q hl nd.1 fun k hk => hb k (List.mem_append.mpr (.inl hk))
      have hm : p ∈ left n q := mem_left.mpr ⟨hpn, hp⟩
      have ol : ∀ (l : List Nat), p ∈ l → (others p l).length + 1 = l.length := by
        intro l
        induction l with
        | nil => intro h; cases h
        | cons x l ih2 =>
          intro h
          unfold others
          by_cases e : x = p
          · rw [if_pos e]; rfl
          · rw [if_neg e, List.length_cons, List.length_cons, ih2 ((List.mem_cons.mp h).resolve_left fun z => e z.symm)]
      have h1 := ol _ hm
      rw [others_left] at h1
      rw [List.length_append, List.length_singleton]
      omega
  intro pre nd hb
  exact key pre.length pre rfl nd hb
/-- all orders that begin so, in order -/
def exts (n f : Nat) (pre : Order) : List Order := (orders f (left n pre)).map fun r => pre ++ r
theorem exts_end {n f : Nat} {pre : Order} (h : left n pre = []) : exts n f pre = [pre] := by
  unfold exts
  rw [h]
  cases f <;> simp [orders]
theorem exts_more {n f : Nat} {pre : Order} : exts n (f + 1) pre = if left n pre = [] then [pre] else (left n pre).flatMap fun k => exts n f (pre ++ [k]) := by
  split
  · rename_i h
    exact exts_end h
  · rename_i h
    unfold exts
    cases hl : left n pre with
    | nil => exact absurd hl h
    | cons x l =>
      have e : orders (f + 1) (left n pre) = (left n pre).flatMap fun k => (orders f (others k (left n pre))).map fun r => k :: r := by
        rw [hl]
        rfl
      rw [← hl, e, List.map_flatMap]
      congr 1
      funext k
      rw [List.map_map, others_left]
      apply List.map_congr_left
      intro r _
      simp
theorem orders_exts (n : Nat) : orders n (List.range n) = exts n n [] := by
  unfold exts
  rw [left_nil]
  simp
/-- each piece once -/
theorem perm_of_all : ∀ {l m : List Nat}, l.Nodup → (∀ x ∈ l, x ∈ m) → m.length ≤ l.length → l.Perm m
  | [], m, _, _, h => by
    have e : m = [] := List.length_eq_zero_iff.mp (Nat.le_zero.mp h)
    subst e
    exact List.Perm.refl _
  | x :: l, m, nd, hs, h => by
    rw [List.nodup_cons] at nd
    obtain ⟨s, t, rfl⟩ := List.append_of_mem (hs x (List.mem_cons_self ..))
    have p1 : (s ++ x :: t).Perm (x :: (s ++ t)) := List.perm_middle
    refine (List.Perm.cons x (perm_of_all nd.2 ?_ ?_)).trans p1.symm
    · intro y hy
      have := hs y (List.mem_cons_of_mem _ hy)
      rw [List.mem_append, List.mem_cons] at this
      rw [List.mem_append]
      rcases this with h | rfl | h
      · exact .inl h
      · exact absurd hy nd.1
      · exact .inr h
    · simp at h ⊢
      omega
theorem each_once {n : Nat} {o : Order} : (o.length ≠ n ∨ (List.range n).all (fun i => o.contains i) = false) ↔ ¬ (List.range n).Perm o := by
  constructor
  · rintro (h | h) p
    · exact h (by rw [← p.length_eq, List.length_range])
    · have : (List.range n).all (fun i => o.contains i) = true := by
        rw [List.all_eq_true]
        intro i hi
        simpa using p.mem_iff.mp hi
      rw [this] at h
      cases h
  · intro h
    by_cases e : o.length = n
    · right
      cases e2 : (List.range n).all (fun i => o.contains i) with
      | false => rfl
      | true =>
        rw [List.all_eq_true] at e2
        exact absurd (perm_of_all List.nodup_range (fun i hi => by simpa using e2 i hi) (by rw [List.length_range, e]; exact Nat.le_refl _)) h
    · exact .inl e
end Rd

/-! What holds of every day that a request can lead to. -/
namespace Rd
open Uw03
theorem rising_lt : ∀ (l : List Nat) (x : Nat), rising (x :: l) = true → (∀ y ∈ l, x < y) ∧ (x :: l).Nodup
  | [], x, _ => ⟨(fun _ h => by cases h), by simp⟩
  | z :: l, x, h => by
    have h' : (decide (x < z) && rising (z :: l)) = true := h
    rw [Bool.and_eq_true] at h'
    have hx : x < z := of_decide_eq_true h'.1
    obtain ⟨i1, i2⟩ := rising_lt l z h'.2
    have a : ∀ y ∈ z :: l, x < y := fun y hy => by
      rcases List.mem_cons.mp hy with rfl | hy
      · exact hx
      · exact Nat.lt_trans hx (i1 y hy)
    exact ⟨a, List.nodup_cons.mpr ⟨fun hm => Nat.lt_irrefl _ (a x hm), i2⟩⟩
theorem rising_nodup {l : List Nat} (h : rising l = true) : l.Nodup := by
  cases l with
  | nil => exact List.nodup_nil
  | cons x l => exact (rising_lt l x h).2
structure Ok (d : Day) (n : Nat) : Prop where
  nP : d.players.length ≤ 6
  nQ : d.pieces.length ≤ 6
  nA : d.ahead.length ≤ n
  pl : ∀ p ∈ d.players, p.rate ≤ 1000 ∧ p.from_ ≤ p.till ∧ p.till ≤ 3600
  pc : ∀ p ∈ d.pieces, 1 ≤ p.long ∧ p.long ≤ 600 ∧ p.players.length ≤ 20 ∧ p.players.Nodup ∧ ∀ a ∈ p.players, a < d.players.length
  ah : ∀ x ∈ d.ahead, x.1 < d.pieces.length ∧ x.2 < d.pieces.length
theorem Ok.init (n : Nat) : Ok init n := ⟨Nat.zero_le _, Nat.zero_le _, Nat.zero_le _, (fun _ h => by cases h), (fun _ h => by cases h), (fun _ h => by cases h)⟩
theorem Ok.more {d : Day} {n m : Nat} (h : Ok d n) (l : n ≤ m) : Ok d m := ⟨h.nP, h.nQ, Nat.le_trans h.nA l, h.pl, h.pc, h.ah⟩
theorem Ok.step {d : Day} {n : Nat} (h : Ok d n) {c : Call} (hc : okCall c) : Ok (step d c).1 (n + 1) := by
  have h' := h.more (Nat.le_succ n)
  cases c with
  | begins => exact Ok.init _
  | player p =>
    unfold Uw03.step
    dsimp only
    split
    · exact h'
    · rename_i h1
      split
      · exact h'
      · rename_i h2
        split
        · exact h'
        · rename_i h3
          have e : d.pieces = [] := Classical.not_not.mp h2
          have e3 : d.players.length < 6 := Nat.lt_of_not_le h3
          refine ⟨by simp; omega, h.nQ, Nat.le_succ_of_le h.nA, fun q hq => ?_, fun q hq => ?_, h.ah⟩
          · rcases List.mem_append.mp hq with hq | hq
            · exact h.pl q hq
            · rw [List.mem_singleton] at hq
              subst hq
              rw [show RATE = 1000 from rfl, show DAY = 3600 from rfl] at h1
              omega
          · have hq' : q ∈ d.pieces := hq
            rw [e] at hq'
            cases hq'
  | piece m l =>
    unfold Uw03.step
    dsimp only
    split
    · exact h'
    · rename_i h1
      split
      · exact h'
      · rename_i h2
        have e2 : d.pieces.length < 6 := Nat.lt_of_not_le h2
        refine ⟨h.nP, by simp; omega, Nat.le_succ_of_le h.nA, h.pl, fun q hq => ?_, fun q hq => ?_⟩
        · rcases List.mem_append.mp hq with hq | hq
          · exact h.pc q hq
          · rw [List.mem_singleton] at hq
            subst hq
            have g : ∀ {A B C D : Prop}, ¬ (A ∨ B ∨ C ∨ D) → ¬ A ∧ ¬ B ∧ ¬ C ∧ ¬ D := fun h => ⟨fun x => h (.inl x), fun x => h (.inr (.inl x)), fun x => h (.inr (.inr (.inl x))), fun x => h (.inr (.inr (.inr x)))⟩
            obtain ⟨g1, g2, g3, g4⟩ := g h1
            rw [show LONG = 600 from rfl] at g2
            refine ⟨by show 1 ≤ m; omega, by show m ≤ 600; omega, hc, ?_, fun a ha => ?_⟩
            · cases e : rising l with
              | true => exact rising_nodup e
              | false => exact absurd e g3
            have g5 : (l.all fun a => decide (a < d.players.length)) = true := by
              cases e : (l.all fun a => decide (a < d.players.length)) with
              | true => rfl
              | false => exact absurd e g4
            exact of_decide_eq_true (List.all_eq_true.mp g5 a ha)
        · have := h.ah q hq
          show q.1 < (d.pieces ++ [_]).length ∧ q.2 < (d.pieces ++ [_]).length
          rw [List.length_append]
          omega
  | ahead i j =>
    unfold Uw03.step
    dsimp only
    split
    · exact h'
    · rename_i h1
      split
      · exact h'
      · refine ⟨h.nP, h.nQ, by have := h.nA; simp; omega, h.pl, h.pc, fun q hq => ?_⟩
        rcases List.mem_append.mp hq with hq | hq
        · exact h.ah q hq
        · rw [List.mem_singleton] at hq
          subst hq
          show i < d.pieces.length ∧ j < d.pieces.length
          omega
  | best => exact h'
  | check o =>
    unfold Uw03.step
    dsimp only
    split <;> exact h'
  | work => exact h'
/-- an order is at most an hour a piece long -/
theorem long_le {d : Day} {n : Nat} (h : Ok d n) (i : Nat) : d.long i ≤ 600 := by
  unfold Day.long
  cases e : d.pieces[i]? with
  | none => exact Nat.zero_le _
  | some p => exact (h.pc p (List.mem_of_getElem? e)).2.1
theorem span_le {d : Day} {n : Nat} (h : Ok d n) (o : Order) : span d o ≤ o.length * 600 := by
  unfold span
  have := total_le (l := o.map d.long) (b := 600) fun x hx => by
    obtain ⟨i, _, rfl⟩ := List.mem_map.mp hx
    exact long_le h i
  rwa [List.length_map] at this
/-! ### the least: a walk over orders that keeps the best so far -/
/-- the best so far, and one order more -/
def take1 (d : Day) (b : Option Best) (o : Order) : Option Best := if d.right o = true then better b (some ⟨d.cost o, 1, o⟩) else b
theorem best_fold (d : Day) : d.best = (exts d.pieces.length d.pieces.length []).foldl (take1 d) none := by
  unfold Day.best Day.all
  rw [orders_exts]
  generalize (none : Option Best) = b
  induction exts d.pieces.length d.pieces.length [] generalizing b with
  | nil => rfl
  | cons o l ih =>
    rw [List.filter_cons]
    unfold take1
    split
    · rename_i h
      rw [List.map_cons, List.foldl_cons, List.foldl_cons, if_pos h]
      exact ih _
    · rename_i h
      rw [List.foldl_cons, if_neg h]
      exact ih _
end Rd

/-! The mathematics of best, check, work: orders level by level, the players' rows, what is wrong, what is paid, what is worked. -/
namespace Rd
open Uw03
/-! ### orders, level by level -/
def next1 (n : Nat) (pre : Order) : List Order := (left n pre).map fun x => pre ++ [x]
def lvl (n : Nat) : Nat → List Order
  | 0 => [[]]
  | k + 1 => (lvl n k).flatMap (next1 n)
theorem lvl_in {n : Nat} : ∀ {k : Nat} {o : Order}, o ∈ lvl n k → o.length = k ∧ o.Nodup ∧ ∀ x ∈ o, x < n
  | 0, o, h => by
    have e : o = [] := List.mem_singleton.mp h
    subst e
    exact ⟨rfl, List.nodup_nil, fun _ h => by cases h⟩
  | k + 1, o, h => by
    obtain ⟨pre, hp, ho⟩ := List.mem_flatMap.mp h
    obtain ⟨x, hx, rfl⟩ := List.mem_map.mp ho
    obtain ⟨i1, i2, i3⟩ := lvl_in hp
    have hx' := mem_left.mp hx
    refine ⟨by rw [List.length_append, i1]; rfl, ?_, fun y hy => ?_⟩
    · rw [List.nodup_append]
      refine ⟨i2, by simp, fun a ha b hb => ?_⟩
      rw [List.mem_singleton] at hb
      subst hb
      exact fun e => hx'.2 (e ▸ ha)
    · rcases List.mem_append.mp hy with hy | hy
      · exact i3 y hy
      · rw [List.mem_singleton] at hy
        subst hy
        exact hx'.1
theorem lvl_exts {n : Nat} : ∀ {k : Nat}, k ≤ n → (lvl n k).flatMap (exts n (n - k)) = exts n n []
  | 0, _ => by
    show [[]].flatMap (exts n (n - 0)) = _
    simp
  | k + 1, h => by
    rw [← lvl_exts (k := k) (by omega)]
    show ((lvl n k).flatMap (next1 n)).flatMap (exts n (n - (k + 1))) = _
    rw [List.flatMap_assoc]
    have key : ∀ l : List Order, (∀ o ∈ l, o ∈ lvl n k) → (l.flatMap fun x => (next1 n x).flatMap (exts n (n - (k + 1)))) = l.flatMap (exts n (n - k)) := by
      intro l
      induction l with
      | nil => intro _; rfl
      | cons o l ih =>
        intro hl
        rw [List.flatMap_cons, List.flatMap_cons, ih fun x hx => hl x (List.mem_cons_of_mem _ hx)]
        congr 1
        obtain ⟨i1, i2, i3⟩ := lvl_in (hl o (List.mem_cons_self ..))
        have e : n - k = (n - (k + 1)) + 1 := by omega
        have hne : left n o ≠ [] := fun z => by
          have := left_length i2 i3
          rw [z, i1] at this
          simp at this
          omega
        rw [e, exts_more, if_neg hne]
        unfold next1
        rw [List.flatMap_map]
    exact key _ fun _ h => h
theorem lvl_all (n : Nat) : lvl n n = exts n n [] := by
  have h := lvl_exts (n := n) (k := n) (Nat.le_refl _)
  rw [← h]
  have key : ∀ l : List Order, (∀ o ∈ l, o ∈ lvl n n) → l = l.flatMap (exts n (n - n)) := by
    intro l
    induction l with
    | nil => intro _; rfl
    | cons o l ih =>
      intro hl
      obtain ⟨i1, i2, i3⟩ := lvl_in (hl o (List.mem_cons_self ..))
      have e : left n o = [] := by
        have := left_length i2 i3
        exact List.length_eq_zero_iff.mp (by omega)
      rw [List.flatMap_cons, exts_end e, ← ih fun x hx => hl x (List.mem_cons_of_mem _ hx)]
      rfl
  exact key _ fun _ h => h
theorem next1_len (n : Nat) (o : Order) : (next1 n o).length ≤ n := by
  unfold next1 left
  rw [List.length_map]
  exact Nat.le_trans (List.length_filter_le ..) (by rw [List.length_range]; exact Nat.le_refl _)
theorem flat_len (n : Nat) : ∀ l : List Order, (l.flatMap (next1 n)).length ≤ l.length * n
  | [] => by simp
  | o :: l => by
    rw [List.flatMap_cons, List.length_append, List.length_cons, Nat.add_mul]
    have h1 := next1_len n o
    have h2 := flat_len n l
    omega
theorem lvl_len {n : Nat} (hn : n ≤ 6) : ∀ k : Nat, (lvl n k).length ≤ 6 ^ k
  | 0 => by simp [lvl]
  | k + 1 => by
    have h1 := flat_len n (lvl n k)
    have h2 := lvl_len hn k
    show ((lvl n k).flatMap (next1 n)).length ≤ 6 ^ (k + 1)
    rw [Nat.pow_succ]
    exact Nat.le_trans h1 (Nat.mul_le_mul h2 hn)
theorem lvl_len6 {n k : Nat} (hn : n ≤ 6) (hk : k ≤ 6) : (lvl n k).length ≤ 46656 :=
  Nat.le_trans (lvl_len hn k) (Nat.pow_le_pow_right (n := 6) (by decide) hk)
/-- an order of all pieces -/
theorem lvl_perm {n : Nat} {o : Order} (h : o ∈ lvl n n) : (List.range n).Perm o := by
  obtain ⟨i1, i2, i3⟩ := lvl_in h
  exact (perm_of_all i2 (fun x hx => List.mem_range.mpr (i3 x hx)) (by rw [List.length_range, i1]; exact Nat.le_refl _)).symm
theorem take_more {α : Type} {l : List α} {i : Nat} {x : α} (h : l[i]? = some x) : l.take (i + 1) = l.take i ++ [x] := by
  rw [List.take_add_one, h]
  rfl
/-! ### the players' rows -/
def row (d : Day) (o : Order) (a : Nat) : List Nat := match d.stays o a with
  | some x => [x.1, x.2, d.waits o a]
  | none => []
theorem tell_eq (d : Day) (o : Order) : d.tell o = (List.range d.players.length).map (row d o) := rfl
theorem row_nil (d : Day) (a : Nat) : row d [] a = [] := rfl
theorem row_none {d : Day} {o : Order} {a : Nat} (h : d.stays o a = none) : row d o a = [] := by
  unfold row
  rw [h]
theorem row_some {d : Day} {o : Order} {a : Nat} {x : Nat × Nat} (h : d.stays o a = some x) : row d o a = [x.1, x.2, d.waits o a] := by
  unfold row
  rw [h]
theorem row_not {d : Day} {o : Order} {p a : Nat} (h : d.has p a = false) : row d (o ++ [p]) a = row d o a := by
  have e : d.stays (o ++ [p]) a = d.stays o a := by rw [stays_snoc, h]; rfl
  have e2 : d.waits (o ++ [p]) a = d.waits o a := by
    rw [waits_eq, waits_eq, e, worked_snoc, h]
    rfl
  unfold row
  rw [e, e2]
theorem worked_none {d : Day} {a : Nat} {o : Order} (h : d.stays o a = none) : worked d o a = 0 := by
  have hp : d.places o a = [] := by
    cases e : d.places o a with
    | nil => rfl
    | cons k r =>
      obtain ⟨l, hl⟩ : ∃ l, (d.places o a).getLast? = some l := by
        rw [e]
        exact ⟨_, List.getLast?_eq_some_getLast (List.cons_ne_nil k r)⟩
      rw [stays_some (k := k) (by rw [e]; rfl) hl] at h
      cases h
  unfold worked
  rw [hp]
  rfl
theorem row_new {d : Day} {o : Order} {p a : Nat} (h : d.has p a = true) (hs : d.stays o a = none) : row d (o ++ [p]) a = [span d o, span d o + d.long p, 0] := by
  have e : d.stays (o ++ [p]) a = some (span d o, span d o + d.long p) := by
    rw [stays_snoc, if_pos h, hs]
    rfl
  have e2 : d.waits (o ++ [p]) a = 0 := by
    rw [waits_eq, e, worked_snoc, if_pos h, worked_none hs]
    show span d o + d.long p - span d o - (0 + d.long p) = 0
    generalize span d o = A
    generalize d.long p = B
    omega
  rw [row_some e, e2]
theorem row_old {d : Day} {o : Order} {p a : Nat} {x : Nat × Nat} (h : d.has p a = true) (hs : d.stays o a = some x) : row d (o ++ [p]) a = [x.1, span d o + d.long p, d.waits o a + span d o - x.2] ∧ x.2 ≤ span d o := by
  obtain ⟨j1, j2, j3⟩ := stays_le d a hs
  have e : d.stays (o ++ [p]) a = some (x.1, span d o + d.long p) := by
    rw [stays_snoc, if_pos h, hs]
    rfl
  have e2 : d.waits (o ++ [p]) a = d.waits o a + span d o - x.2 := by
    rw [waits_eq, waits_eq, e, hs, worked_snoc, if_pos h]
    show span d o + d.long p - x.1 - (worked d o a + d.long p) = x.2 - x.1 - worked d o a + span d o - x.2
    revert j1 j2 j3
    generalize span d o = A
    generalize d.long p = B
    generalize worked d o a = W
    intro j1 j2 j3
    omega
  rw [row_some e, e2]
  exact ⟨rfl, j2⟩
/-- the rows while a piece is gone through: who is in `w` has it already -/
def rowsMid (d : Day) (o : Order) (p : Nat) (w : List Nat) : List (List Nat) := (List.range d.players.length).map fun a => if w.contains a = true then row d (o ++ [p]) a else row d o a
theorem rowsMid_nil (d : Day) (o : Order) (p : Nat) : rowsMid d o p [] = d.tell o := by
  rw [tell_eq]
  rfl
theorem rowsMid_all {d : Day} {o : Order} {p : Nat} {q : Piece} (h : d.pieces[p]? = some q) : rowsMid d o p q.players = d.tell (o ++ [p]) := by
  rw [tell_eq]
  unfold rowsMid
  apply List.map_congr_left
  intro a _
  split
  · rfl
  · rename_i hc
    refine (row_not ?_).symm
    unfold Day.has
    rw [h]
    show q.players.contains a = false
    cases e : q.players.contains a with
    | false => rfl
    | true => exact absurd e hc
theorem rowsMid_len (d : Day) (o : Order) (p : Nat) (w : List Nat) : (rowsMid d o p w).length = d.players.length := by
  unfold rowsMid
  rw [List.length_map, List.length_range]
theorem rowsMid_get {d : Day} {o : Order} {p a : Nat} {w : List Nat} (ha : a < d.players.length) (hw : a ∉ w) : (rowsMid d o p w)[a]? = some (row d o a) := by
  unfold rowsMid
  rw [List.getElem?_map, List.getElem?_range ha]
  simp [hw]
theorem rowsMid_set {d : Day} {o : Order} {p a : Nat} {w : List Nat} : (rowsMid d o p w).set a (row d (o ++ [p]) a) = rowsMid d o p (w ++ [a]) := by
  apply List.ext_getElem?
  intro i
  rw [List.getElem?_set, rowsMid_len]
  unfold rowsMid
  rw [List.getElem?_map, List.getElem?_map]
  by_cases hi : i < d.players.length
  · rw [List.getElem?_range hi]
    by_cases e : a = i
    · subst e
      simp [hi]
    · have e' : ¬ i = a := fun z => e z.symm
      simp [e, e']
  · have : (List.range d.players.length)[i]? = none := List.getElem?_eq_none (by rw [List.length_range]; omega)
    rw [this]
    by_cases e : a = i
    · subst e
      simp [hi]
    · simp [e]
/-! ### what is paid -/
def payF (d : Day) (o : Order) (x : Player × Nat) : Nat := match d.stays o x.2 with
  | some y => x.1.rate * (y.2 - y.1)
  | none => 0
theorem cost_eq (d : Day) (o : Order) : d.cost o = total (d.players.zipIdx.map (payF d o)) := rfl
def costTo (d : Day) (o : Order) (i : Nat) : Nat := total ((d.players.zipIdx.take i).map (payF d o))
theorem zipIdx_get {α : Type} {l : List α} {i : Nat} {x : α} (h : l[i]? = some x) : l.zipIdx[i]? = some (x, i) := by
  rw [List.getElem?_zipIdx, h]
  simp
theorem costTo_more {d : Day} {o : Order} {i : Nat} {p : Player} (h : d.players[i]? = some p) : costTo d o (i + 1) = costTo d o i + payF d o (p, i) := by
  unfold costTo
  rw [take_more (zipIdx_get h), List.map_append]
  exact total_snoc _ _
theorem costTo_all (d : Day) (o : Order) : costTo d o d.players.length = d.cost o := by
  rw [cost_eq]
  unfold costTo
  rw [List.take_of_length_le (by rw [List.length_zipIdx]; exact Nat.le_refl _)]
/-! ### what is wrong -/
def badP (o : Order) (x : Nat × Nat) : Bool := decide (o.idxOf x.2 < o.idxOf x.1)
def badW (d : Day) (o : Order) (x : Player × Nat) : Option (Nat × Nat) := match d.stays o x.2 with
  | some y => if y.1 < x.1.from_ then some (2, x.2) else if x.1.till < y.2 then some (3, x.2) else none
  | none => none
theorem wrong_eq (d : Day) (o : Order) : d.wrong o = match d.ahead.findIdx? (badP o) with
  | some i => some (1, i)
  | none => d.players.zipIdx.findSome? (badW d o) := rfl
theorem findIdx_at {α : Type} {f : α → Bool} : ∀ {l : List α} {i : Nat} {x : α}, (∀ j y, j < i → l[j]? = some y → f y = false) → l[i]? = some x → f x = true → l.findIdx? f = some i
  | [], i, x, _, h, _ => by simp at h
  | a :: l, 0, x, _, h, hf => by
    have e : a = x := Option.some.inj h
    subst e
    rw [List.findIdx?_cons, if_pos hf]
  | a :: l, i + 1, x, ha, h, hf => by
    have h0 := ha 0 a (Nat.succ_pos _) rfl
    rw [List.findIdx?_cons, if_neg (by rw [h0]; decide), findIdx_at (l := l) (i := i) (fun j y hj e => ha (j + 1) y (Nat.succ_lt_succ hj) e) h hf]
    rfl
theorem findIdx_no {α : Type} {f : α → Bool} : ∀ {l : List α}, (∀ j y, j < l.length → l[j]? = some y → f y = false) → l.findIdx? f = none
  | [], _ => rfl
  | a :: l, ha => by
    have h0 := ha 0 a (Nat.succ_pos _) rfl
    rw [List.findIdx?_cons, if_neg (by rw [h0]; decide), findIdx_no (l := l) fun j y hj e => ha (j + 1) y (Nat.succ_lt_succ hj) e]
    rfl
theorem findSome_at {α β : Type} {f : α → Option β} : ∀ {l : List α} {i : Nat} {x : α} {z : β}, (∀ j y, j < i → l[j]? = some y → f y = none) → l[i]? = some x → f x = some z → l.findSome? f = some z
  | [], i, x, z, _, h, _ => by simp at h
  | a :: l, 0, x, z, _, h, hf => by
    have e : a = x := Option.some.inj h
    subst e
    rw [List.findSome?_cons, hf]
  | a :: l, i + 1, x, z, ha, h, hf => by
    have h0 := ha 0 a (Nat.succ_pos _) rfl
    rw [List.findSome?_cons, h0]
    exact findSome_at (l := l) (i := i) (fun j y hj e => ha (j + 1) y (Nat.succ_lt_succ hj) e) h hf
theorem findSome_no {α β : Type} {f : α → Option β} : ∀ {l : List α}, (∀ j y, j < l.length → l[j]? = some y → f y = none) → l.findSome? f = none
  | [], _ => rfl
  | a :: l, ha => by
    have h0 := ha 0 a (Nat.succ_pos _) rfl
    rw [List.findSome?_cons, h0]
    exact findSome_no (l := l) fun j y hj e => ha (j + 1) y (Nat.succ_lt_succ hj) e
/-- the fault as it is told -/
def faultOf (d : Day) (o : Order) : List Nat := match d.wrong o with
  | some x => [x.1, x.2]
  | none => []
theorem fault_pair {d : Day} {o : Order} {i : Nat} {x : Nat × Nat} (hb : ∀ j y, j < i → d.ahead[j]? = some y → badP o y = false) (h : d.ahead[i]? = some x) (hx : badP o x = true) : faultOf d o = [1, i] := by
  unfold faultOf
  rw [wrong_eq, findIdx_at hb h hx]
theorem fault_who {d : Day} {o : Order} {i : Nat} {p : Player} {z : Nat × Nat} (hp : ∀ j y, j < d.ahead.length → d.ahead[j]? = some y → badP o y = false) (hb : ∀ j q, j < i → d.players[j]? = some q → badW d o (q, j) = none) (h : d.players[i]? = some p) (hx : badW d o (p, i) = some z) : faultOf d o = [z.1, z.2] := by
  unfold faultOf
  rw [wrong_eq, findIdx_no hp, findSome_at (i := i) (x := (p, i)) (z := z) ?_ (zipIdx_get h) hx]
  intro j y hj e
  obtain ⟨q, k⟩ := y
  rw [List.getElem?_zipIdx] at e
  cases e2 : d.players[j]? with
  | none => rw [e2] at e; cases e
  | some r =>
    rw [e2] at e
    simp at e
    obtain ⟨rfl, rfl⟩ := e
    exact hb _ _ hj e2
theorem fault_none {d : Day} {o : Order} (hp : ∀ j y, j < d.ahead.length → d.ahead[j]? = some y → badP o y = false) (hb : ∀ j q, j < d.players.length → d.players[j]? = some q → badW d o (q, j) = none) : faultOf d o = [] := by
  unfold faultOf
  rw [wrong_eq, findIdx_no hp, findSome_no]
  intro j y hj e
  rw [List.length_zipIdx] at hj
  obtain ⟨q, k⟩ := y
  rw [List.getElem?_zipIdx] at e
  cases e2 : d.players[j]? with
  | none => rw [e2] at e; cases e
  | some r =>
    rw [e2] at e
    simp at e
    obtain ⟨rfl, rfl⟩ := e
    exact hb _ _ hj e2
theorem fault_right {d : Day} {o : Order} : (faultOf d o = []) ↔ d.right o = true := by
  unfold faultOf Day.right
  cases d.wrong o <;> simp
/-! ### the least so far -/
structure Least (b : Option Best) (lo many : Nat) (o : Order) : Prop where
  no : b = none → many = 0
  yes : ∀ x, b = some x → x.cost = lo ∧ x.many = many ∧ x.order = o ∧ 1 ≤ many
theorem Least.zero {b : Option Best} {lo many : Nat} {o : Order} (h : Least b lo many o) (e : many = 0) : b = none := by
  cases b with
  | none => rfl
  | some x => have := (h.yes x rfl).2.2.2; omega
theorem Least.wrong {d : Day} {b : Option Best} {lo many : Nat} {o q : Order} (h : Least b lo many o) (e : d.right q = false) : Least (take1 d b q) lo many o := by
  unfold take1
  rw [e]
  exact h
theorem Least.less {d : Day} {b : Option Best} {lo many : Nat} {o q : Order} (h : Least b lo many o) (e : d.right q = true) (l : many = 0 ∨ d.cost q < lo) : Least (take1 d b q) (d.cost q) 1 q := by
  have e2 : take1 d b q = some ⟨d.cost q, 1, q⟩ := by
    unfold take1
    rw [if_pos e]
    cases b with
    | none => rfl
    | some x =>
      obtain ⟨y1, y2, y3, y4⟩ := h.yes x rfl
      show (if d.cost q < x.cost then _ else _) = _
      rw [if_pos (by omega)]
  rw [e2]
  refine ⟨fun z => (by cases z), fun x hx => ?_⟩
  cases hx
  exact ⟨rfl, rfl, rfl, Nat.le_refl _⟩
theorem Least.same {d : Day} {b : Option Best} {lo many : Nat} {o q : Order} (h : Least b lo many o) (e : d.right q = true) (l : many ≠ 0) (c : d.cost q = lo) : Least (take1 d b q) lo (many + 1) o := by
  cases b with
  | none => exact absurd (h.no rfl) l
  | some x =>
    obtain ⟨y1, y2, y3, y4⟩ := h.yes x rfl
    have e2 : take1 d (some x) q = some ⟨x.cost, x.many + 1, x.order⟩ := by
      unfold take1
      rw [if_pos e]
      show (if d.cost q < x.cost then _ else if x.cost < d.cost q then _ else _) = _
      rw [if_neg (by omega), if_neg (by omega)]
    rw [e2]
    refine ⟨fun z => (by cases z), fun z hz => ?_⟩
    cases hz
    exact ⟨y1, by show x.many + 1 = many + 1; rw [y2], y3, by omega⟩
theorem Least.more {d : Day} {b : Option Best} {lo many : Nat} {o q : Order} (h : Least b lo many o) (e : d.right q = true) (l : many ≠ 0) (c : lo < d.cost q) : Least (take1 d b q) lo many o := by
  cases b with
  | none => exact absurd (h.no rfl) l
  | some x =>
    obtain ⟨y1, y2, y3, y4⟩ := h.yes x rfl
    have e2 : take1 d (some x) q = some x := by
      unfold take1
      rw [if_pos e]
      show (if d.cost q < x.cost then _ else if x.cost < d.cost q then _ else _) = _
      rw [if_neg (by omega), if_pos (by omega)]
    rw [e2]
    exact h
theorem fold_more {d : Day} {l : List Order} {i : Nat} {o : Order} (h : l[i]? = some o) : (l.take (i + 1)).foldl (take1 d) none = take1 d ((l.take i).foldl (take1 d) none) o := by
  rw [take_more h, List.foldl_append]
  rfl
/-! ### what is worked -/
def workOn (d : Day) (qs : List Piece) : Nat := total (d.players.zipIdx.map fun x => x.1.rate * total ((qs.filter fun p => p.players.contains x.2).map fun p => p.long))
def rateOf (d : Day) (a : Nat) : Nat := ((d.players[a]?).map fun p => p.rate).getD 0
theorem total_map_add {α : Type} (f g : α → Nat) : ∀ l : List α, total (l.map fun x => f x + g x) = total (l.map f) + total (l.map g)
  | [] => rfl
  | x :: l => by
    rw [List.map_cons, List.map_cons, List.map_cons, total_cons, total_cons, total_cons, total_map_add f g l]
    omega
theorem total_zero {α : Type} {f : α → Nat} : ∀ {l : List α}, (∀ x ∈ l, f x = 0) → total (l.map f) = 0
  | [], _ => rfl
  | x :: l, h => by
    rw [List.map_cons, total_cons, h x (List.mem_cons_self ..), total_zero fun y hy => h y (List.mem_cons_of_mem _ hy)]
/-- one player alone -/
theorem total_one (m : Nat) : ∀ (l : List Player) (s a : Nat), s ≤ a → total ((l.zipIdx s).map fun x => if a = x.2 then x.1.rate * m else 0) = ((l[a - s]?).map fun p => p.rate).getD 0 * m
  | [], s, a, _ => by
    rw [List.zipIdx_nil, List.getElem?_nil, List.map_nil]
    show 0 = 0 * m
    omega
  | p :: l, s, a, h => by
    rw [List.zipIdx_cons, List.map_cons, total_cons]
    by_cases e : a = s
    · subst e
      rw [if_pos rfl, Nat.sub_self]
      have z : total ((l.zipIdx (a + 1)).map fun x => if a = x.2 then x.1.rate * m else 0) = 0 := by
        apply total_zero
        intro x hx
        have := List.le_snd_of_mem_zipIdx hx
        rw [if_neg (by omega)]
      rw [z]
      rfl
    · have e2 : a - s = (a - (s + 1)) + 1 := by omega
      rw [if_neg e, total_one m l (s + 1) a (by omega), e2, List.getElem?_cons_succ]
      omega
theorem total_in (d : Day) (m : Nat) : ∀ l : List Nat, l.Nodup → total (d.players.zipIdx.map fun x => if l.contains x.2 = true then x.1.rate * m else 0) = total (l.map fun a => rateOf d a * m)
  | [], _ => by
    apply total_zero
    intro x _
    rfl
  | a :: l, h => by
    rw [List.nodup_cons] at h
    rw [List.map_cons, total_cons, ← total_in d m l h.2]
    have e1 := total_one m d.players 0 a (Nat.zero_le _)
    rw [Nat.sub_zero] at e1
    show _ = ((d.players[a]?).map fun p => p.rate).getD 0 * m + _
    rw [← e1, ← total_map_add]
    congr 1
    apply List.map_congr_left
    intro x _
    by_cases e : a = x.2
    · have hn : l.contains x.2 = false := by
        cases c : l.contains x.2 with
        | false => rfl
        | true => exact absurd (by simpa using c) (e ▸ h.1)
      rw [if_pos e, hn]
      simp [e]
    · have e' : ¬ x.2 = a := fun z => e z.symm
      rw [if_neg e]
      simp [e']
theorem workOn_snoc {d : Day} {qs : List Piece} {q : Piece} (nd : q.players.Nodup) : workOn d (qs ++ [q]) = workOn d qs + total (q.players.map fun a => rateOf d a * q.long) := by
  rw [← total_in d q.long q.players nd]
  unfold workOn
  rw [← total_map_add]
  congr 1
  apply List.map_congr_left
  intro x _
  rw [List.filter_append, List.map_append, total_append, Nat.mul_add]
  congr 1
  by_cases h : q.players.contains x.2 = true
  · rw [if_pos h, List.filter_cons, if_pos h]
    show x.1.rate * total [q.long] = _
    rw [total_cons]
    rfl
  · rw [if_neg h, List.filter_cons, if_neg h]
    rfl
theorem work_eq (d : Day) : d.work = workOn d d.pieces := rfl
/-! ### sorted, and each piece once -/
theorem sorted_eq {n : Nat} {o : Order} {ns : List Int} (p : ns.Perm (natsI o)) (s : ns.Pairwise (· ≤ ·)) : ns = natsI (List.range n) ↔ (List.range n).Perm o := by
  constructor
  · intro e
    rw [e] at p
    have h := p.map Int.toNat
    unfold natsI at h
    rw [List.map_map, List.map_map] at h
    have e2 : (Int.toNat ∘ fun (x : Nat) => (x : Int)) = id := by funext x; simp
    rw [e2, List.map_id, List.map_id] at h
    exact h
  · intro h
    have p2 : (natsI (List.range n)).Perm (natsI o) := h.map _
    refine (p.trans p2.symm).eq_of_pairwise (fun a b _ _ h1 h2 => Int.le_antisymm h1 h2) s ?_
    unfold natsI
    rw [List.pairwise_map]
    exact (List.pairwise_lt_range).imp fun h => by omega
end Rd

set_option Elab.async false
set_option maxRecDepth 100000
set_option maxHeartbeats 4000000
/-! The heap of a day, and short words for calls. -/
namespace Rd
open PySem PySem.Spec PyProof.Rows L2
/-! ### a def and a method by their promise -/
def DefOk (P : Program) (w : World) (K : PySem.W.Frag) (mg : Str → Option Value) (base : Heap) (x : Str) (k : Nat) (ps : List Str) (sp : Sp) : Prop :=
  ∃ f fd, mg x = some (.ref f) ∧ PySem.W.keepIn K (.ref f) = true ∧ FnOk P w K mg base CX0 k f fd ps sp ∧ Binds K fd ps []
def MethOk (P : Program) (w : World) (K : PySem.W.Frag) (mg : Str → Option Value) (base : Heap) (C : Addr) (m : Str) (k : Nat) (ps : List Str) (sp : Sp) : Prop :=
  ∃ f fd, Meth K C m f ∧ FnOk P w K mg base CX0 k f fd ps sp ∧ Binds K fd ps []
section
variable {X : Cx} {k : Nat} {C : Addr} {ps : List Str} {sp : Sp} {x m : Str} {p pos apos : Pos} {e o : Expr} {es : List Expr} {ta : TE} {t : TA}
theorem pe_def (D : DefOk X.prog X.w X.K X.mg X.base x k ps sp) (hr : Room k X.A) (hg : Gl X x) (ha : PA X (e :: es) t)
    (hdb : (x == ("__debug__" : Str)) = false := by decide) (he : starEach (e :: es) X.env = (false, eval e X.env) :: starEach es X.env := by rfl) (hpl : (backTo pos (starEach es X.env)).any (·.1) = false := by rfl) :
    PE X (.Call (.Name x p) (e :: es) [] pos) (tCall sp [] E0 t) := by
  obtain ⟨f, fd, hm, kp, G, b⟩ := D
  exact pe_call G hr hg hm kp b .nil pass0 ha hdb he hpl
theorem pe_dmeth {pl : Sem Bool} (D : MethOk X.prog X.w X.K X.mg X.base C m k ps sp) (hr : Room k X.A) (c : Cls X.K C) (ho : PE X o ta) (ha : PA X (e :: es) t)
    (hst : starEach (e :: es) X.env = (false, eval e X.env) :: starEach es X.env := by rfl) (hpl : (backTo pos (starEach es X.env)).any (·.1) = false := by rfl)
    (ht : eval (.Call (.Attribute o m apos) (e :: es) [] pos) X.env = (do
      let ov ← eval o X.env
      standAt apos.atName
      let (f, first) ← holding [ov] (getMethod ov m pl)
      callWith pos f first (backTo pos (starEach (e :: es) X.env)) (backToKw pos (keywordEach [] X.env))) := by rfl) :
    PE X (.Call (.Attribute o m apos) (e :: es) [] pos) (tMeth C m sp [] E0 ta t) := by
  obtain ⟨f, fd, hm, G, b⟩ := D
  exact pe_meth (pl := pl) ho c hm G hr b .nil pass0 ha hst hpl ht
theorem pe_dmeth0 {pl : Sem Bool} (D : MethOk X.prog X.w X.K X.mg X.base C m k ps sp) (hr : Room k X.A) (c : Cls X.K C) (ho : PE X o ta)
    (ht : eval (.Call (.Attribute o m apos) [] [] pos) X.env = (do
      let ov ← eval o X.env
      standAt apos.atName
      let (f, first) ← holding [ov] (getMethod ov m pl)
      callWith pos f first (backTo pos (starEach [] X.env)) (backToKw pos (keywordEach [] X.env))) := by rfl) :
    PE X (.Call (.Attribute o m apos) [] [] pos) (tMeth C m sp [] E0 ta tNil) := by
  obtain ⟨f, fd, hm, G, b⟩ := D
  exact pe_meth0 (pl := pl) ho c hm G hr b .nil pass0 ht
end
theorem if_true_of {c : Bool} {A B : Prop} (hc : c = true) (h : A) : if c = true then A else B := by
  rw [if_pos hc]
  exact h
theorem if_false_of {c : Bool} {A B : Prop} (hc : c = false) (h : B) : if c = true then A else B := by
  rw [hc, if_neg Bool.false_ne_true]
  exact h
theorem lk_here {k : Str} {v : V} {r : List (Str × V)} : List.lookup k ((k, v) :: r) = some v := by
  have e : (k == k) = true := beq_self_eq_true k
  simp only [List.lookup, e]
theorem lk_past {k g : Str} {v : V} {r : List (Str × V)} (h : (k == g) = false) : List.lookup k ((g, v) :: r) = List.lookup k r := by
  simp only [List.lookup, h]
theorem put_here {f : Str} {v x : V} {r : List (Str × V)} : putF f v ((f, x) :: r) = (f, v) :: r := if_pos rfl
theorem put_past {f g : Str} {v x : V} {r : List (Str × V)} (h : ¬ g = f) : putF f v ((g, x) :: r) = (g, x) :: putF f v r := if_neg h
/-! ### two lists side by side -/
inductive All2 {α β : Type} (R : α → β → Prop) : List α → List β → Prop
  | nil : All2 R [] []
  | cons {a : α} {b : β} {l : List α} {m : List β} : R a b → All2 R l m → All2 R (a :: l) (b :: m)
theorem All2.imp {α β : Type} {R S : α → β → Prop} (h : ∀ a b, R a b → S a b) : ∀ {l : List α} {m : List β}, All2 R l m → All2 S l m
  | _, _, .nil => .nil
  | _, _, .cons a r => .cons (h _ _ a) (r.imp h)
theorem All2.length {α β : Type} {R : α → β → Prop} : ∀ {l : List α} {m : List β}, All2 R l m → l.length = m.length
  | _, _, .nil => rfl
  | _, _, .cons _ r => by rw [List.length_cons, List.length_cons, r.length]
theorem All2.snoc {α β : Type} {R : α → β → Prop} {a : α} {b : β} (h : R a b) : ∀ {l : List α} {m : List β}, All2 R l m → All2 R (l ++ [a]) (m ++ [b])
  | _, _, .nil => .cons h .nil
  | _, _, .cons x r => .cons x (r.snoc h)
theorem All2.get {α β : Type} {R : α → β → Prop} : ∀ {l : List α} {m : List β}, All2 R l m → ∀ {i : Nat} {b : β}, m[i]? = some b → ∃ a, l[i]? = some a ∧ R a b
  | _, _, .nil, i, b, h => by simp at h
  | _, _, .cons (a := a) x _, 0, b, h => by
    have e := Option.some.inj h
    subst e
    exact ⟨a, rfl, x⟩
  | _, _, .cons _ r, i + 1, b, h => r.get (i := i) h
/-! ### the heap of a day -/
def ivs (l : List Nat) : List V := l.map fun (x : Nat) => V.int (x : Int)
/-- the classes of the program -/
structure Gs where
  p : Addr
  q : Addr
  d : Addr
/-- where a day's lists stand; what stands in them -/
structure Pl where
  l1 : Addr
  l2 : Addr
  l3 : Addr
  S : Addr → Prop
def Pl.has (L : Pl) (b : Addr) : Prop := b = L.l1 ∨ b = L.l2 ∨ b = L.l3 ∨ L.S b
def Pl.more (L : Pl) (N : Addr → Prop) : Pl := ⟨L.l1, L.l2, L.l3, fun b => L.S b ∨ N b⟩
def pF (p : Uw03.Player) : List (Str × V) := [("cost", .int (p.rate : Int)), ("since", .int (p.from_ : Int)), ("till", .int (p.till : Int))]
def qF (m : Nat) (t : Addr) : List (Str × V) := [("minutes", .int (m : Int)), ("players", .ref t)]
theorem pF_cost (p : Uw03.Player) : (pF p).lookup ("cost" : Str) = some (.int (p.rate : Int)) := lk_here
theorem pF_since (p : Uw03.Player) : (pF p).lookup ("since" : Str) = some (.int (p.from_ : Int)) := (lk_past (by decide +kernel)).trans lk_here
theorem pF_till (p : Uw03.Player) : (pF p).lookup ("till" : Str) = some (.int (p.till : Int)) := (lk_past (by decide +kernel)).trans ((lk_past (by decide +kernel)).trans lk_here)
theorem qF_minutes (m : Nat) (t : Addr) : (qF m t).lookup ("minutes" : Str) = some (.int (m : Int)) := lk_here
theorem qF_players (m : Nat) (t : Addr) : (qF m t).lookup ("players" : Str) = some (.ref t) := (lk_past (by decide +kernel)).trans lk_here
def plAt (C : Addr) (S : Addr → Prop) (H : Hp) (q : Addr) (p : Uw03.Player) : Prop := S q ∧ ∃ dx, H q = some (.ins C dx (pF p))
def pcAt (C : Addr) (S : Addr → Prop) (H : Hp) (q : Addr) (p : Uw03.Piece) : Prop := S q ∧ ∃ dx t, H q = some (.ins C dx (qF p.long t)) ∧ S t ∧ H t = some (.lst (ivs p.players))
def prAt (S : Addr → Prop) (H : Hp) (q : Addr) (x : Nat × Nat) : Prop := S q ∧ H q = some (.tup [.int (x.1 : Int), .int (x.2 : Int)])
theorem plAt.mono {C : Addr} {S S' : Addr → Prop} {H H' : Hp} (w : ∀ b, S b → S' b) (k : ∀ b o, S b → H b = some o → H' b = some o) (q : Addr) (p : Uw03.Player) : plAt C S H q p → plAt C S' H' q p := fun ⟨h1, dx, h2⟩ => ⟨w _ h1, dx, k _ _ h1 h2⟩
theorem pcAt.mono {C : Addr} {S S' : Addr → Prop} {H H' : Hp} (w : ∀ b, S b → S' b) (k : ∀ b o, S b → H b = some o → H' b = some o) (q : Addr) (p : Uw03.Piece) : pcAt C S H q p → pcAt C S' H' q p := fun ⟨h1, dx, t, h2, h3, h4⟩ => ⟨w _ h1, dx, t, k _ _ h1 h2, w _ h3, k _ _ h3 h4⟩
theorem prAt.mono {S S' : Addr → Prop} {H H' : Hp} (w : ∀ b, S b → S' b) (k : ∀ b o, S b → H b = some o → H' b = some o) (q : Addr) (p : Nat × Nat) : prAt S H q p → prAt S' H' q p := fun ⟨h1, h2⟩ => ⟨w _ h1, k _ _ h1 h2⟩
/-- a list of such -/
def RowAt {α : Type} (R : Hp → Addr → α → Prop) (H : Hp) (l : Addr) (xs : List α) : Prop := ∃ qs : List Addr, H l = some (.lst (qs.map V.ref)) ∧ All2 (R H) qs xs
theorem RowAt.keep {α : Type} {R R' : Hp → Addr → α → Prop} {H H' : Hp} {l : Addr} {xs : List α} (r : RowAt R H l xs) (mono : ∀ q x, R H q x → R' H' q x) (k : ∀ o, H l = some o → H' l = some o) : RowAt R' H' l xs := by
  obtain ⟨qs, h, a⟩ := r
  exact ⟨qs, k _ h, a.imp mono⟩
theorem RowAt.nil {α : Type} {R : Hp → Addr → α → Prop} {H : Hp} {l : Addr} (h : H l = some (.lst [])) : RowAt R H l [] := ⟨[], h, .nil⟩
theorem RowAt.push {α : Type} {R R' : Hp → Addr → α → Prop} {H H' : Hp} {l q : Addr} {qs : List Addr} {xs : List α} {x : α} (z : All2 (R H) qs xs) (mono : ∀ q x, R H q x → R' H' q x) (h : H' l = some (.lst (qs.map V.ref ++ [.ref q]))) (r : R' H' q x) : RowAt R' H' l (xs ++ [x]) :=
  ⟨qs ++ [q], by rw [h, List.map_append]; rfl, (z.imp mono).snoc r⟩
theorem free_upd {H : Hp} {l b : Addr} {o : HO} (h : upd H l o b = none) : H b = none := by
  unfold upd at h
  split at h
  · cases h
  · exact h
theorem same_new {H : Hp} {t : Addr} {o : HO} (ht : H t = none) : Same H (upd H t o) := fun b u e => by rw [upd_ne (ne_of_none e ht)]; exact e
/-! ### the day's heap -/
def dF (l1 l2 l3 : Addr) : List (Str × V) := [("players", .ref l1), ("pieces", .ref l2), ("pairs", .ref l3)]
theorem dF_players (l1 l2 l3 : Addr) : (dF l1 l2 l3).lookup ("players" : Str) = some (.ref l1) := lk_here
theorem dF_pieces (l1 l2 l3 : Addr) : (dF l1 l2 l3).lookup ("pieces" : Str) = some (.ref l2) := (lk_past (by decide +kernel)).trans lk_here
theorem dF_pairs (l1 l2 l3 : Addr) : (dF l1 l2 l3).lookup ("pairs" : Str) = some (.ref l3) := (lk_past (by decide +kernel)).trans ((lk_past (by decide +kernel)).trans lk_here)
structure DayAt (G : Gs) (H : Hp) (a : Addr) (L : Pl) (d : Uw03.Day) : Prop where
  ins : ∃ dx, H a = some (.ins G.d dx (dF L.l1 L.l2 L.l3))
  n12 : L.l1 ≠ L.l2
  n13 : L.l1 ≠ L.l3
  n23 : L.l2 ≠ L.l3
  na : ¬ L.S a
  m1 : ¬ L.S L.l1
  m2 : ¬ L.S L.l2
  m3 : ¬ L.S L.l3
  pl : RowAt (plAt G.p L.S) H L.l1 d.players
  pc : RowAt (pcAt G.q L.S) H L.l2 d.pieces
  pr : RowAt (prAt L.S) H L.l3 d.ahead
section
variable {G : Gs} {H H' H1 : Hp} {a : Addr} {L L' : Pl} {d : Uw03.Day}
theorem DayAt.keep (D : DayAt G H a L d) (k : ∀ b o, b = a ∨ L.has b → H b = some o → H' b = some o) : DayAt G H' a L d := by
  obtain ⟨dx, h⟩ := D.ins
  have ks : ∀ b o, L.S b → H b = some o → H' b = some o := fun b o hb => k b o (.inr (.inr (.inr (.inr hb))))
  exact ⟨⟨dx, k _ _ (.inl rfl) h⟩, D.n12, D.n13, D.n23, D.na, D.m1, D.m2, D.m3, D.pl.keep (plAt.mono (fun _ h => h) ks) fun o => k _ o (.inr (.inl rfl)), D.pc.keep (pcAt.mono (fun _ h => h) ks) fun o => k _ o (.inr (.inr (.inl rfl))), D.pr.keep (prAt.mono (fun _ h => h) ks) fun o => k _ o (.inr (.inr (.inr (.inl rfl))))⟩
theorem DayAt.same (D : DayAt G H a L d) (s : Same H H') : DayAt G H' a L d := D.keep fun b o _ => s b o
/-- what is there is none of what is new -/
theorem DayAt.grow (D : DayAt G H a L d) (s : Same H H1) {N : Addr → Prop} (hN : ∀ b, N b → H b = none) : DayAt G H1 a (L.more N) d := by
  obtain ⟨dx, h⟩ := D.ins
  obtain ⟨_, h1, _⟩ := D.pl
  obtain ⟨_, h2, _⟩ := D.pc
  obtain ⟨_, h3, _⟩ := D.pr
  have no : ∀ {b o}, H b = some o → ¬ N b := fun hb hn => by rw [hN _ hn] at hb; cases hb
  have w : ∀ b, L.S b → (L.more N).S b := fun b hb => .inl hb
  exact ⟨⟨dx, s _ _ h⟩, D.n12, D.n13, D.n23, fun z => z.elim D.na (no h), fun z => z.elim D.m1 (no h1), fun z => z.elim D.m2 (no h2), fun z => z.elim D.m3 (no h3), D.pl.keep (plAt.mono w fun b o _ => s b o) fun o => s _ o, D.pc.keep (pcAt.mono w fun b o _ => s b o) fun o => s _ o, D.pr.keep (prAt.mono w fun b o _ => s b o) fun o => s _ o⟩
theorem upd_keep {l : Addr} {o : HO} {b : Addr} {u : HO} (e : H b = some u) (n : b ≠ l) : upd H l o b = some u := by rw [upd_ne n]; exact e
theorem DayAt.push1 (D : DayAt G H a L d) {q : Addr} {p : Uw03.Player} (hq : plAt G.p L.S H q p) {xs : List V} (h : H L.l1 = some (.lst xs)) : DayAt G (upd H L.l1 (.lst (xs ++ [.ref q]))) a L { d with players := d.players ++ [p] } := by
  obtain ⟨dx, hI⟩ := D.ins
  obtain ⟨qs, h1, z⟩ := D.pl
  have e := h.symm.trans h1
  cases e
  have ks : ∀ b o, L.S b → H b = some o → upd H L.l1 (.lst (qs.map V.ref ++ [.ref q])) b = some o := fun b o hb e => upd_keep e fun z => D.m1 (z ▸ hb)
  exact ⟨⟨dx, upd_keep hI (ne_of hI h (by intro z; cases z))⟩, D.n12, D.n13, D.n23, D.na, D.m1, D.m2, D.m3, RowAt.push z (plAt.mono (fun _ h => h) ks) upd_same (plAt.mono (fun _ h => h) ks _ _ hq), D.pc.keep (pcAt.mono (fun _ h => h) ks) fun o e => upd_keep e D.n12.symm, D.pr.keep (prAt.mono (fun _ h => h) ks) fun o e => upd_keep e D.n13.symm⟩
theorem DayAt.push2 (D : DayAt G H a L d) {q : Addr} {p : Uw03.Piece} (hq : pcAt G.q L.S H q p) {xs : List V} (h : H L.l2 = some (.lst xs)) : DayAt G (upd H L.l2 (.lst (xs ++ [.ref q]))) a L { d with pieces := d.pieces ++ [p] } := by
  obtain ⟨dx, hI⟩ := D.ins
  obtain ⟨qs, h1, z⟩ := D.pc
  have e := h.symm.trans h1
  cases e
  have ks : ∀ b o, L.S b → H b = some o → upd H L.l2 (.lst (qs.map V.ref ++ [.ref q])) b = some o := fun b o hb e => upd_keep e fun z => D.m2 (z ▸ hb)
  exact ⟨⟨dx, upd_keep hI (ne_of hI h (by intro z; cases z))⟩, D.n12, D.n13, D.n23, D.na, D.m1, D.m2, D.m3, D.pl.keep (plAt.mono (fun _ h => h) ks) fun o e => upd_keep e D.n12, RowAt.push z (pcAt.mono (fun _ h => h) ks) upd_same (pcAt.mono (fun _ h => h) ks _ _ hq), D.pr.keep (prAt.mono (fun _ h => h) ks) fun o e => upd_keep e D.n23.symm⟩
theorem DayAt.push3 (D : DayAt G H a L d) {q : Addr} {p : Nat × Nat} (hq : prAt L.S H q p) {xs : List V} (h : H L.l3 = some (.lst xs)) : DayAt G (upd H L.l3 (.lst (xs ++ [.ref q]))) a L { d with ahead := d.ahead ++ [p] } := by
  obtain ⟨dx, hI⟩ := D.ins
  obtain ⟨qs, h1, z⟩ := D.pr
  have e := h.symm.trans h1
  cases e
  have ks : ∀ b o, L.S b → H b = some o → upd H L.l3 (.lst (qs.map V.ref ++ [.ref q])) b = some o := fun b o hb e => upd_keep e fun z => D.m3 (z ▸ hb)
  exact ⟨⟨dx, upd_keep hI (ne_of hI h (by intro z; cases z))⟩, D.n12, D.n13, D.n23, D.na, D.m1, D.m2, D.m3, D.pl.keep (plAt.mono (fun _ h => h) ks) fun o e => upd_keep e D.n13, D.pc.keep (pcAt.mono (fun _ h => h) ks) fun o e => upd_keep e D.n23, RowAt.push z (prAt.mono (fun _ h => h) ks) upd_same (prAt.mono (fun _ h => h) ks _ _ hq)⟩
/-- the rest of the heap stands; the day's own places are the old ones or new -/
structure Fr (H H' : Hp) (a : Addr) (L L' : Pl) : Prop where
  same : ∀ b o, H b = some o → b ≠ a → ¬ L.has b → H' b = some o
  own : ∀ b, L'.has b → L.has b ∨ H b = none
  free : ∀ b, H' b = none → H b = none
theorem Fr.of_same (s : Same H H') : Fr H H' a L L := ⟨fun b o e _ _ => s b o e, fun _ h => .inl h, fun _ e => s.free e⟩
theorem Fr.of_put (s : Same H H1) {l : Addr} {o : HO} (hl : L.has l) {N : Addr → Prop} (hN : ∀ b, N b → H b = none) : Fr H (upd H1 l o) a L (L.more N) :=
  ⟨fun b u e _ nb => upd_keep (s _ _ e) fun z => nb (z ▸ hl), (fun b hb => by
    rcases hb with h | h | h | h | h
    · exact .inl (.inl h)
    · exact .inl (.inr (.inl h))
    · exact .inl (.inr (.inr (.inl h)))
    · exact .inl (.inr (.inr (.inr h)))
    · exact .inr (hN _ h)), fun b e => s.free (free_upd e)⟩
theorem Fr.after (s : Same H H1) (f : Fr H1 H' a L L') : Fr H H' a L L' :=
  ⟨fun b o e => f.same b o (s _ _ e), fun b h => (f.own b h).imp_right fun e => s.free e, fun b e => s.free (f.free b e)⟩
theorem Fr.then (f : Fr H H1 a L L') (s : Same H1 H') : Fr H H' a L L' :=
  ⟨fun b o e n m => s _ _ (f.same b o e n m), f.own, fun b e => f.free b (s.free e)⟩
/-- what follows a call that may change the day -/
def After (G : Gs) (H : Hp) (a : Addr) (L : Pl) (d : Uw03.Day) (v : V) (Q : VK) : Prop := ∀ (H' : Hp) (L' : Pl), DayAt G H' a L' d → Fr H H' a L L' → Q v H'
theorem After.none {v : V} {Q : VK} (h : After G H a L d v Q) (D : DayAt G H a L d) : Q v H := h H L D (Fr.of_same (Same.refl H))
theorem After.kept {v : V} {Q : VK} (h : After G H a L d v Q) (D : DayAt G H a L d) (s : Same H H') : Q v H' := h H' L (D.same s) (Fr.of_same s)
end
end Rd

set_option Elab.async false
set_option maxRecDepth 100000
set_option maxHeartbeats 4000000
namespace Rd
open PySem PySem.Spec PyProof.Rows L2
open Uw03 (Day Player Piece Order Call)
def top (i : Nat) : Stmt := PySem.Challenge.pw_rehearsalday_s01_answers.main.body.getD i (.Pass ⟨0, 0, 0, 0⟩)
abbrev sInitPlayer : Stmt := inClass (top 16) 0
abbrev sInitPiece : Stmt := inClass (top 17) 0
abbrev sInitDay : Stmt := inClass (top 18) 0
abbrev sBegin : Stmt := inClass (top 18) 1
abbrev sAddPlayer : Stmt := inClass (top 18) 2
abbrev sAddPiece : Stmt := inClass (top 18) 3
abbrev sPutAhead : Stmt := inClass (top 18) 4
abbrev sStaysIn : Stmt := inClass (top 18) 5
abbrev sFirstFault : Stmt := inClass (top 18) 6
abbrev sPayFor : Stmt := inClass (top 18) 7
abbrev sBest : Stmt := inClass (top 18) 8
abbrev sCheck : Stmt := inClass (top 18) 9
abbrev sWork : Stmt := inClass (top 18) 10
abbrev sAllOrders : Stmt := top 19
abbrev sWithLists : Stmt := top 20
abbrev sRiseBelow : Stmt := top 21
abbrev sCallEnd : Stmt := top 22
abbrev sAnswerCall : Stmt := top 23
abbrev sAnswers : Stmt := top 24
structure Txt (K : PySem.W.Frag) (mg : Str → Option Value) (G : Gs) : Prop where
  cl0 : Cls K G.p
  n0Cost : NoAttr K G.p "cost"
  n0Since : NoAttr K G.p "since"
  n0Till : NoAttr K G.p "till"
  gC0 : mg "Player" = some (.ref G.p)
  cl1 : Cls K G.q
  n1Minutes : NoAttr K G.q "minutes"
  n1Players : NoAttr K G.q "players"
  gC1 : mg "Piece" = some (.ref G.q)
  cl2 : Cls K G.d
  n2Players : NoAttr K G.d "players"
  n2Pieces : NoAttr K G.d "pieces"
  n2Pairs : NoAttr K G.d "pairs"
  gC2 : mg "Day" = some (.ref G.d)
  len : mg "len" = none
  range : mg "range" = none
  enumerate : mg "enumerate" = none
  zip : mg "zip" = none
  sorted : mg "sorted" = none
  list : mg "list" = none
  cBegins : ∃ t, mg "BEGINS" = some (.int (0) t)
  cPlayer : ∃ t, mg "PLAYER" = some (.int (1) t)
  cPiece : ∃ t, mg "PIECE" = some (.int (2) t)
  cAhead : ∃ t, mg "AHEAD" = some (.int (3) t)
  cBest : ∃ t, mg "BEST" = some (.int (4) t)
  cCheck : ∃ t, mg "CHECK" = some (.int (5) t)
  cWork : ∃ t, mg "WORK" = some (.int (6) t)
  cBehind : ∃ t, mg "BEHIND" = some (.int (1) t)
  cTooEarly : ∃ t, mg "TOO_EARLY" = some (.int (2) t)
  cTooLate : ∃ t, mg "TOO_LATE" = some (.int (3) t)
  cMostPlayers : ∃ t, mg "MOST_PLAYERS" = some (.int (6) t)
  cMostPieces : ∃ t, mg "MOST_PIECES" = some (.int (6) t)
  cHighestCost : ∃ t, mg "HIGHEST_COST" = some (.int (1000) t)
  cLastMinute : ∃ t, mg "LAST_MINUTE" = some (.int (3600) t)
  cLongestPiece : ∃ t, mg "LONGEST_PIECE" = some (.int (600) t)
theorem pe_const {X : Cx} {x : Str} {i : Int} {pos : Pos} (hg : Gl X x) (hm : ∃ t, X.mg x = some (.int i t)) (hd : (x == ("__debug__" : Str)) = false := by decide) : PE X (.Name x pos) (tC (.int i)) := by
  obtain ⟨t, h⟩ := hm
  exact pe_glob hg h ⟨_, rfl⟩ hd
/-! ### rising -/
def riseFrom (lim : Nat) : Nat → List Nat → Bool
  | _, [] => true
  | lo, x :: l => decide (lo ≤ x) && (decide (x < lim) && riseFrom lim (x + 1) l)
theorem riseFrom_eq (lim : Nat) : ∀ (l : List Nat) (lo : Nat), riseFrom lim lo l = (l.head?.all (fun x => decide (lo ≤ x)) && (Uw03.rising l && l.all fun x => decide (x < lim)))
  | [], lo => rfl
  | [x], lo => by
    show (decide (lo ≤ x) && (decide (x < lim) && true)) = (decide (lo ≤ x) && (true && (decide (x < lim) && true)))
    cases decide (lo ≤ x) <;> cases decide (x < lim) <;> rfl
  | x :: y :: l, lo => by
    show (decide (lo ≤ x) && (decide (x < lim) && riseFrom lim (x + 1) (y :: l))) = (decide (lo ≤ x) && ((decide (x < y) && Uw03.rising (y :: l)) && (decide (x < lim) && (y :: l).all fun x => decide (x < lim))))
    rw [riseFrom_eq lim (y :: l) (x + 1)]
    have e : (y :: l).head?.all (fun z => decide (x + 1 ≤ z)) = decide (x < y) := rfl
    rw [e]
    cases decide (lo ≤ x) <;> cases decide (x < lim) <;> cases decide (x < y) <;> cases Uw03.rising (y :: l) <;> rfl
theorem riseFrom_zero (lim : Nat) (l : List Nat) : riseFrom lim 0 l = (Uw03.rising l && l.all fun x => decide (x < lim)) := by
  rw [riseFrom_eq]
  cases l <;> simp
section
variable {P : Program} {w : World} {K : PySem.W.Frag} {mg : Str → Option Value} {base : Heap} {G : Gs}
/-- the item of a list of numbers -/
theorem ivs_get {l : List Nat} {i : Nat} {y : V} (h : (ivs l)[i]? = some y) : ∃ x, l[i]? = some x ∧ y = V.int (x : Int) := by
  unfold ivs at h
  rw [List.getElem?_map] at h
  cases e : l[i]? with
  | none => rw [e] at h; cases h
  | some z => rw [e] at h; exact ⟨z, rfl, (Option.some.inj h).symm⟩
theorem drop_get {α : Type} {l : List α} {i : Nat} {x : α} (h : l[i]? = some x) : l.drop i = x :: l.drop (i + 1) := by
  obtain ⟨hi, e⟩ := List.getElem?_eq_some_iff.mp h
  rw [List.drop_eq_getElem_cons hi, e]
def spRise (K : PySem.W.Frag) : Sp := fun vs H Q _ => ∃ (p : Addr) (l : List Nat) (lim : Nat), vs = [.ref p, .int (lim : Int)] ∧ SqL K H p (ivs l) ∧ Q (.bl (riseFrom lim 0 l)) H
theorem scR : FnScope ["numbers", "limit", "lowest", "number"] ["numbers", "limit"] (defScope sRiseBelow) := ⟨rfl, rfl, rfl, by decide +kernel, rfl, by decide +kernel, by decide +kernel⟩
theorem ok_rise {f : Addr} {fd : FuncData} (F : Fun K "rise_below" "rise_below" sRiseBelow f fd) : FnOk P w K mg base CX0 1 f fd ["numbers", "limit"] (spRise K) := by
  refine F.ok scR (fun vs H Q E h => ?_) (fun cdv A outer s H vs Q E hr h => ?_)
  · obtain ⟨p, l, lim, rfl, _⟩ := h
    rfl
  · refine ⟨_, pss_cons (ps_set (i := 2) scR.nd rfl (Or.inl rfl) pe_int)
      (pss_cons (ps_for PassesOwn.never rfl (pi_list (pv 0)) (pg_name (i := 3) scR.nd rfl (Or.inl rfl))
        (pss_cons (ps_if (PW.pt (pw_or (pt_cmpR op_lt (pv 3) (pv 2) (nomark _)) (pw_or1 (pt_cmpR op_ge (pv 3) (pv 1) (nomark _))))) (pss_one (ps_ret pe_bl)) pss_nil)
        (pss_one (ps_set (i := 2) scR.nd rfl (Or.inl rfl) (pe_op op_add (pv 3) pe_int)))))
      (pss_one (ps_ret pe_bl))), ?_⟩
    obtain ⟨p, l, lim, rfl, hS, k⟩ := h
    refine ⟨_, rfl, p, rfl, ⟨_, hS⟩, for_list (K := K) (a := p) (xs := ivs l) (fun i σ H' => ∃ (lo : Nat) (v : Option V), H' = H ∧ σ = [some (.ref p), some (.int (lim : Int)), some (.int (lo : Int)), v] ∧ riseFrom lim 0 l = riseFrom lim lo (l.drop i))
      ⟨0, none, rfl, rfl, rfl⟩ (fun i σ H' _ ⟨_, _, e, _⟩ => by rw [e]; exact hS) ?_ ?_⟩
    · rintro i y σ H' hi ⟨lo, v, rfl, rfl, er⟩
      obtain ⟨x, hx, rfl⟩ := ivs_get hi
      rw [drop_get hx] at er
      refine ⟨_, rfl, _, rfl, _, _, rfl, rfl, _, rfl, ?_⟩
      by_cases c1 : (x : Int) < (lo : Int)
      · refine if_true_of (decide_eq_true c1) (iteT ?_)
        have e : riseFrom lim 0 l = false := by
          rw [er]
          show (decide (lo ≤ x) && _) = false
          rw [decide_eq_false (by omega)]
          rfl
        rw [e] at k
        exact k
      refine if_false_of (decide_eq_false c1) ⟨_, rfl, _, rfl, _, _, rfl, rfl, _, rfl, ?_⟩
      by_cases c2 : (lim : Int) ≤ (x : Int)
      · refine if_true_of (decide_eq_true c2) ?_
        have e : riseFrom lim 0 l = false := by
          rw [er]
          show (decide (lo ≤ x) && (decide (x < lim) && _)) = false
          rw [decide_eq_false (p := x < lim) (by omega)]
          simp
        rw [e] at k
        exact k
      refine if_false_of (decide_eq_false c2) ⟨_, rfl, _, _, rfl, rfl, ?_⟩
      refine ⟨x + 1, some (.int (x : Int)), rfl, rfl, ?_⟩
      rw [er]
      show (decide (lo ≤ x) && (decide (x < lim) && riseFrom lim (x + 1) (l.drop (i + 1)))) = _
      rw [decide_eq_true (p := lo ≤ x) (by omega), decide_eq_true (p := x < lim) (by omega)]
      rfl
    · rintro σ H' ⟨lo, v, rfl, rfl, er⟩
      have e : (ivs l).length = l.length := List.length_map ..
      rw [e, List.drop_length] at er
      rw [er] at k
      exact k

/-! ### a player, a piece: made -/
def spMk (C : Addr) (n : Nat) (fs : List V → List (Str × V)) : Sp := fun vs H Q _ => ∃ (x dx : Addr) (us : List V), vs = .ref x :: us ∧ us.length = n ∧ H x = some (.ins C dx []) ∧
  ∀ H' : Hp, (∀ b o, H b = some o → b ≠ x → H' b = some o) → H' x = some (.ins C dx (fs us)) → (∀ b, H' b = none → H b = none) → Q .non H'
def fPl : List V → List (Str × V)
  | [u, v, w] => [("cost", u), ("since", v), ("till", w)]
  | _ => []
def fPc : List V → List (Str × V)
  | [u, v] => [("minutes", u), ("players", v)]
  | _ => []
theorem scM0 : FnScope ["self", "cost", "since", "till"] ["self", "cost", "since", "till"] (defScope sInitPlayer) := ⟨rfl, rfl, rfl, by decide +kernel, rfl, by decide +kernel, by decide +kernel⟩
theorem scM1 : FnScope ["self", "minutes", "players"] ["self", "minutes", "players"] (defScope sInitPiece) := ⟨rfl, rfl, rfl, by decide +kernel, rfl, by decide +kernel, by decide +kernel⟩
theorem put3 (u v w : V) : putF "till" w (putF "since" v (putF "cost" u [])) = fPl [u, v, w] :=
  (congrArg (putF "till" w) ((put_past (by decide +kernel)).trans rfl)).trans ((put_past (by decide +kernel)).trans (congrArg _ ((put_past (by decide +kernel)).trans rfl)))
theorem put2 (u v : V) : putF "players" v (putF "minutes" u []) = fPc [u, v] := (put_past (by decide +kernel)).trans rfl
theorem ok_mkPlayer {f : Addr} {fd : FuncData} (F : Fun K "__init__" "Player.__init__" sInitPlayer f fd) (T : Txt K mg G) : FnOk P w K mg base CX0 1 f fd ["self", "cost", "since", "till"] (spMk G.p 3 fPl) := by
  refine F.ok scM0 (fun vs H Q E h => ?_) (fun cdv A outer s H vs Q E hr h => ?_)
  · obtain ⟨x, dx, us, rfl, hl, _⟩ := h
    show us.length + 1 = 4
    rw [hl]
  · refine ⟨_, pss_cons (ps_fld (pv 0) (pv 1) rfl) (pss_cons (ps_fld (pv 0) (pv 2) rfl) (pss_one (ps_fld (pv 0) (pv 3) rfl))), ?_⟩
    obtain ⟨x, dx, us, rfl, hl, hx, k⟩ := h
    match us, hl, k with
    | [u, v, w], _, k =>
      refine ⟨_, rfl, _, rfl, x, G.p, dx, [], rfl, hx, T.cl0, T.n0Cost, (by show 0 < 1000; decide), ?_⟩
      refine ⟨_, rfl, _, rfl, x, G.p, dx, _, rfl, upd_same, T.cl0, T.n0Since, (by show 1 < 1000; decide), ?_⟩
      refine ⟨_, rfl, _, rfl, x, G.p, dx, _, rfl, upd_same, T.cl0, T.n0Till, (by show 2 < 1000; decide), ?_⟩
      refine k _ (fun b o e n => ?_) ?_ (fun b e => ?_)
      · exact upd_keep (upd_keep (upd_keep e n) n) n
      · rw [upd_same]
        exact congrArg (fun z => some (HO.ins G.p dx z)) (put3 u v w)
      · exact free_upd (free_upd (free_upd e))
theorem ok_mkPiece {f : Addr} {fd : FuncData} (F : Fun K "__init__" "Piece.__init__" sInitPiece f fd) (T : Txt K mg G) : FnOk P w K mg base CX0 1 f fd ["self", "minutes", "players"] (spMk G.q 2 fPc) := by
  refine F.ok scM1 (fun vs H Q E h => ?_) (fun cdv A outer s H vs Q E hr h => ?_)
  · obtain ⟨x, dx, us, rfl, hl, _⟩ := h
    show us.length + 1 = 3
    rw [hl]
  · refine ⟨_, pss_cons (ps_fld (pv 0) (pv 1) rfl) (pss_one (ps_fld (pv 0) (pv 2) rfl)), ?_⟩
    obtain ⟨x, dx, us, rfl, hl, hx, k⟩ := h
    match us, hl, k with
    | [u, v], _, k =>
      refine ⟨_, rfl, _, rfl, x, G.q, dx, [], rfl, hx, T.cl1, T.n1Minutes, (by show 0 < 1000; decide), ?_⟩
      refine ⟨_, rfl, _, rfl, x, G.q, dx, _, rfl, upd_same, T.cl1, T.n1Players, (by show 1 < 1000; decide), ?_⟩
      refine k _ (fun b o e n => ?_) ?_ (fun b e => ?_)
      · exact upd_keep (upd_keep e n) n
      · rw [upd_same]
        exact congrArg (fun z => some (HO.ins G.q dx z)) (put2 u v)
      · exact free_upd (free_upd e)
/-! ### a player -/
def spPlayer (G : Gs) : Sp := fun vs H Q _ => ∃ (a : Addr) (L : Pl) (d : Day) (n : Nat) (p : Player), vs = [.ref a, .int (p.rate : Int), .int (p.from_ : Int), .int (p.till : Int)] ∧ DayAt G H a L d ∧ Ok d n ∧
  After G H a L (Uw03.step d (.player p)).1 (.int (Uw03.step d (.player p)).2.v) Q
theorem scP : FnScope ["self", "cost", "since", "till"] ["self", "cost", "since", "till"] (defScope sAddPlayer) := ⟨rfl, rfl, rfl, by decide +kernel, rfl, by decide +kernel, by decide +kernel⟩
theorem ok_player {f f0 : Addr} {fd fd0 : FuncData} (F : Fun K "add_player" "Day.add_player" sAddPlayer f fd) (T : Txt K mg G) (M : Mk K G.p f0) (G0 : FnOk P w K mg base CX0 1 f0 fd0 ["self", "cost", "since", "till"] (spMk G.p 3 fPl)) (b0 : Binds K fd0 ["self", "cost", "since", "till"] []) : FnOk P w K mg base CX0 3 f fd ["self", "cost", "since", "till"] (spPlayer G) := by
  refine F.ok scP (fun vs H Q E h => ?_) (fun cdv A outer s H vs Q E hr h => ?_)
  · obtain ⟨a, L, d, n, p, rfl, _⟩ := h
    rfl
  · refine ⟨_, pss_cons (ps_if (PW.pt (pw_or (pt_cmpR op_gt (pv 1) (pe_const (by rfl) T.cHighestCost) (nomark _)) (pw_or (pt_cmpR op_lt (pv 3) (pv 2) (nomark _)) (pw_or1 (pt_cmpR op_gt (pv 3) (pe_const (by rfl) T.cLastMinute) (nomark _)))))) (pss_one (ps_ret (pe_un un_neg pe_int))) pss_nil)
      (pss_cons (ps_if (pt_cmpR op_gt (pe_callB call_len_seq (by rfl) T.len PySem.boot_len (pa_cons (pe_fld (pv 0) rfl) pa_nil)) pe_int (nomark _)) (pss_one (ps_ret (pe_un un_neg pe_int))) pss_nil)
      (pss_cons (ps_if (pt_cmpR op_eq (pe_callB call_len_seq (by rfl) T.len PySem.boot_len (pa_cons (pe_fld (pv 0) rfl) pa_nil)) (pe_const (by rfl) T.cMostPlayers) (nomark _)) (pss_one (ps_ret (pe_un un_neg pe_int))) pss_nil)
      (pss_cons (ps_expr (pe_bm PySem.F.plainAttrs_list PySem.F.slot_list_append PySem.F.type_list_append mt_append (pe_fld (pv 0) rfl) (pa_cons (pe_make M G0 hr (by rfl) T.gC0 b0 .nil pass0 (pa_cons (pv 1) (pa_cons (pv 2) (pa_cons (pv 3) pa_nil)))) pa_nil)))
      (pss_one (ps_ret (pe_op op_sub (pe_callB call_len_seq (by rfl) T.len PySem.boot_len (pa_cons (pe_fld (pv 0) rfl) pa_nil)) pe_int)))))), ?_⟩
    obtain ⟨a, L, d, n, p, rfl, D, ok, k⟩ := h
    obtain ⟨dx, hI⟩ := D.ins
    obtain ⟨q1, h1, z1⟩ := D.pl
    obtain ⟨q2, h2, z2⟩ := D.pc
    have bad : Uw03.RATE < p.rate ∨ p.till < p.from_ ∨ Uw03.DAY < p.till → Q (.int (-1)) H := fun c => by
      have e : Uw03.step d (.player p) = (d, Uw03.ok (-1)) := if_pos c
      rw [e] at k
      exact k.none D
    refine ⟨_, rfl, _, _, rfl, rfl, _, rfl, ?_⟩
    by_cases c1 : (1000 : Int) < (p.rate : Int)
    · exact if_true_of (decide_eq_true c1) (iteT ⟨_, rfl, bad (.inl (by show 1000 < p.rate; omega))⟩)
    refine if_false_of (decide_eq_false c1) ⟨_, rfl, _, rfl, _, _, rfl, rfl, _, rfl, ?_⟩
    by_cases c2 : (p.till : Int) < (p.from_ : Int)
    · exact if_true_of (decide_eq_true c2) (iteT ⟨_, rfl, bad (.inr (.inl (by omega)))⟩)
    refine if_false_of (decide_eq_false c2) ⟨_, rfl, _, _, rfl, rfl, _, rfl, ?_⟩
    by_cases c3 : (3600 : Int) < (p.till : Int)
    · exact if_true_of (decide_eq_true c3) ⟨_, rfl, bad (.inr (.inr (by show 3600 < p.till; omega)))⟩
    have c : ¬ (Uw03.RATE < p.rate ∨ p.till < p.from_ ∨ Uw03.DAY < p.till) := by
      rw [show Uw03.RATE = 1000 from rfl, show Uw03.DAY = 3600 from rfl]
      omega
    have lq : (q2.map V.ref).length = d.pieces.length := by rw [List.length_map, z2.length]
    refine if_false_of (decide_eq_false c3) ⟨_, rfl, a, G.d, dx, _, _, rfl, hI, T.cl2, T.n2Pieces, dF_pieces _ _ _, L.l2, _, rfl, .inl (SqL.of h2), _, _, rfl, rfl, _, rfl, ?_⟩
    by_cases c4 : (0 : Int) < ((q2.map V.ref).length : Int)
    · refine if_true_of (decide_eq_true c4) ⟨_, rfl, ?_⟩
      have ne : d.pieces ≠ [] := fun e => by rw [e] at lq; rw [lq] at c4; exact absurd c4 (by decide)
      have e : Uw03.step d (.player p) = (d, Uw03.ok (-4)) := (if_neg c).trans (if_pos ne)
      rw [e] at k
      exact k.none D
    have ne : ¬ d.pieces ≠ [] := fun e => by
      have := List.length_pos_iff.mpr e
      omega
    have lp : (q1.map V.ref).length = d.players.length := by rw [List.length_map, z1.length]
    refine if_false_of (decide_eq_false c4) ⟨_, rfl, a, G.d, dx, _, _, rfl, hI, T.cl2, T.n2Players, dF_players _ _ _, L.l1, _, rfl, .inl (SqL.of h1), rfl, _, rfl, ?_⟩
    by_cases c5 : d.players.length = 6
    · refine if_true_of (decide_eq_true (by rw [lp, c5]; rfl)) ⟨_, rfl, ?_⟩
      have e : Uw03.step d (.player p) = (d, Uw03.ok (-5)) := (if_neg c).trans ((if_neg ne).trans (if_pos (by show 6 ≤ d.players.length; omega)))
      rw [e] at k
      exact k.none D
    refine if_false_of (decide_eq_false (by rw [lp]; intro e; have := V.int.inj e; omega)) ?_
    have n6 := ok.nP
    have e : Uw03.step d (.player p) = ({ d with players := d.players ++ [p] }, Uw03.ok (d.players.length : Nat)) := (if_neg c).trans ((if_neg ne).trans (if_neg (by show ¬ 6 ≤ d.players.length; omega)))
    rw [e] at k
    refine ⟨_, rfl, a, G.d, dx, _, _, rfl, hI, T.cl2, T.n2Players, dF_players _ _ _, .inl ⟨rfl, _, SqL.of h1⟩, _, rfl, _, rfl, _, rfl, fun x dx2 nx ndx nex => ?_⟩
    refine ⟨x, dx2, _, rfl, rfl, upd_same, fun H1 kp hx fr => ⟨rfl, ?_⟩⟩
    have s1 : Same H H1 := Same.made nx ndx kp
    refine ⟨L.l1, _, _, rfl, rfl, s1 _ _ h1, (by rw [lp]; exact small1000 (by omega)), ?_⟩
    have D1 := (D.grow s1 (N := fun b => b = x) (fun b e => e ▸ nx)).push1 (q := x) (p := p) (xs := q1.map V.ref) ⟨.inr rfl, dx2, hx⟩ (s1 _ _ h1)
    obtain ⟨dx3, hI3⟩ := D1.ins
    refine ⟨_, rfl, a, G.d, dx3, _, _, rfl, hI3, T.cl2, T.n2Players, dF_players _ _ _, L.l1, _, rfl, .inl (SqL.of upd_same), _, _, rfl, rfl, ?_⟩
    have ev : (((q1.map V.ref ++ [V.ref x]).length : Nat) : Int) - 1 = ((d.players.length : Nat) : Int) := by
      rw [List.length_append, lp]
      show ((d.players.length + 1 : Nat) : Int) - 1 = _
      omega
    show Q (V.int ((((q1.map V.ref ++ [V.ref x]).length : Nat) : Int) - 1)) _
    rw [ev]
    exact k _ _ D1 (Fr.of_put s1 (.inl rfl) fun b e => e ▸ nx)
/-! ### a piece -/
def spPiece (K : PySem.W.Frag) (G : Gs) : Sp := fun vs H Q _ => ∃ (a b : Addr) (L : Pl) (d : Day) (n m : Nat) (l : List Nat), vs = [.ref a, .int (m : Int), .ref b] ∧ DayAt G H a L d ∧ Ok d n ∧ SqL K H b (ivs l) ∧ l.length ≤ 20 ∧
  After G H a L (Uw03.step d (.piece m l)).1 (.int (Uw03.step d (.piece m l)).2.v) Q
theorem scQ : FnScope ["self", "minutes", "players"] ["self", "minutes", "players"] (defScope sAddPiece) := ⟨rfl, rfl, rfl, by decide +kernel, rfl, by decide +kernel, by decide +kernel⟩
theorem ok_piece {f f0 : Addr} {fd fd0 : FuncData} (F : Fun K "add_piece" "Day.add_piece" sAddPiece f fd) (T : Txt K mg G) (R : DefOk P w K mg base "rise_below" 1 ["numbers", "limit"] (spRise K)) (M : Mk K G.q f0) (G0 : FnOk P w K mg base CX0 1 f0 fd0 ["self", "minutes", "players"] (spMk G.q 2 fPc)) (b0 : Binds K fd0 ["self", "minutes", "players"] []) : FnOk P w K mg base CX0 3 f fd ["self", "minutes", "players"] (spPiece K G) := by
  refine F.ok scQ (fun vs H Q E h => ?_) (fun cdv A outer s H vs Q E hr h => ?_)
  · obtain ⟨a, b, L, d, n, m, l, rfl, _⟩ := h
    rfl
  · have hr1 : Room 1 _ := hr.mono (by decide)
    refine ⟨_, pss_cons (ps_if (PW.pt (pw_or (pt_cmpR op_lt (pv 1) pe_int (nomark _)) (pw_or1 (pt_cmpR op_gt (pv 1) (pe_const (by rfl) T.cLongestPiece) (nomark _))))) (pss_one (ps_ret (pe_un un_neg pe_int))) pss_nil)
      (pss_cons (ps_if (pt_not (pt_val (pe_def R hr1 (by rfl) (pa_cons (pv 2) (pa_cons (pe_callB call_len_seq (by rfl) T.len PySem.boot_len (pa_cons (pe_fld (pv 0) rfl) pa_nil)) pa_nil))))) (pss_one (ps_ret (pe_un un_neg pe_int))) pss_nil)
      (pss_cons (ps_if (pt_cmpR op_eq (pe_callB call_len_seq (by rfl) T.len PySem.boot_len (pa_cons (pe_fld (pv 0) rfl) pa_nil)) (pe_const (by rfl) T.cMostPieces) (nomark _)) (pss_one (ps_ret (pe_un un_neg pe_int))) pss_nil)
      (pss_cons (ps_expr (pe_bm PySem.F.plainAttrs_list PySem.F.slot_list_append PySem.F.type_list_append mt_append (pe_fld (pv 0) rfl) (pa_cons (pe_make M G0 hr (by rfl) T.gC1 b0 .nil pass0 (pa_cons (pv 1) (pa_cons (pe_callTy call_list_of (by rfl) T.list (by decide +kernel) (pa_cons (pv 2) pa_nil)) pa_nil))) pa_nil)))
      (pss_one (ps_ret (pe_op op_sub (pe_callB call_len_seq (by rfl) T.len PySem.boot_len (pa_cons (pe_fld (pv 0) rfl) pa_nil)) pe_int)))))), ?_⟩
    obtain ⟨a, b, L, d, n, m, l, rfl, D, ok, hS, hl, k⟩ := h
    obtain ⟨dx, hI⟩ := D.ins
    obtain ⟨q1, h1, z1⟩ := D.pl
    obtain ⟨q2, h2, z2⟩ := D.pc
    have bad : m < 1 ∨ Uw03.LONG < m ∨ Uw03.rising l = false ∨ (l.all fun a => decide (a < d.players.length)) = false → Q (.int (-1)) H := fun c => by
      have e : Uw03.step d (.piece m l) = (d, Uw03.ok (-1)) := if_pos c
      rw [e] at k
      exact k.none D
    refine ⟨_, rfl, _, _, rfl, rfl, _, rfl, ?_⟩
    by_cases c1 : (m : Int) < 1
    · exact if_true_of (decide_eq_true c1) (iteT ⟨_, rfl, bad (.inl (by omega))⟩)
    refine if_false_of (decide_eq_false c1) ⟨_, rfl, _, _, rfl, rfl, _, rfl, ?_⟩
    by_cases c2 : (600 : Int) < (m : Int)
    · exact if_true_of (decide_eq_true c2) ⟨_, rfl, bad (.inr (.inl (by show 600 < m; omega)))⟩
    have lp : (q1.map V.ref).length = d.players.length := by rw [List.length_map, z1.length]
    have lq : (q2.map V.ref).length = d.pieces.length := by rw [List.length_map, z2.length]
    refine if_false_of (decide_eq_false c2) ⟨_, rfl, _, rfl, a, G.d, dx, _, _, rfl, hI, T.cl2, T.n2Players, dF_players _ _ _, L.l1, _, rfl, .inl (SqL.of h1), b, l, d.players.length, by rw [lp]; rfl, hS, _, rfl, ?_⟩
    have er := riseFrom_zero d.players.length l
    cases c3 : riseFrom d.players.length 0 l with
    | false =>
      rw [c3] at er
      refine iteT ⟨_, rfl, bad (.inr (.inr ?_))⟩
      cases e1 : Uw03.rising l with
      | false => exact .inl rfl
      | true =>
        rw [e1] at er
        exact .inr er.symm
    | true =>
      rw [c3] at er
      have er' := Bool.and_eq_true_iff.mp er.symm
      have c : ¬ (m < 1 ∨ Uw03.LONG < m ∨ Uw03.rising l = false ∨ (l.all fun a => decide (a < d.players.length)) = false) := by
        rw [show Uw03.LONG = 600 from rfl, er'.1, er'.2]
        simp
        omega
      refine iteF ⟨_, rfl, a, G.d, dx, _, _, rfl, hI, T.cl2, T.n2Pieces, dF_pieces _ _ _, L.l2, _, rfl, .inl (SqL.of h2), rfl, _, rfl, ?_⟩
      by_cases c5 : d.pieces.length = 6
      · refine if_true_of (decide_eq_true (by rw [lq, c5]; rfl)) ⟨_, rfl, ?_⟩
        have e : Uw03.step d (.piece m l) = (d, Uw03.ok (-5)) := (if_neg c).trans (if_pos (by show 6 ≤ d.pieces.length; omega))
        rw [e] at k
        exact k.none D
      refine if_false_of (decide_eq_false (by rw [lq]; intro e; have := V.int.inj e; omega)) ?_
      have n6 := ok.nQ
      have e : Uw03.step d (.piece m l) = ({ d with pieces := d.pieces ++ [⟨m, l⟩] }, Uw03.ok (d.pieces.length : Nat)) := (if_neg c).trans (if_neg (by show ¬ 6 ≤ d.pieces.length; omega))
      rw [e] at k
      refine ⟨_, rfl, a, G.d, dx, _, _, rfl, hI, T.cl2, T.n2Pieces, dF_pieces _ _ _, .inl ⟨rfl, _, SqL.of h2⟩, _, rfl, _, rfl, b, ivs l, rfl, .inl hS, fun t ht => ?_⟩
      have s0 : Same H (upd H t (.lst (ivs l))) := same_new ht
      intro x dx2 nx ndx nex
      refine ⟨x, dx2, _, rfl, rfl, upd_same, fun H1 kp hx fr => ⟨rfl, ?_⟩⟩
      have s1 : Same (upd H t (.lst (ivs l))) H1 := Same.made nx ndx kp
      have s2 := s0.trans s1
      have hN : ∀ b, b = x ∨ b = t → H b = none := fun b e => by
        rcases e with e | e
        · rw [e]; exact s0.free nx
        · rw [e]; exact ht
      refine ⟨L.l2, _, _, rfl, rfl, s2 _ _ h2, (by rw [lq]; exact small1000 (by omega)), ?_⟩
      have D1 := (D.grow s2 (N := fun b => b = x ∨ b = t) hN).push2 (q := x) (p := ⟨m, l⟩) (xs := q2.map V.ref) ⟨.inr (.inl rfl), dx2, t, hx, .inr (.inr rfl), s1 _ _ upd_same⟩ (s2 _ _ h2)
      obtain ⟨dx3, hI3⟩ := D1.ins
      refine ⟨_, rfl, a, G.d, dx3, _, _, rfl, hI3, T.cl2, T.n2Pieces, dF_pieces _ _ _, L.l2, _, rfl, .inl (SqL.of upd_same), _, _, rfl, rfl, ?_⟩
      have ev : (((q2.map V.ref ++ [V.ref x]).length : Nat) : Int) - 1 = ((d.pieces.length : Nat) : Int) := by
        rw [List.length_append, lq]
        show ((d.pieces.length + 1 : Nat) : Int) - 1 = _
        omega
      show Q (V.int ((((q2.map V.ref ++ [V.ref x]).length : Nat) : Int) - 1)) _
      rw [ev]
      exact k _ _ D1 (Fr.of_put s2 (.inr (.inl rfl)) hN)
/-! ### ahead -/
def pairD (x : Nat × Nat) : PyData := .tuple [.int (x.1 : Int), .int (x.2 : Int)]
theorem pairDs_lay (zs : List (Nat × Nat)) : PyData.canLayAll0 (zs.map pairD) = true := by
  induction zs with
  | nil => rw [List.map_nil, PyData.canLayAll0]
  | cons z zs ih => rw [List.map_cons, PyData.canLayAll0, ih]; simp only [pairD, PyData.canLay0, PyData.canLayAll0, Bool.and_self]
theorem pairDs_depth (zs : List (Nat × Nat)) : PyData.depthAll (zs.map pairD) ≤ 2 := by
  induction zs with
  | nil => rw [List.map_nil, PyData.depthAll]; omega
  | cons z zs ih =>
    rw [List.map_cons, PyData.depthAll]
    have h : (pairD z).depth ≤ 2 := by simp [pairD, PyData.depth, PyData.depthAll]
    omega
theorem pairD_shaped (z : Nat × Nat) : SeqAt.shaped (pairD z) = true := by
  unfold SeqAt.shaped pairD
  simp [PyData.canLay0, PyData.canLayAll0, PyData.depth, PyData.depthAll]
theorem pairDs_shaped (zs : List (Nat × Nat)) : SeqAt.shaped (.list (zs.map pairD)) = true := by
  have h1 := pairDs_depth zs
  unfold SeqAt.shaped
  rw [PyData.canLay0, pairDs_lay zs, PyData.depth, Bool.true_and]
  exact decide_eq_true (by omega)
theorem pairD_eqv (z y : Nat × Nat) : PyData.eqv (pairD z) (pairD y) = decide (z = y) := by
  obtain ⟨a, b⟩ := z
  obtain ⟨a', b'⟩ := y
  have e : PyData.eqv (pairD (a, b)) (pairD (a', b')) = (((a : Int) == (a' : Int)) && (((b : Int) == (b' : Int)) && true)) := by simp only [pairD, PyData.eqv, PyData.eqvAll]
  rw [e, Bool.and_true, Bool.eq_iff_iff]
  simp only [Bool.and_eq_true, beq_iff_eq, decide_eq_true_eq, Prod.mk.injEq]
  omega
theorem pairs_any (zs : List (Nat × Nat)) (y : Nat × Nat) : ((zs.map pairD).any fun z => PyData.eqv z (pairD y)) = zs.contains y := by
  induction zs with
  | nil => rfl
  | cons z zs ih =>
    rw [List.map_cons, List.any_cons, ih, pairD_eqv, List.contains_cons]
    congr 1
    by_cases h : z = y
    · subst h
      simp
    · rw [decide_eq_false h]
      symm
      exact beq_eq_false_iff_ne.mpr fun e => h e.symm
theorem pairs_dp {H : Hp} {qs : List Addr} {S : Addr → Prop} {zs : List (Nat × Nat)} (h : All2 (prAt S H) qs zs) : DpAll K H (qs.map V.ref) (zs.map pairD) := by
  induction h with
  | nil => exact .nil
  | cons x _ ih => exact .cons (.tup (SqT.of x.2) (.cons (.int _) (.cons (.int _) .nil))) ih
theorem hu65 {A : Around} {k : Nat} (hr : Room k A) : A.units + 65 < cLine := by have := hr.un; omega
def spAhead (G : Gs) : Sp := fun vs H Q _ => ∃ (a : Addr) (L : Pl) (d : Day) (n i j : Nat), vs = [.ref a, .int (i : Int), .int (j : Int)] ∧ DayAt G H a L d ∧ Ok d n ∧ n ≤ 100 ∧
  After G H a L (Uw03.step d (.ahead i j)).1 (.int (Uw03.step d (.ahead i j)).2.v) Q
theorem scH : FnScope ["self", "i", "j"] ["self", "i", "j"] (defScope sPutAhead) := ⟨rfl, rfl, rfl, by decide +kernel, rfl, by decide +kernel, by decide +kernel⟩
theorem ok_ahead {f : Addr} {fd : FuncData} (F : Fun K "put_ahead" "Day.put_ahead" sPutAhead f fd) (T : Txt K mg G) : FnOk P w K mg base CX0 1 f fd ["self", "i", "j"] (spAhead G) := by
  refine F.ok scH (fun vs H Q E h => ?_) (fun cdv A outer s H vs Q E hr h => ?_)
  · obtain ⟨a, L, d, n, i, j, rfl, _⟩ := h
    rfl
  · refine ⟨_, pss_cons (ps_if (PW.pt (pw_or (pt_cmpR op_ge (pv 1) (pe_callB call_len_seq (by rfl) T.len PySem.boot_len (pa_cons (pe_fld (pv 0) rfl) pa_nil)) (nomark _)) (pw_or1 (pt_cmpR op_ge (pv 2) (pe_callB call_len_seq (by rfl) T.len PySem.boot_len (pa_cons (pe_fld (pv 0) rfl) pa_nil)) (nomark _))))) (pss_one (ps_ret (pe_un un_neg pe_int))) pss_nil)
      (pss_cons (ps_if (PW.pt (pw_or (pt_cmpR op_eq (pv 1) (pv 2) (nomark _)) (pw_or1 (pt_cmpR (op_inD (hu65 hr)) (pe_tup (pa_cons (pv 1) (pa_cons (pv 2) pa_nil))) (pe_fld (pv 0) rfl) (by rfl))))) (pss_one (ps_ret (pe_un un_neg pe_int))) pss_nil)
      (pss_cons (ps_expr (pe_bm PySem.F.plainAttrs_list PySem.F.slot_list_append PySem.F.type_list_append mt_append (pe_fld (pv 0) rfl) (pa_cons (pe_tup (pa_cons (pv 1) (pa_cons (pv 2) pa_nil))) pa_nil)))
      (pss_one (ps_ret (pe_callB call_len_seq (by rfl) T.len PySem.boot_len (pa_cons (pe_fld (pv 0) rfl) pa_nil)))))), ?_⟩
    obtain ⟨a, L, d, n, i, j, rfl, D, ok, hn, k⟩ := h
    obtain ⟨dx, hI⟩ := D.ins
    obtain ⟨q2, h2, z2⟩ := D.pc
    obtain ⟨q3, h3, z3⟩ := D.pr
    have lq : (q2.map V.ref).length = d.pieces.length := by rw [List.length_map, z2.length]
    have lr : (q3.map V.ref).length = d.ahead.length := by rw [List.length_map, z3.length]
    have bad : d.pieces.length ≤ i ∨ d.pieces.length ≤ j → Q (.int (-2)) H := fun c => by
      have e : Uw03.step d (.ahead i j) = (d, Uw03.ok (-2)) := if_pos c
      rw [e] at k
      exact k.none D
    refine ⟨_, rfl, _, rfl, a, G.d, dx, _, _, rfl, hI, T.cl2, T.n2Pieces, dF_pieces _ _ _, L.l2, _, rfl, .inl (SqL.of h2), _, _, rfl, rfl, _, rfl, ?_⟩
    rw [lq]
    by_cases c1 : (d.pieces.length : Int) ≤ (i : Int)
    · exact if_true_of (decide_eq_true c1) (iteT ⟨_, rfl, bad (.inl (by omega))⟩)
    refine if_false_of (decide_eq_false c1) ⟨_, rfl, _, rfl, a, G.d, dx, _, _, rfl, hI, T.cl2, T.n2Pieces, dF_pieces _ _ _, L.l2, _, rfl, .inl (SqL.of h2), _, _, rfl, rfl, _, rfl, ?_⟩
    rw [lq]
    by_cases c2 : (d.pieces.length : Int) ≤ (j : Int)
    · exact if_true_of (decide_eq_true c2) ⟨_, rfl, bad (.inr (by omega))⟩
    have c : ¬ (d.pieces.length ≤ i ∨ d.pieces.length ≤ j) := by omega
    have bad2 : ∀ H' : Hp, Same H H' → i = j ∨ d.ahead.contains (i, j) = true → Q (.int (-3)) H' := fun H' sG c' => by
      have e : Uw03.step d (.ahead i j) = (d, Uw03.ok (-3)) := (if_neg c).trans (if_pos c')
      rw [e] at k
      exact k.kept D sG
    refine if_false_of (decide_eq_false c2) ⟨_, rfl, _, rfl, rfl, _, rfl, ?_⟩
    by_cases c3 : i = j
    · exact if_true_of (decide_eq_true (by rw [c3])) (iteT ⟨_, rfl, bad2 H (Same.refl H) (.inl c3)⟩)
    refine if_false_of (decide_eq_false (fun e => c3 (by have := V.int.inj e; omega))) ⟨_, rfl, _, rfl, (by show 2 ≤ sizeLine; decide), fun t ht => ?_⟩
    have s1 : Same H (upd H t (.tup [.int (i : Int), .int (j : Int)])) := same_new ht
    generalize hG : upd H t (.tup [.int (i : Int), .int (j : Int)]) = H1 at s1
    have gt : H1 t = some (.tup [.int (i : Int), .int (j : Int)]) := by rw [← hG]; exact upd_same
    refine ⟨_, rfl, a, G.d, dx, _, _, rfl, s1 _ _ hI, T.cl2, T.n2Pairs, dF_pairs _ _ _, pairD (i, j), d.ahead.map pairD, .tup (SqT.of gt) (.cons (.int _) (.cons (.int _) .nil)), .lst (SqL.of (s1 _ _ h3)) (pairs_dp (z3.imp (prAt.mono (fun _ h => h) fun b o _ => s1 b o))), pairD_shaped _, pairDs_shaped _, _, rfl, ?_⟩
    rw [pairs_any]
    cases c4 : d.ahead.contains (i, j) with
    | true => exact iteT ⟨_, rfl, bad2 H1 s1 (.inr c4)⟩
    | false =>
      refine iteF ⟨_, rfl, a, G.d, dx, _, _, rfl, s1 _ _ hI, T.cl2, T.n2Pairs, dF_pairs _ _ _, .inl ⟨rfl, _, SqL.of (s1 _ _ h3)⟩, _, rfl, _, rfl, (by show 2 ≤ sizeLine; decide), fun q hq => ?_⟩
      have e : Uw03.step d (.ahead i j) = ({ d with ahead := d.ahead ++ [(i, j)] }, Uw03.ok (d.ahead.length + 1 : Nat)) := (if_neg c).trans (if_neg (by rw [c4]; simp; exact c3))
      rw [e] at k
      have s2 : Same H1 (upd H1 q (.tup [.int (i : Int), .int (j : Int)])) := same_new hq
      have s3 := s1.trans s2
      have nA := ok.nA
      refine ⟨L.l3, _, _, rfl, rfl, s3 _ _ h3, (by rw [lr]; exact small1000 (by omega)), ?_⟩
      have hN : ∀ b, b = q → H b = none := fun b e => e ▸ s1.free hq
      have D1 := (D.grow s3 (N := fun b => b = q) hN).push3 (q := q) (p := (i, j)) (xs := q3.map V.ref) ⟨.inr rfl, upd_same⟩ (s3 _ _ h3)
      obtain ⟨dx3, hI3⟩ := D1.ins
      refine ⟨_, rfl, a, G.d, dx3, _, _, rfl, hI3, T.cl2, T.n2Pairs, dF_pairs _ _ _, L.l3, _, rfl, .inl (SqL.of upd_same), ?_⟩
      have ev : (q3.map V.ref ++ [V.ref q]).length = d.ahead.length + 1 := by
        rw [List.length_append, lr]
        rfl
      show Q (V.int (((q3.map V.ref ++ [V.ref q]).length : Nat) : Int)) _
      rw [ev]
      exact k _ _ D1 (Fr.of_put s3 (.inr (.inr (.inl rfl))) hN)
end
end Rd

set_option Elab.async false
set_option maxRecDepth 100000
set_option maxHeartbeats 4000000
namespace Rd
open PySem PySem.Spec PyProof.Rows L2
open Uw03 (Day Player Piece Order Call)
/-! ### lists of numbers -/
def lsAt (H : Hp) (q : Addr) (xs : List Nat) : Prop := H q = some (.lst (ivs xs))
theorem lsAt.mono {H H' : Hp} (s : Same H H') (q : Addr) (xs : List Nat) (h : lsAt H q xs) : lsAt H' q xs := s _ _ h
theorem same_put {H H' : Hp} {p : Addr} {o : HO} (s : Same H H') (hp : H p = none) : Same H (upd H' p o) := fun b u e => by rw [upd_ne (ne_of_none e hp)]; exact s b u e
/-- a list of such lists, stored at: it is another object than they are, if it is newer -/
theorem All2.put {H H' : Hp} {qs : List Addr} {xs : List (List Nat)} {p : Addr} {o : HO} (a : All2 (lsAt H) qs xs) (s : Same H H') (hp : H p = none) : All2 (lsAt (upd H' p o)) qs xs := a.imp fun q x h => lsAt.mono (same_put s hp) q x h
theorem ivs_len (l : List Nat) : (ivs l).length = l.length := List.length_map ..
theorem ivs_at {l : List Nat} {i x : Nat} (h : l[i]? = some x) : (ivs l)[i]? = some (V.int (x : Int)) := by
  unfold ivs
  rw [List.getElem?_map, h]
  rfl
theorem inV_ivs (k : Nat) (l : List Nat) : inV (.int (k : Int)) (ivs l) = l.contains k := by
  unfold inV ivs
  induction l with
  | nil => rfl
  | cons x l ih =>
    rw [List.map_cons, List.any_cons, ih, List.contains_cons]
    congr 1
    show ((x : Int) == (k : Int)) = (k == x)
    by_cases e : x = k
    · subst e
      simp
    · have e' : ¬ k = x := fun z => e z.symm
      have e2 : ¬ (x : Int) = (k : Int) := by omega
      rw [beq_eq_false_iff_ne.mpr e', beq_eq_false_iff_ne.mpr e2]
theorem ivs_flat (l : List Nat) : (ivs l).all flatV = true := by
  unfold ivs
  rw [List.all_map]
  simp [flatV]
theorem ref_get {qs : List Addr} {i : Nat} {y : V} (h : (qs.map V.ref)[i]? = some y) : ∃ q, qs[i]? = some q ∧ y = .ref q := by
  rw [List.getElem?_map] at h
  cases e : qs[i]? with
  | none => rw [e] at h; cases h
  | some z => rw [e] at h; exact ⟨z, rfl, (Option.some.inj h).symm⟩
theorem ref_at {qs : List Addr} {i : Nat} {q : Addr} (h : qs[i]? = some q) : (qs.map V.ref)[i]? = some (.ref q) := by
  rw [List.getElem?_map, h]
  rfl
theorem All2.at {α β : Type} {R : α → β → Prop} : ∀ {l : List α} {m : List β}, All2 R l m → ∀ {i : Nat} {a : α}, l[i]? = some a → ∃ b, m[i]? = some b ∧ R a b
  | _, _, .nil, i, b, h => by simp at h
  | _, _, .cons (b := b) x _, 0, a, h => by
    have e := Option.some.inj h
    subst e
    exact ⟨b, rfl, x⟩
  | _, _, .cons _ r, i + 1, a, h => r.at (i := i) h
theorem All2.cat {α β : Type} {R : α → β → Prop} : ∀ {l : List α} {m : List β} {l' : List α} {m' : List β}, All2 R l m → All2 R l' m' → All2 R (l ++ l') (m ++ m')
  | _, _, _, _, .nil, b => b
  | _, _, _, _, .cons x r, b => .cons x (r.cat b)
theorem All2.set {α β : Type} {R : α → β → Prop} {a : α} {b : β} (h : R a b) : ∀ {l : List α} {m : List β}, All2 R l m → ∀ i, All2 R (l.set i a) (m.set i b)
  | _, _, .nil, _ => .nil
  | _, _, .cons _ r, 0 => .cons h r
  | _, _, .cons x r, i + 1 => .cons x (r.set h i)
section
variable {P : Program} {w : World} {K : PySem.W.Frag} {mg : Str → Option Value} {base : Heap} {G : Gs}
/-! ### a number and lists -/
def flat1 (ls : List (List Nat)) : List Int := ls.flatMap fun w => (w.length : Int) :: w.map fun (x : Nat) => (x : Int)
theorem out_eq (v : Int) (ls : List (List Nat)) : Uw03Neutral.out ⟨v, ls⟩ = v :: flat1 ls := rfl
theorem flat1_snoc (ls : List (List Nat)) (w : List Nat) : flat1 (ls ++ [w]) = flat1 ls ++ [(w.length : Int)] ++ natsI w := by
  unfold flat1 natsI
  rw [List.flatMap_append]
  simp
theorem flat1_take_le (ls : List (List Nat)) (i : Nat) : (flat1 (ls.take i)).length ≤ (flat1 ls).length := by
  have e : flat1 ls = flat1 (ls.take i) ++ flat1 (ls.drop i) := by
    unfold flat1
    rw [← List.flatMap_append, List.take_append_drop]
  rw [e, List.length_append]
  omega
theorem natsI_ivs (l : List Nat) : (natsI l).map V.int = ivs l := by
  unfold natsI ivs
  rw [List.map_map]
  rfl
def spWith : Sp := fun vs H Q _ => ∃ (v : Int) (L : Addr) (ls : List (List Nat)), vs = [.int v, .ref L] ∧ RowAt lsAt H L ls ∧ (flat1 ls).length ≤ 100000 ∧
  ∀ (H' : Hp) (p : Addr), Same H H' → H p = none → H' p = some (.lst ((v :: flat1 ls).map V.int)) → Q (.ref p) H'
theorem scW : FnScope ["number", "lists", "answer", "numbers"] ["number", "lists"] (defScope sWithLists) := ⟨rfl, rfl, rfl, by decide +kernel, rfl, by decide +kernel, by decide +kernel⟩
theorem ok_with {f : Addr} {fd : FuncData} (F : Fun K "with_lists" "with_lists" sWithLists f fd) (T : Txt K mg G) : FnOk P w K mg base CX0 1 f fd ["number", "lists"] spWith := by
  refine F.ok scW (fun vs H Q E h => ?_) (fun cdv A outer s H vs Q E hr h => ?_)
  · obtain ⟨v, L, ls, rfl, _⟩ := h
    rfl
  · refine ⟨_, pss_cons (ps_set (i := 2) scW.nd rfl (Or.inl rfl) (pe_lst (pa_cons (pv 0) pa_nil)))
      (pss_cons (ps_for PassesOwn.never rfl (pi_list (pv 1)) (pg_name (i := 3) scW.nd rfl (Or.inl rfl))
        (pss_cons (ps_expr (pe_bm PySem.F.plainAttrs_list PySem.F.slot_list_append PySem.F.type_list_append mt_append (pv 2) (pa_cons (pe_callB call_len_seq (by rfl) T.len PySem.boot_len (pa_cons (pv 3) pa_nil)) pa_nil)))
        (pss_one (ps_expr (pe_bm PySem.F.plainAttrs_list PySem.F.slot_list_extend PySem.F.type_list_extend mt_extend (pv 2) (pa_cons (pv 3) pa_nil))))))
      (pss_one (ps_ret (pv 2)))), ?_⟩
    obtain ⟨v, L, ls, rfl, ⟨qs, hL, z⟩, hb, k⟩ := h
    refine ⟨_, rfl, (by show 1 ≤ sizeLine; decide), fun p hp => ?_⟩
    refine ⟨_, rfl, L, rfl, ⟨_, SqL.of (same_new hp _ _ hL)⟩, for_list (K := K) (a := L) (xs := qs.map V.ref) (fun i σ H' => ∃ (v3 : Option V), σ = [some (.int v), some (.ref L), some (.ref p), v3] ∧ Same H H' ∧ H' p = some (.lst ((v :: flat1 (ls.take i)).map V.int)))
      ⟨none, rfl, same_new hp, upd_same⟩ (fun i σ H' _ ⟨_, _, s, _⟩ => s.seq (SqL.of hL)) ?_ ?_⟩
    · rintro i y σ H' hi ⟨v3, rfl, s, hp'⟩
      obtain ⟨q, hq, rfl⟩ := ref_get hi
      obtain ⟨xs, hx, hqx⟩ := z.at hq
      have hq' := s _ _ hqx
      have hne : q ≠ p := ne_of_none hqx hp
      have e1 := take_more hx
      have b1 := flat1_take_le ls (i + 1)
      rw [e1, flat1_snoc, List.length_append, List.length_append, List.length_singleton] at b1
      unfold natsI at b1
      rw [List.length_map] at b1
      have sz : ∀ n : Nat, n ≤ 100002 → n < sizeLine := fun n hn => Nat.lt_of_le_of_lt hn (by decide)
      refine ⟨_, rfl, .inl ⟨rfl, _, SqL.of hp'⟩, _, rfl, q, _, rfl, .inl (SqL.of hq'), p, _, _, rfl, rfl, hp', (by rw [List.length_map, List.length_cons]; exact sz _ (by omega)), ?_⟩
      refine ⟨_, rfl, .inl ⟨rfl, _, SqL.of upd_same⟩, _, rfl, p, q, _, _, rfl, rfl, upd_same, upd_keep hq' hne, (by rw [List.length_append, List.length_map, List.length_cons, List.length_singleton, ivs_len]; exact Nat.le_of_lt (sz _ (by omega))), ?_⟩
      refine ⟨_, rfl, same_put (same_put s hp) hp, ?_⟩
      rw [upd_same, e1, flat1_snoc]
      refine congrArg (fun z => some (HO.lst z)) ?_
      rw [List.map_cons, List.map_cons, List.map_append, List.map_append, natsI_ivs, ivs_len]
      simp
    · rintro σ H' ⟨v3, rfl, s, hp'⟩
      rw [List.length_map, z.length, List.take_length] at hp'
      exact ⟨_, rfl, k H' p s hp hp'⟩
/-! ### all orders -/
def spOrders : Sp := fun vs H Q _ => ∃ (n : Nat), vs = [.int (n : Int)] ∧ n ≤ 6 ∧ ∀ (H' : Hp) (L : Addr), Same H H' → RowAt lsAt H' L (lvl n n) → Q (.ref L) H'
theorem scO : FnScope ["count", "orders", "place", "longer", "order", "piece"] ["count"] (defScope sAllOrders) := ⟨rfl, rfl, rfl, by decide +kernel, rfl, by decide +kernel, by decide +kernel⟩
theorem ok_orders {f : Addr} {fd : FuncData} (F : Fun K "all_orders" "all_orders" sAllOrders f fd) (T : Txt K mg G) : FnOk P w K mg base CX0 1 f fd ["count"] spOrders := by
  refine F.ok scO (fun vs H Q E h => ?_) (fun cdv A outer s H vs Q E hr h => ?_)
  · obtain ⟨n, rfl, _⟩ := h
    rfl
  · refine ⟨_, pss_cons (ps_set (i := 1) scO.nd rfl (Or.inl rfl) (pe_lst (pa_cons (pe_lst pa_nil) pa_nil)))
      (pss_cons (ps_for PassesOwn.never rfl (pi_range1 (by rfl) T.range (pa_cons (pv 0) pa_nil)) (pg_name (i := 2) scO.nd rfl (Or.inl rfl))
        (pss_cons (ps_set (i := 3) scO.nd rfl (Or.inl rfl) (pe_lst pa_nil))
        (pss_cons (ps_for PassesOwn.never rfl (pi_list (pv 1)) (pg_name (i := 4) scO.nd rfl (Or.inr rfl))
          (pss_one (ps_expr (pe_bm PySem.F.plainAttrs_list PySem.F.slot_list_extend PySem.F.type_list_extend mt_extend (pv 3)
            (pa_cons (pe_lc (own := [("piece", 5)]) (g := gName 5) rfl scO.nd (pi_range1 (by rfl) T.range (pa_cons (pv 0) pa_nil)) (blkOk_by (own := [("piece", 5)]) (N := ["count", "orders", "place", "longer", "order", "piece"]) (sc := defScope sAllOrders) (by decide +kernel))
              (fun _ _ _ _ _ => pg_name (i := 5) scO.nd rfl (Or.inl rfl)) (fun _ _ _ _ _ => pts_one (pt_cmpR (show OpR _ (compareOp .NotIn) (rIn K true) from op_notIn_seq) (pv 5) (pv 4) (by rfl))) (fun _ _ _ _ _ => pe_op op_cat (pv 4) (pe_lst (pa_cons (pv 5) pa_nil)))) pa_nil)))))
        (pss_one (ps_set (i := 1) scO.nd rfl (Or.inl rfl) (pv 3))))))
      (pss_one (ps_ret (pv 1)))), ?_⟩
    obtain ⟨n, rfl, hn, k⟩ := h
    have en : ((n : Nat) : Int).toNat = n := Int.toNat_natCast n
    have big : (n : Int) < 2 ^ 62 := by omega
    have low : -(2 ^ 62) ≤ (n : Int) := by omega
    refine ⟨Nat.zero_le _, fun e ne => ⟨(by show 1 ≤ sizeLine; decide), fun L nL => ?_⟩⟩
    have s0 : Same H (upd H e (.lst [])) := same_new ne
    have r0 : RowAt lsAt (upd (upd H e (.lst [])) L (.lst [.ref e])) L (lvl n 0) := ⟨[e], upd_same, .cons (same_new nL _ _ upd_same) .nil⟩
    refine ⟨_, rfl, (n : Int), rfl, low, big, for_range (lo := 0) (n := ((n : Nat) : Int).toNat) (fun i σ H' => ∃ (L : Addr) (v2 v3 v4 : Option V), σ = [some (.int (n : Int)), some (.ref L), v2, v3, v4, none] ∧ Same H H' ∧ RowAt lsAt H' L (lvl n i)) ⟨L, none, none, none, rfl, s0.trans (same_new nL), r0⟩ ?_ ?_⟩
    · rintro i σ H' hi ⟨L, v2, v3, v4, rfl, s1, qs, hL, z⟩
      rw [en] at hi
      have lenI := lvl_len6 (n := n) (k := i + 1) hn (by omega)
      -- longer = []
      refine ⟨Nat.zero_le _, fun M nM => ?_⟩
      have hLM := same_new (o := HO.lst []) nM _ _ hL
      refine ⟨_, rfl, L, rfl, ⟨_, SqL.of hLM⟩, for_list (K := K) (a := L) (xs := qs.map V.ref) (fun j σ H2 => ∃ (v4 : Option V) (ms : List Addr), σ = [some (.int (n : Int)), some (.ref L), some (.int (0 + (i : Int))), some (.ref M), v4, none] ∧ Same H' H2 ∧ H2 M = some (.lst (ms.map V.ref)) ∧ All2 (fun m x => lsAt H2 m x ∧ m ≠ M) ms (((lvl n i).take j).flatMap (next1 n)))
        ⟨v4, [], rfl, same_new nM, upd_same, .nil⟩ (fun j σ H2 _ ⟨_, _, _, s, _⟩ => s.seq (SqL.of hL)) ?_ ?_⟩
      · rintro j y σ H2 hj ⟨v4, ms, rfl, s2, hM, zm⟩
        obtain ⟨q, hq, rfl⟩ := ref_get hj
        obtain ⟨pre, hpre, hqp⟩ := z.at hq
        have pin := lvl_in (List.mem_of_getElem? hpre)
        have hq2 := s2 _ _ hqp
        have e1 : ((lvl n i).take (j + 1)).flatMap (next1 n) = ((lvl n i).take j).flatMap (next1 n) ++ next1 n pre := by
          rw [take_more hpre, List.flatMap_append]
          simp
        have len1 : (((lvl n i).take (j + 1)).flatMap (next1 n)).length ≤ 46656 := by
          have e2 : lvl n (i + 1) = ((lvl n i).take (j + 1)).flatMap (next1 n) ++ ((lvl n i).drop (j + 1)).flatMap (next1 n) := by
            rw [← List.flatMap_append, List.take_append_drop]
            rfl
          rw [e2, List.length_append] at lenI
          omega
        rw [e1, List.length_append] at len1
        refine ⟨_, rfl, .inl ⟨rfl, _, SqL.of hM⟩, _, rfl, (n : Int), rfl, low, big, fun D nD => ?_⟩
        have hDM : D ≠ M := (ne_of_none hM nD).symm
        refine lc_range (lo := 0) (n := ((n : Nat) : Int).toNat) (fun c H3 => ∃ rs : List Addr, Same H2 H3 ∧ H3 D = some (.lst (rs.map V.ref)) ∧ All2 (fun m x => lsAt H3 m x ∧ m ≠ D ∧ m ≠ M) rs (((List.range c).filter fun x => !pre.contains x).map fun x => pre ++ [x]))
          ⟨[], same_new nD, upd_same, .nil⟩ ?_ ?_
        · rintro c H3 hc ⟨rs, s3, hD, zr⟩
          rw [en] at hc
          rw [Int.zero_add]
          have hq3 := s3 _ _ hq2
          refine ⟨rfl, _, rfl, _, rfl, q, _, rfl, .inl (SqL.of hq3), rfl, ivs_flat _, _, rfl, ?_⟩
          rw [if_pos rfl, inV_ivs]
          have er : (List.range (c + 1)).filter (fun x => !pre.contains x) = (List.range c).filter (fun x => !pre.contains x) ++ (if pre.contains c = true then [] else [c]) := by
            rw [List.range_succ, List.filter_append, List.filter_cons]
            cases pre.contains c <;> rfl
          cases hpc : pre.contains c with
          | true =>
            rw [hpc] at er
            refine iteF ⟨rs, s3, hD, ?_⟩
            rw [er, if_pos rfl, List.append_nil]
            exact zr
          | false =>
            rw [hpc] at er
            refine iteT ⟨_, rfl, _, rfl, (by show 1 ≤ sizeLine; decide), fun t nt => ?_⟩
            have s4 : Same H3 (upd H3 t (.lst [.int (c : Int)])) := same_new nt
            refine ⟨q, t, _, _, rfl, rfl, s4 _ _ hq3, upd_same, (by rw [ivs_len, pin.1]; exact Nat.le_trans (show i + 1 ≤ 7 by omega) (by decide)), fun p np => ?_⟩
            have s5 := s4.trans (same_new (o := HO.lst (ivs pre ++ [.int (c : Int)])) np)
            have hrs : rs.length ≤ 6 := by
              rw [zr.length, List.length_map]
              exact Nat.le_trans (List.length_filter_le ..) (by rw [List.length_range]; omega)
            have pD : p ≠ D := (ne_of_none (s4 _ _ hD) np).symm
            have pM : p ≠ M := (ne_of_none (s4 _ _ (s3 _ _ hM)) np).symm
            refine ⟨_, s5 _ _ hD, (by rw [List.length_map]; exact Nat.lt_of_le_of_lt hrs (by decide)), rs ++ [p], ?_, ?_, ?_⟩
            · exact same_put (s3.trans s5) nD
            · rw [upd_same, List.map_append]
              rfl
            · rw [er, if_neg Bool.false_ne_true, List.map_append]
              refine All2.snoc ⟨?_, pD, pM⟩ (zr.imp fun m x hm => ⟨upd_keep (s5 _ _ hm.1) hm.2.1, hm.2⟩)
              refine upd_keep (upd_same.trans ?_) pD
              unfold ivs
              rw [List.map_append]
              rfl
        · rintro H3 ⟨rs, s3, hD, zr⟩
          rw [en] at zr
          have zr' : All2 (fun m x => lsAt H3 m x ∧ m ≠ D ∧ m ≠ M) rs (next1 n pre) := zr
          have l1 := zm.length
          have l2 := zr'.length
          refine ⟨M, D, _, _, rfl, rfl, s3 _ _ hM, hD, (by rw [List.length_map, List.length_map]; exact Nat.le_trans (show ms.length + rs.length ≤ 46656 by omega) (by decide)), ?_⟩
          refine ⟨some (.ref q), ms ++ rs, rfl, same_put (s2.trans s3) nM, (by rw [upd_same, List.map_append]), ?_⟩
          rw [e1]
          exact (zm.imp fun m x hm => ⟨upd_keep (s3 _ _ hm.1) hm.2, hm.2⟩).cat (zr'.imp fun m x hm => ⟨upd_keep hm.1 hm.2.2, hm.2.2⟩)
      · rintro σ H2 ⟨v4, ms, rfl, s2, hM, zm⟩
        rw [List.length_map, z.length, List.take_length] at zm
        exact ⟨_, rfl, M, _, _, _, rfl, s1.trans s2, ms, hM, zm.imp fun m x hm => hm.1⟩
    · rintro σ H' ⟨L, v2, v3, v4, rfl, s1, r⟩
      rw [en] at r
      exact ⟨_, rfl, k H' L s1 r⟩
end
end Rd

set_option Elab.async false
set_option maxRecDepth 100000
set_option maxHeartbeats 4000000
namespace Rd
open PySem PySem.Spec PyProof.Rows L2
open Uw03 (Day Player Piece Order Call)
/-! ### lists of numbers as data -/
def natD (l : List Nat) : PyData := .list (l.map fun (x : Nat) => .int (x : Int))
theorem nats_lay (l : List Nat) : PyData.canLayAll0 (l.map fun (x : Nat) => PyData.int (x : Int)) = true := by
  induction l with
  | nil => rw [List.map_nil, PyData.canLayAll0]
  | cons z zs ih => rw [List.map_cons, PyData.canLayAll0, ih]; simp only [PyData.canLay0, Bool.and_self]
theorem nats_depth (l : List Nat) : PyData.depthAll (l.map fun (x : Nat) => PyData.int (x : Int)) ≤ 1 := by
  induction l with
  | nil => rw [List.map_nil, PyData.depthAll]; omega
  | cons z zs ih =>
    rw [List.map_cons, PyData.depthAll]
    have h : (PyData.int (z : Int)).depth ≤ 1 := by simp [PyData.depth]
    omega
theorem natD_shaped (l : List Nat) : SeqAt.shaped (natD l) = true := by
  have h1 := nats_depth l
  unfold SeqAt.shaped natD
  rw [PyData.canLay0, nats_lay l, PyData.depth, Bool.true_and]
  exact decide_eq_true (by omega)
theorem natD_eqv : ∀ (l m : List Nat), PyData.eqv (natD l) (natD m) = decide (l = m) := by
  have key : ∀ (l m : List Nat), PyData.eqvAll (l.map fun (x : Nat) => PyData.int (x : Int)) (m.map fun (x : Nat) => PyData.int (x : Int)) = decide (l = m) := by
    intro l
    induction l with
    | nil =>
      intro m
      cases m with
      | nil => simp [PyData.eqvAll]
      | cons y m => simp [PyData.eqvAll]
    | cons x l ih =>
      intro m
      cases m with
      | nil => simp [PyData.eqvAll]
      | cons y m =>
        rw [List.map_cons, List.map_cons, PyData.eqvAll, ih m]
        have e : PyData.eqv (PyData.int (x : Int)) (PyData.int (y : Int)) = ((x : Int) == (y : Int)) := by simp only [PyData.eqv]
        rw [e, Bool.eq_iff_iff]
        simp only [Bool.and_eq_true, beq_iff_eq, decide_eq_true_eq, List.cons.injEq]
        exact ⟨fun h => ⟨by omega, h.2⟩, fun h => ⟨by omega, h.2⟩⟩
  intro l m
  unfold natD
  rw [PyData.eqv]
  exact key l m
theorem nats_dp {K : PySem.W.Frag} {H : Hp} : ∀ l : List Nat, DpAll K H (ivs l) (l.map fun (x : Nat) => PyData.int (x : Int))
  | [] => .nil
  | _ :: l => .cons (.int _) (nats_dp l)
theorem ls_dp {K : PySem.W.Frag} {H : Hp} {q : Addr} {l : List Nat} (h : lsAt H q l) : Dp K H (.ref q) (natD l) := .lst (SqL.of h) (nats_dp l)
theorem ixN_at {n j : Nat} (hj : j < n) : ixN n (j : Int) = some j := by
  unfold ixN
  rw [if_pos (by omega), if_pos (by omega), Int.toNat_natCast]
theorem nodup_take {l : List Nat} {j x : Nat} (nd : l.Nodup) (h : l[j]? = some x) : x ∉ l.take j := by
  have h1 : (l.take (j + 1)).Nodup := List.Nodup.sublist (List.take_sublist _ _) nd
  rw [take_more h, List.nodup_append] at h1
  exact fun hm => h1.2.2 x hm x (List.mem_singleton.mpr rfl) rfl
section
variable {P : Program} {w : World} {K : PySem.W.Frag} {mg : Str → Option Value} {base : Heap} {G : Gs}
/-! ### the players' rows in an order -/
def spStays (G : Gs) : Sp := fun vs H Q _ => ∃ (a o : Addr) (L : Pl) (d : Day) (n : Nat) (ord : Order), vs = [.ref a, .ref o] ∧ DayAt G H a L d ∧ Ok d n ∧ lsAt H o ord ∧ (∀ x ∈ ord, x < d.pieces.length) ∧
  ∀ (H' : Hp) (D : Addr), Same H H' → H D = none → RowAt lsAt H' D (d.tell ord) → Q (.ref D) H'
theorem scT : FnScope ["self", "order", "stays", "now", "number", "piece", "who", "waited", "player"] ["self", "order"] (defScope sStaysIn) := ⟨rfl, rfl, rfl, by decide +kernel, rfl, by decide +kernel, by decide +kernel⟩
theorem ok_stays {f : Addr} {fd : FuncData} (F : Fun K "stays_in" "Day.stays_in" sStaysIn f fd) (T : Txt K mg G) : FnOk P w K mg base CX0 1 f fd ["self", "order"] (spStays G) := by
  refine F.ok scT (fun vs H Q E h => ?_) (fun cdv A outer s H vs Q E hr h => ?_)
  · obtain ⟨a, o, L, d, n, ord, rfl, _⟩ := h
    rfl
  · refine ⟨_, pss_cons (ps_setLc (i := 2) (own := [("player", 8)]) (g := gName 8) (tt := tYes) rfl scT.nd rfl rfl (sw_true rfl rfl rfl (by decide +kernel)) (pi_list (pe_fld (pv 0) rfl)) (blkOk_by (own := [("player", 8)]) (N := ["self", "order", "stays", "now", "number", "piece", "who", "waited", "player"]) (sc := defScope sStaysIn) (by decide +kernel))
        (fun _ _ _ _ _ => pg_name (i := 8) scT.nd rfl (Or.inl rfl)) (fun _ _ _ _ _ => pts_nil) (fun _ _ _ _ _ => pe_lst pa_nil))
      (pss_cons (ps_set (i := 3) scT.nd rfl (Or.inl rfl) pe_int)
      (pss_cons (ps_for PassesOwn.never rfl (pi_list (pv 1)) (pg_name (i := 4) scT.nd rfl (Or.inl rfl))
        (pss_cons (ps_set (i := 5) scT.nd rfl (Or.inl rfl) (pe_ix ix_list (pe_fld (pv 0) rfl) (pv 4) (fun _ _ => rfl)))
        (pss_cons (ps_for PassesOwn.never rfl (pi_list (pe_fld (pv 5) rfl)) (pg_name (i := 6) scT.nd rfl (Or.inl rfl))
          (pss_cons (ps_if (pt_cmpR (op_eqD hr.units) (pe_ix ix_list (pv 2) (pv 6) (fun _ _ => rfl)) (pe_lst pa_nil) (nomark _))
            (pss_one (ps_asg (pe_lst (pa_cons (pv 3) (pa_cons (pv 3) (pa_cons pe_int pa_nil)))) (pg_sub (pv 2) (pv 6) set_list))) pss_nil)
          (pss_cons (ps_set (i := 7) scT.nd rfl (Or.inl rfl) (pe_op op_sub (pe_op op_add (pe_ix ix_list (pe_ix ix_list (pv 2) (pv 6) (fun _ _ => rfl)) pe_int (fun _ _ => rfl)) (pv 3)) (pe_ix ix_list (pe_ix ix_list (pv 2) (pv 6) (fun _ _ => rfl)) pe_int (fun _ _ => rfl))))
          (pss_one (ps_asg (pe_lst (pa_cons (pe_ix ix_list (pe_ix ix_list (pv 2) (pv 6) (fun _ _ => rfl)) pe_int (fun _ _ => rfl)) (pa_cons (pe_op op_add (pv 3) (pe_fld (pv 5) rfl)) (pa_cons (pv 7) pa_nil)))) (pg_sub (pv 2) (pv 6) set_list))))))
        (pss_one (ps_aug (i := 3) scT.nd rfl (Or.inl rfl) (pe_fld (pv 5) rfl) ip_add)))))
      (pss_one (ps_ret (pv 2))))), ?_⟩
    obtain ⟨a, o, L, d, n, ord, rfl, Dy, ok, ho, hin, k⟩ := h
    obtain ⟨dx, hI⟩ := Dy.ins
    obtain ⟨q1, h1, z1⟩ := Dy.pl
    obtain ⟨q2, h2, z2⟩ := Dy.pc
    have n6 := ok.nP
    -- stays = [[] for player in self.players]
    refine ⟨_, rfl, a, G.d, dx, _, _, rfl, hI, T.cl2, T.n2Players, dF_players _ _ _, L.l1, rfl, ⟨_, SqL.of h1⟩, fun D nD => ?_⟩
    refine lc_list (K := K) (a := L.l1) (xs := q1.map V.ref) (fun i H1 => ∃ qs : List Addr, qs.length = i ∧ Same H H1 ∧ H1 D = some (.lst (qs.map V.ref)) ∧ All2 (fun m x => lsAt H1 m x ∧ m ≠ D) qs ((List.range i).map (row d [])))
      ⟨[], rfl, same_new nD, upd_same, .nil⟩ (fun i H1 _ ⟨_, _, s, _⟩ => s.seq (SqL.of h1)) ?_ ?_
    · rintro i x H1 hi ⟨qs, lq, s1, hD, zq⟩
      have hi' : i < 6 := by
        have := (List.getElem?_eq_some_iff.mp hi).1
        rw [List.length_map, z1.length] at this
        omega
      refine ⟨rfl, Nat.zero_le _, fun e ne => ?_⟩
      have s2 := same_new (o := HO.lst []) ne
      have eD : e ≠ D := (ne_of_none hD ne).symm
      refine ⟨_, s2 _ _ hD, (by rw [List.length_map, lq]; exact Nat.lt_trans hi' (by decide)), qs ++ [e], by rw [List.length_append, lq]; rfl, same_put (s1.trans s2) nD, by rw [upd_same, List.map_append]; rfl, ?_⟩
      rw [List.range_succ, List.map_append]
      exact All2.snoc ⟨upd_keep upd_same eD, eD⟩ (zq.imp fun m x hm => ⟨upd_keep (s2 _ _ hm.1) hm.2, hm.2⟩)
    rintro H1 ⟨qs, lq, s1, hD, zq⟩
    rw [List.length_map, z1.length] at zq
    rw [← tell_eq] at zq
    -- now = 0; for number in order
    refine ⟨_, rfl, o, rfl, ⟨_, SqL.of (s1 _ _ ho)⟩, for_list (K := K) (a := o) (xs := ivs ord) (fun i σ H1 => ∃ (v4 v5 v6 v7 : Option V) (qs : List Addr), σ = [some (.ref a), some (.ref o), some (.ref D), some (.int (span d (ord.take i) : Int)), v4, v5, v6, v7, none] ∧ Same H H1 ∧ H1 D = some (.lst (qs.map V.ref)) ∧ All2 (fun m x => lsAt H1 m x ∧ m ≠ D) qs (d.tell (ord.take i)))
      ⟨none, none, none, none, qs, rfl, s1, hD, zq⟩ (fun i σ H1 _ ⟨_, _, _, _, _, _, s, _⟩ => s.seq (SqL.of ho)) ?_ ?_⟩
    · rintro i y σ H1 hi ⟨v4, v5, v6, v7, qs, rfl, s1, hD, zq⟩
      obtain ⟨p, hp, rfl⟩ := ivs_get hi
      have hpl := hin p (List.mem_of_getElem? hp)
      obtain ⟨pc, hpc⟩ : ∃ pc, d.pieces[p]? = some pc := ⟨_, List.getElem?_eq_getElem hpl⟩
      obtain ⟨qp, hqp0, _, dxp, t, hqp, _, ht⟩ := z2.get hpc
      have okp := ok.pc pc (List.mem_of_getElem? hpc)
      have elong : d.long p = pc.long := by unfold Day.long; rw [hpc]; rfl
      have ehas : ∀ x, d.has p x = pc.players.contains x := fun x => by unfold Day.has; rw [hpc]; rfl
      rw [take_more hp]
      generalize hpre : ord.take i = pre at zq
      -- piece = self.pieces[number]
      refine ⟨_, rfl, a, G.d, dx, _, _, rfl, s1 _ _ hI, T.cl2, T.n2Pieces, dF_pieces _ _ _, _, rfl, L.l2, _, _, _, rfl, rfl, SqL.of (s1 _ _ h2), at_of rfl (ref_at hqp0), ?_⟩
      -- for who in piece.players
      refine ⟨_, rfl, qp, G.q, dxp, _, _, rfl, s1 _ _ hqp, T.cl1, T.n1Players, qF_players _ _, t, rfl, ⟨_, SqL.of (s1 _ _ ht)⟩, for_list (K := K) (a := t) (xs := ivs pc.players) (fun j σ H2 => ∃ (v6 v7 : Option V) (qs : List Addr), σ = [some (.ref a), some (.ref o), some (.ref D), some (.int (span d pre : Int)), some (.int (p : Int)), some (.ref qp), v6, v7, none] ∧ Same H H2 ∧ H2 D = some (.lst (qs.map V.ref)) ∧ All2 (fun m x => lsAt H2 m x ∧ m ≠ D) qs (rowsMid d pre p (pc.players.take j)))
        ⟨v6, v7, qs, rfl, s1, hD, by rw [List.take_zero, rowsMid_nil]; exact zq⟩ (fun j σ H2 _ ⟨_, _, _, _, s, _⟩ => s.seq (SqL.of ht)) ?_ ?_⟩
      · clear zq hD s1 qs v6 v7
        rintro j y σ H2 hj ⟨v6, v7, qs, rfl, s2, hD, zq⟩
        obtain ⟨wh, hx, rfl⟩ := ivs_get hj
        have hwh : wh < d.players.length := okp.2.2.2.2 wh (List.mem_of_getElem? hx)
        have hnw := nodup_take okp.2.2.2.1 hx
        have lqs : qs.length = d.players.length := by rw [zq.length, rowsMid_len]
        have hh : d.has p wh = true := by rw [ehas]; simpa using List.mem_of_getElem? hx
        obtain ⟨e, he, hev, heD⟩ := zq.get (rowsMid_get (o := pre) (p := p) hwh hnw)
        -- if stays[who] == []
        refine ⟨_, rfl, _, rfl, D, _, _, _, rfl, rfl, SqL.of hD, at_of rfl (ref_at he), Nat.zero_le _, fun t0 nt0 => ?_⟩
        have s2b := same_new (o := HO.lst []) nt0
        refine ⟨natD (row d pre wh), natD [], ls_dp (lsAt.mono s2b _ _ hev), ls_dp upd_same, natD_shaped _, natD_shaped _, _, rfl, ?_⟩
        rw [natD_eqv]
        cases hs : d.stays pre wh with
        | none =>
          refine if_true_of (decide_eq_true (row_none hs)) ⟨_, rfl, _, rfl, (by show 3 ≤ sizeLine; decide), fun u nu => ?_⟩
          have s2c := s2b.trans (same_new (o := HO.lst [V.int (span d pre : Int), V.int (span d pre : Int), V.int 0]) nu)
          have uD : u ≠ D := (ne_of_none (s2b _ _ hD) nu).symm
          refine ⟨_, rfl, _, rfl, D, _, _, wh, rfl, rfl, s2c _ _ hD, ixN_at (by rw [List.length_map, lqs]; exact hwh), ?_⟩
          rw [← List.map_set]
          have enew := row_new hh hs
          generalize hG : upd (upd (upd H2 t0 (.lst [])) u (.lst [V.int (span d pre : Int), V.int (span d pre : Int), V.int 0])) D (.lst ((qs.set wh u).map V.ref)) = H3
          have hD3 : H3 D = some (.lst ((qs.set wh u).map V.ref)) := by rw [← hG]; exact upd_same
          have hu3 : lsAt H3 u [span d pre, span d pre, 0] := by rw [← hG]; exact upd_keep upd_same uD
          have s3 : Same H H3 := by rw [← hG]; exact same_put (s2.trans s2c) nD
          have k3 : ∀ m x, lsAt H2 m x → m ≠ D → lsAt H3 m x := fun m x h1 h2 => by rw [← hG]; exact upd_keep (s2c _ _ h1) h2
          have he3 : (qs.set wh u)[wh]? = some u := List.getElem?_set_self (by omega)
          have l3 : (qs.set wh u).length = d.players.length := by rw [List.length_set, lqs]
          have eq3 : ∀ v, (qs.set wh u).set wh v = qs.set wh v := fun v => List.set_set ..
          have eW : ((0 : Nat) : Int) = ((0 : Nat) : Int) + (span d pre : Int) - (span d pre : Int) := by omega
          rw [elong] at enew
          -- waited = stays[who][2] + now - stays[who][1]
          refine ⟨_, rfl, _, rfl, D, _, _, _, rfl, rfl, SqL.of hD3, at_of rfl (ref_at he3), u, _, _, _, rfl, rfl, SqL.of hu3, at_of (j := 2) rfl rfl, _, rfl, _, _, rfl, rfl, _, rfl, _, rfl, D, _, _, _, rfl, rfl, SqL.of hD3, at_of rfl (ref_at he3), u, _, _, _, rfl, rfl, SqL.of hu3, at_of (j := 1) rfl rfl, _, _, rfl, rfl, ?_⟩
          -- stays[who] = [stays[who][0], now + piece.minutes, waited]
          refine ⟨_, rfl, _, rfl, D, _, _, _, rfl, rfl, SqL.of hD3, at_of rfl (ref_at he3), u, _, _, _, rfl, rfl, SqL.of hu3, at_of (j := 0) rfl rfl, _, rfl, _, rfl, qp, G.q, dxp, _, _, rfl, s3 _ _ hqp, T.cl1, T.n1Minutes, qF_minutes _ _, _, _, rfl, rfl, _, rfl, (by show 3 ≤ sizeLine; decide), fun v nv => ?_⟩
          have s4 := same_new (o := HO.lst [V.int (span d pre : Int), V.int ((span d pre : Int) + (pc.long : Int)), V.int (((0 : Nat) : Int) + (span d pre : Int) - (span d pre : Int))]) nv
          have vD : v ≠ D := (ne_of_none hD3 nv).symm
          refine ⟨_, rfl, _, rfl, D, _, _, wh, rfl, rfl, s4 _ _ hD3, ixN_at (by rw [List.length_map, l3]; exact hwh), ?_⟩
          refine ⟨some (.int (wh : Int)), some (.int (((0 : Nat) : Int) + (span d pre : Int) - (span d pre : Int))), (qs.set wh u).set wh v, rfl, same_put (s3.trans s4) nD, ?_, ?_⟩
          · rw [upd_same]
            simp only [List.map_set]
          · rw [take_more hx, ← rowsMid_set, eq3 v]
            refine All2.set ⟨?_, vD⟩ (zq.imp fun m x hm => ⟨upd_keep (s4 _ _ (k3 m x hm.1 hm.2)) hm.2, hm.2⟩) wh
            refine upd_keep (upd_same.trans ?_) vD
            rw [enew]
            refine congrArg (fun z => some (HO.lst z)) ?_
            show _ = [V.int (span d pre : Int), V.int ((span d pre + pc.long : Nat) : Int), V.int ((0 : Nat) : Int)]
            rw [Int.natCast_add]
            exact congrArg (fun z => [V.int (span d pre : Int), V.int ((span d pre : Int) + (pc.long : Int)), V.int z]) eW.symm
        | some xy =>
          obtain ⟨enew, hle⟩ := row_old hh hs
          refine if_false_of (decide_eq_false (by rw [row_some hs]; exact List.cons_ne_nil _ _)) ?_
          have s3 := s2.trans s2b
          have hD3 := s2b _ _ hD
          have hu3 := lsAt.mono s2b _ _ hev
          rw [row_some hs] at hu3
          have k3 : ∀ m x, lsAt H2 m x → m ≠ D → lsAt (upd H2 t0 (.lst [])) m x := fun m x h1 _ => s2b _ _ h1
          have he3 := he
          have l3 := lqs
          have eq3 : ∀ v, qs.set wh v = qs.set wh v := fun v => rfl
          have eW : ((d.waits pre wh + span d pre - xy.2 : Nat) : Int) = (d.waits pre wh : Int) + (span d pre : Int) - (xy.2 : Int) := by omega
          rw [elong] at enew
          -- waited = stays[who][2] + now - stays[who][1]
          refine ⟨_, rfl, _, rfl, D, _, _, _, rfl, rfl, SqL.of hD3, at_of rfl (ref_at he3), e, _, _, _, rfl, rfl, SqL.of hu3, at_of (j := 2) rfl rfl, _, rfl, _, _, rfl, rfl, _, rfl, _, rfl, D, _, _, _, rfl, rfl, SqL.of hD3, at_of rfl (ref_at he3), e, _, _, _, rfl, rfl, SqL.of hu3, at_of (j := 1) rfl rfl, _, _, rfl, rfl, ?_⟩
          -- stays[who] = [stays[who][0], now + piece.minutes, waited]
          refine ⟨_, rfl, _, rfl, D, _, _, _, rfl, rfl, SqL.of hD3, at_of rfl (ref_at he3), e, _, _, _, rfl, rfl, SqL.of hu3, at_of (j := 0) rfl rfl, _, rfl, _, rfl, qp, G.q, dxp, _, _, rfl, s3 _ _ hqp, T.cl1, T.n1Minutes, qF_minutes _ _, _, _, rfl, rfl, _, rfl, (by show 3 ≤ sizeLine; decide), fun v nv => ?_⟩
          have s4 := same_new (o := HO.lst [V.int (xy.1 : Int), V.int ((span d pre : Int) + (pc.long : Int)), V.int ((d.waits pre wh : Int) + (span d pre : Int) - (xy.2 : Int))]) nv
          have vD : v ≠ D := (ne_of_none hD3 nv).symm
          refine ⟨_, rfl, _, rfl, D, _, _, wh, rfl, rfl, s4 _ _ hD3, ixN_at (by rw [List.length_map, l3]; exact hwh), ?_⟩
          refine ⟨some (.int (wh : Int)), some (.int ((d.waits pre wh : Int) + (span d pre : Int) - (xy.2 : Int))), qs.set wh v, rfl, same_put (s3.trans s4) nD, ?_, ?_⟩
          · rw [upd_same]
            simp only [List.map_set]
          · rw [take_more hx, ← rowsMid_set, eq3 v]
            refine All2.set ⟨?_, vD⟩ (zq.imp fun m x hm => ⟨upd_keep (s4 _ _ (k3 m x hm.1 hm.2)) hm.2, hm.2⟩) wh
            refine upd_keep (upd_same.trans ?_) vD
            rw [enew]
            refine congrArg (fun z => some (HO.lst z)) ?_
            show _ = [V.int (xy.1 : Int), V.int ((span d pre + pc.long : Nat) : Int), V.int ((d.waits pre wh + span d pre - xy.2 : Nat) : Int)]
            rw [Int.natCast_add]
            exact congrArg (fun z => [V.int (xy.1 : Int), V.int ((span d pre : Int) + (pc.long : Int)), V.int z]) eW.symm
      · clear zq hD s1 qs v6 v7
        rintro σ H2 ⟨v6, v7, qs, rfl, s2, hD, zq⟩
        rw [ivs_len, List.take_length, rowsMid_all hpc] at zq
        -- now += piece.minutes
        refine ⟨_, rfl, _, rfl, qp, G.q, dxp, _, _, rfl, s2 _ _ hqp, T.cl1, T.n1Minutes, qF_minutes _ _, _, _, rfl, rfl, ?_⟩
        refine ⟨some (.int (p : Int)), some (.ref qp), v6, v7, qs, ?_, s2, hD, zq⟩
        rw [span_snoc, elong, Int.natCast_add]
        rfl
    · rintro σ H1 ⟨v4, v5, v6, v7, qs, rfl, s1, hD, zq⟩
      rw [ivs_len, List.take_length] at zq
      exact ⟨_, rfl, k H1 D s1 nD ⟨qs, hD, zq.imp fun m x hm => hm.1⟩⟩
end
end Rd

set_option Elab.async false
set_option maxRecDepth 100000
set_option maxHeartbeats 4000000
namespace Rd
open PySem PySem.Spec PyProof.Rows L2
open Uw03 (Day Player Piece Order Call)
/-! ### the first place of a number -/
theorem idx_get {o : List Nat} {x : Nat} (h : x ∈ o) : (ivs o)[o.idxOf x]? = some (V.int (x : Int)) := by
  refine ivs_at ?_
  have hl := List.idxOf_lt_length_of_mem h
  rw [List.getElem?_eq_getElem hl, List.getElem_idxOf hl]
theorem idx_first {o : List Nat} {x : Nat} (m : Nat) (z : V) (hm : m < o.idxOf x) (hz : (ivs o)[m]? = some z) : eqV z (.int (x : Int)) = false := by
  obtain ⟨y, hy, rfl⟩ := ivs_get hz
  show ((y : Int) == (x : Int)) = false
  refine beq_eq_false_iff_ne.mpr fun e => ?_
  have e' : y = x := by omega
  subst e'
  obtain ⟨hl, hg⟩ := List.getElem?_eq_some_iff.mp hy
  have hf : (o[m]'hl == y) = false := List.not_of_lt_findIdx (p := fun z => z == y) hm
  rw [hg] at hf
  simp at hf
theorem eqV_self (x : Int) : eqV (.int x) (.int x) = true := by
  show (x == x) = true
  simp
theorem tell_get {d : Day} {o : Order} {i : Nat} (h : i < d.players.length) : (d.tell o)[i]? = some (row d o i) := by
  rw [tell_eq, List.getElem?_map, List.getElem?_range h]
  rfl
section
variable {P : Program} {w : World} {K : PySem.W.Frag} {mg : Str → Option Value} {base : Heap} {G : Gs}
/-! ### what is wrong first -/
def spFault (G : Gs) : Sp := fun vs H Q _ => ∃ (a o D : Addr) (L : Pl) (d : Day) (n : Nat) (ord : Order), vs = [.ref a, .ref o, .ref D] ∧ DayAt G H a L d ∧ Ok d n ∧ lsAt H o ord ∧ (∀ x, x < d.pieces.length → x ∈ ord) ∧ RowAt lsAt H D (d.tell ord) ∧
  ∀ (H' : Hp) (p : Addr), Same H H' → H p = none → lsAt H' p (faultOf d ord) → Q (.ref p) H'
theorem scF : FnScope ["self", "order", "stays", "which", "pair", "who", "player", "stay"] ["self", "order", "stays"] (defScope sFirstFault) := ⟨rfl, rfl, rfl, by decide +kernel, rfl, by decide +kernel, by decide +kernel⟩
theorem ok_fault {f : Addr} {fd : FuncData} (F : Fun K "first_fault" "Day.first_fault" sFirstFault f fd) (T : Txt K mg G) : FnOk P w K mg base CX0 1 f fd ["self", "order", "stays"] (spFault G) := by
  refine F.ok scF (fun vs H Q E h => ?_) (fun cdv A outer s H vs Q E hr h => ?_)
  · obtain ⟨a, o, D, L, d, n, ord, rfl, _⟩ := h
    rfl
  · refine ⟨_, pss_cons (ps_for PassesOwn.never rfl (pi_enum (by rfl) T.enumerate (pa_cons (pe_fld (pv 0) rfl) pa_nil)) (pg_tup rfl (pgs_cons (pg_name (i := 3) scF.nd rfl (Or.inl rfl)) (pgs_cons (pg_name (i := 4) scF.nd rfl (Or.inl rfl)) pgs_nil)))
        (pss_one (ps_if (pt_cmpR op_gt (pe_bm PySem.F.plainAttrs_list PySem.F.slot_list_index PySem.F.type_list_index mt_index (pv 1) (pa_cons (pe_ix ix_tup (pv 4) pe_int (fun _ _ => rfl)) pa_nil)) (pe_bm PySem.F.plainAttrs_list PySem.F.slot_list_index PySem.F.type_list_index mt_index (pv 1) (pa_cons (pe_ix ix_tup (pv 4) pe_int (fun _ _ => rfl)) pa_nil)) (nomark _))
          (pss_one (ps_ret (pe_lst (pa_cons (pe_const (by rfl) T.cBehind) (pa_cons (pv 3) pa_nil))))) pss_nil)))
      (pss_cons (ps_for PassesOwn.never rfl (pi_enum (by rfl) T.enumerate (pa_cons (pe_fld (pv 0) rfl) pa_nil)) (pg_tup rfl (pgs_cons (pg_name (i := 5) scF.nd rfl (Or.inl rfl)) (pgs_cons (pg_name (i := 6) scF.nd rfl (Or.inl rfl)) pgs_nil)))
        (pss_cons (ps_set (i := 7) scF.nd rfl (Or.inl rfl) (pe_ix ix_list (pv 2) (pv 5) (fun _ _ => rfl)))
        (pss_cons (ps_if (PW.pt (pw_and (pt_cmpR (op_neD hr.units) (pv 7) (pe_lst pa_nil) (nomark _)) (pw_and1 (pt_cmpR op_lt (pe_ix ix_list (pv 7) pe_int (fun _ _ => rfl)) (pe_fld (pv 6) rfl) (nomark _)))))
          (pss_one (ps_ret (pe_lst (pa_cons (pe_const (by rfl) T.cTooEarly) (pa_cons (pv 5) pa_nil))))) pss_nil)
        (pss_one (ps_if (PW.pt (pw_and (pt_cmpR (op_neD hr.units) (pv 7) (pe_lst pa_nil) (nomark _)) (pw_and1 (pt_cmpR op_gt (pe_ix ix_list (pv 7) pe_int (fun _ _ => rfl)) (pe_fld (pv 6) rfl) (nomark _)))))
          (pss_one (ps_ret (pe_lst (pa_cons (pe_const (by rfl) T.cTooLate) (pa_cons (pv 5) pa_nil))))) pss_nil)))))
      (pss_one (ps_ret (pe_lst pa_nil)))), ?_⟩
    obtain ⟨a, o, D, L, d, n, ord, rfl, Dy, ok, ho, hall, ⟨qs, hD, zq⟩, k⟩ := h
    obtain ⟨dx, hI⟩ := Dy.ins
    obtain ⟨q1, h1, z1⟩ := Dy.pl
    obtain ⟨q3, h3, z3⟩ := Dy.pr
    have lr : (q3.map V.ref).length = d.ahead.length := by rw [List.length_map, z3.length]
    have lp : (q1.map V.ref).length = d.players.length := by rw [List.length_map, z1.length]
    -- for which, pair in enumerate(self.pairs)
    refine ⟨_, rfl, a, G.d, dx, _, _, rfl, hI, T.cl2, T.n2Pairs, dF_pairs _ _ _, L.l3, _, rfl, SqL.of h3, for_it (walk_enum (K := K) (a := L.l3) (xs := q3.map V.ref)) (fun i σ H1 => ∃ (v3 v4 : Option V), σ = [some (.ref a), some (.ref o), some (.ref D), v3, v4, none, none, none] ∧ Same H H1 ∧ ∀ j y, j < i → d.ahead[j]? = some y → badP ord y = false)
      ⟨none, none, rfl, Same.refl H, fun j y hj => absurd hj (Nat.not_lt_zero _)⟩ (fun i σ H1 _ ⟨_, _, _, s, _⟩ => s.seq (SqL.of h3)) ?_ ?_⟩
    · rintro i x σ H1 H1' hi ⟨v3, v4, rfl, s1, hb⟩ ⟨T', x', y', rfl, nT, rfl, e1, e2⟩
      cases e1
      obtain ⟨t, ht, rfl⟩ := ref_get e2
      obtain ⟨pr, hpr, _, htup⟩ := z3.at ht
      have hin := ok.ah pr (List.mem_of_getElem? hpr)
      have m1 := hall _ hin.1
      have m2 := hall _ hin.2
      have s2 := s1.trans (same_new (o := HO.tup [V.int (i : Nat), V.ref t]) nT)
      refine ⟨T', _, rfl, SqT.of upd_same, rfl, _, _, rfl, _, _, rfl, rfl, ?_⟩
      refine ⟨_, rfl, .inl ⟨rfl, _, SqL.of (s2 _ _ ho)⟩, _, rfl, t, _, _, _, rfl, rfl, SqT.of (s2 _ _ htup), at_of (j := 0) rfl rfl, o, _, _, ord.idxOf pr.1, _, rfl, rfl, SqL.of (s2 _ _ ho), rfl, ivs_flat _, idx_get m1, eqV_self _, idx_first, ?_⟩
      refine ⟨_, rfl, .inl ⟨rfl, _, SqL.of (s2 _ _ ho)⟩, _, rfl, t, _, _, _, rfl, rfl, SqT.of (s2 _ _ htup), at_of (j := 1) rfl rfl, o, _, _, ord.idxOf pr.2, _, rfl, rfl, SqL.of (s2 _ _ ho), rfl, ivs_flat _, idx_get m2, eqV_self _, idx_first, _, _, rfl, rfl, _, rfl, ?_⟩
      by_cases c : ((ord.idxOf pr.2 : Nat) : Int) < ((ord.idxOf pr.1 : Nat) : Int)
      · refine if_true_of (decide_eq_true c) ⟨_, rfl, (by show 2 ≤ sizeLine; decide), fun p np => k _ p (s2.trans (same_new np)) (s2.free np) ?_⟩
        show upd _ p _ p = some (.lst (ivs (faultOf d ord)))
        rw [upd_same, fault_pair hb hpr (decide_eq_true (by omega))]
        rfl
      · refine if_false_of (decide_eq_false c) ⟨_, _, rfl, s2, fun j y hj hy => ?_⟩
        by_cases e : j = i
        · subst e
          have e2 := hpr.symm.trans hy
          cases e2
          exact decide_eq_false (by omega)
        · exact hb j y (by omega) hy
    rintro σ H1 ⟨v3, v4, rfl, s1, hb⟩
    rw [lr] at hb
    -- for who, player in enumerate(self.players)
    refine ⟨_, rfl, a, G.d, dx, _, _, rfl, s1 _ _ hI, T.cl2, T.n2Players, dF_players _ _ _, L.l1, _, rfl, SqL.of (s1 _ _ h1), for_it (walk_enum (K := K) (a := L.l1) (xs := q1.map V.ref)) (fun i σ H1 => ∃ (v5 v6 v7 : Option V), σ = [some (.ref a), some (.ref o), some (.ref D), v3, v4, v5, v6, v7] ∧ Same H H1 ∧ ∀ j y, j < i → d.players[j]? = some y → badW d ord (y, j) = none)
      ⟨none, none, none, rfl, s1, fun j y hj => absurd hj (Nat.not_lt_zero _)⟩ (fun i σ H1 _ ⟨_, _, _, _, s, _⟩ => s.seq (SqL.of h1)) ?_ ?_⟩
    · clear s1 H1
      rintro i x σ H1 H1' hi ⟨v5, v6, v7, rfl, s1, hw⟩ ⟨T', x', y', rfl, nT, rfl, e1, e2⟩
      cases e1
      rw [lp] at hi
      obtain ⟨t, ht, rfl⟩ := ref_get e2
      obtain ⟨pl, hpl, _, dxp, hpi⟩ := z1.at ht
      obtain ⟨e, he, hev⟩ := zq.get (tell_get (o := ord) hi)
      have s2 := s1.trans (same_new (o := HO.tup [V.int (i : Nat), V.ref t]) nT)
      generalize hG : upd H1 T' (.tup [V.int (i : Nat), V.ref t]) = H2 at s2
      have step : badW d ord (pl, i) = none → ∀ j y, j < i + 1 → d.players[j]? = some y → badW d ord (y, j) = none := fun hn j y hj hy => by
        by_cases e : j = i
        · subst e
          have e2 := hpl.symm.trans hy
          cases e2
          exact hn
        · exact hw j y (by omega) hy
      refine ⟨T', _, rfl, SqT.of (by rw [← hG]; exact upd_same), rfl, _, _, rfl, _, _, rfl, rfl, ?_⟩
      -- stay = stays[who]
      refine ⟨_, rfl, _, rfl, D, _, _, _, rfl, rfl, SqL.of (s2 _ _ hD), at_of rfl (ref_at he), ?_⟩
      refine ⟨_, rfl, Nat.zero_le _, fun t0 nt0 => ?_⟩
      have s3 := s2.trans (same_new (o := HO.lst []) nt0)
      refine ⟨natD (row d ord i), natD [], ls_dp (lsAt.mono s3 _ _ hev), ls_dp upd_same, natD_shaped _, natD_shaped _, _, rfl, ?_⟩
      rw [natD_eqv]
      cases hs : d.stays ord i with
      | none =>
        refine if_false_of (by rw [row_none hs]; rfl) (iteF ⟨_, rfl, Nat.zero_le _, fun t1 nt1 => ?_⟩)
        have s4 := s3.trans (same_new (o := HO.lst []) nt1)
        refine ⟨natD (row d ord i), natD [], ls_dp (lsAt.mono s4 _ _ hev), ls_dp upd_same, natD_shaped _, natD_shaped _, _, rfl, ?_⟩
        rw [natD_eqv]
        refine if_false_of (by rw [row_none hs]; rfl) (iteF ⟨_, _, _, rfl, s4, step ?_⟩)
        unfold badW
        rw [hs]
      | some xy =>
        have er := row_some hs
        have ne : (!decide (row d ord i = [])) = true := by
          rw [er, decide_eq_false (List.cons_ne_nil _ _)]
          rfl
        have hev3 := lsAt.mono s3 _ _ hev
        rw [er] at hev3
        refine if_true_of ne ⟨_, rfl, e, _, _, _, rfl, rfl, SqL.of hev3, at_of (j := 0) rfl rfl, _, rfl, t, G.p, dxp, _, _, rfl, s3 _ _ hpi, T.cl0, T.n0Since, pF_since _, _, _, rfl, rfl, _, rfl, ?_⟩
        by_cases c1 : (xy.1 : Int) < (pl.from_ : Int)
        · refine if_true_of (decide_eq_true c1) ⟨_, rfl, (by show 2 ≤ sizeLine; decide), fun p np => k _ p (s3.trans (same_new np)) (s3.free np) ?_⟩
          have hz : badW d ord (pl, i) = some (2, i) := by
            unfold badW
            rw [hs]
            exact if_pos (by show xy.1 < pl.from_; omega)
          show upd _ p _ p = some (.lst (ivs (faultOf d ord)))
          rw [upd_same, fault_who hb hw hpl hz]
          rfl
        refine if_false_of (decide_eq_false c1) ⟨_, rfl, Nat.zero_le _, fun t1 nt1 => ?_⟩
        have s4 := s3.trans (same_new (o := HO.lst []) nt1)
        refine ⟨natD (row d ord i), natD [], ls_dp (lsAt.mono s4 _ _ hev), ls_dp upd_same, natD_shaped _, natD_shaped _, _, rfl, ?_⟩
        rw [natD_eqv]
        have hev4 := lsAt.mono s4 _ _ hev
        rw [er] at hev4
        refine if_true_of ne ⟨_, rfl, e, _, _, _, rfl, rfl, SqL.of hev4, at_of (j := 1) rfl rfl, _, rfl, t, G.p, dxp, _, _, rfl, s4 _ _ hpi, T.cl0, T.n0Till, pF_till _, _, _, rfl, rfl, _, rfl, ?_⟩
        by_cases c2 : (pl.till : Int) < (xy.2 : Int)
        · refine if_true_of (decide_eq_true c2) ⟨_, rfl, (by show 2 ≤ sizeLine; decide), fun p np => k _ p (s4.trans (same_new np)) (s4.free np) ?_⟩
          have hz : badW d ord (pl, i) = some (3, i) := by
            unfold badW
            rw [hs]
            exact (if_neg (by show ¬ xy.1 < pl.from_; omega)).trans (if_pos (by show pl.till < xy.2; omega))
          show upd _ p _ p = some (.lst (ivs (faultOf d ord)))
          rw [upd_same, fault_who hb hw hpl hz]
          rfl
        refine if_false_of (decide_eq_false c2) ⟨_, _, _, rfl, s4, step ?_⟩
        unfold badW
        rw [hs]
        exact (if_neg (by show ¬ xy.1 < pl.from_; omega)).trans (if_neg (by show ¬ pl.till < xy.2; omega))
    rintro σ H1 ⟨v5, v6, v7, rfl, s1, hw⟩
    rw [lp] at hw
    refine ⟨Nat.zero_le _, fun p np => k _ p (s1.trans (same_new np)) (s1.free np) ?_⟩
    rw [fault_none hb hw]
    exact upd_same
/-! ### what is paid -/
def spPay (G : Gs) : Sp := fun vs H Q _ => ∃ (a D : Addr) (L : Pl) (d : Day) (n : Nat) (ord : Order), vs = [.ref a, .ref D] ∧ DayAt G H a L d ∧ Ok d n ∧ RowAt lsAt H D (d.tell ord) ∧
  ∀ (H' : Hp), Same H H' → Q (.int (d.cost ord : Int)) H'
theorem scY : FnScope ["self", "stays", "total", "player", "stay"] ["self", "stays"] (defScope sPayFor) := ⟨rfl, rfl, rfl, by decide +kernel, rfl, by decide +kernel, by decide +kernel⟩
theorem ok_pay {f : Addr} {fd : FuncData} (F : Fun K "pay_for" "Day.pay_for" sPayFor f fd) (T : Txt K mg G) : FnOk P w K mg base CX0 1 f fd ["self", "stays"] (spPay G) := by
  refine F.ok scY (fun vs H Q E h => ?_) (fun cdv A outer s H vs Q E hr h => ?_)
  · obtain ⟨a, D, L, d, n, ord, rfl, _⟩ := h
    rfl
  · refine ⟨_, pss_cons (ps_set (i := 2) scY.nd rfl (Or.inl rfl) pe_int)
      (pss_cons (ps_for PassesOwn.never rfl (pi_zip (by rfl) T.zip (pa_cons (pe_fld (pv 0) rfl) (pa_cons (pv 1) pa_nil))) (pg_tup rfl (pgs_cons (pg_name (i := 3) scY.nd rfl (Or.inl rfl)) (pgs_cons (pg_name (i := 4) scY.nd rfl (Or.inl rfl)) pgs_nil)))
        (pss_one (ps_if (pt_cmpR (op_neD hr.units) (pv 4) (pe_lst pa_nil) (nomark _))
          (pss_one (ps_aug (i := 2) scY.nd rfl (Or.inl rfl) (pe_op op_mul (pe_fld (pv 3) rfl) (pe_op op_sub (pe_ix ix_list (pv 4) pe_int (fun _ _ => rfl)) (pe_ix ix_list (pv 4) pe_int (fun _ _ => rfl)))) ip_add)) pss_nil)))
      (pss_one (ps_ret (pv 2)))), ?_⟩
    obtain ⟨a, D, L, d, n, ord, rfl, Dy, ok, ⟨qs, hD, zq⟩, k⟩ := h
    obtain ⟨dx, hI⟩ := Dy.ins
    obtain ⟨q1, h1, z1⟩ := Dy.pl
    have lp : (q1.map V.ref).length = d.players.length := by rw [List.length_map, z1.length]
    have lq : (qs.map V.ref).length = d.players.length := by rw [List.length_map, zq.length, tell_eq, List.length_map, List.length_range]
    refine ⟨_, rfl, a, G.d, dx, _, _, rfl, hI, T.cl2, T.n2Players, dF_players _ _ _, _, rfl, L.l1, D, _, _, rfl, SqL.of h1, SqL.of hD, for_it (walk_zip (K := K) (a := L.l1) (b := D) (xs := q1.map V.ref) (ys := qs.map V.ref) (n := d.players.length) (by rw [lp, lq, Nat.min_self])) (fun i σ H1 => ∃ (v3 v4 : Option V), σ = [some (.ref a), some (.ref D), some (.int (costTo d ord i : Int)), v3, v4] ∧ Same H H1)
      ⟨none, none, rfl, Same.refl H⟩ (fun i σ H1 _ ⟨_, _, _, s⟩ => ⟨s.seq (SqL.of h1), s.seq (SqL.of hD)⟩) ?_ ?_⟩
    · rintro i x σ H1 H1' hi ⟨v3, v4, rfl, s1⟩ ⟨T', x', y', rfl, nT, rfl, e1, e2⟩
      obtain ⟨t, ht, rfl⟩ := ref_get e1
      obtain ⟨e, he, rfl⟩ := ref_get e2
      obtain ⟨pl, hpl, _, dxp, hpi⟩ := z1.at ht
      obtain ⟨r, hr1, hev⟩ := zq.at he
      rw [tell_get hi] at hr1
      cases hr1
      have s2 := s1.trans (same_new (o := HO.tup [V.ref t, V.ref e]) nT)
      have ec := costTo_more (o := ord) hpl
      refine ⟨T', _, rfl, SqT.of upd_same, rfl, _, _, rfl, _, _, rfl, rfl, ?_⟩
      refine ⟨_, rfl, Nat.zero_le _, fun t0 nt0 => ?_⟩
      have s3 := s2.trans (same_new (o := HO.lst []) nt0)
      refine ⟨natD (row d ord i), natD [], ls_dp (lsAt.mono s3 _ _ hev), ls_dp upd_same, natD_shaped _, natD_shaped _, _, rfl, ?_⟩
      rw [natD_eqv]
      cases hs : d.stays ord i with
      | none =>
        have ep : payF d ord (pl, i) = 0 := by
          unfold payF
          rw [hs]
        rw [ep, Nat.add_zero] at ec
        refine if_false_of (by rw [row_none hs]; rfl) ⟨some (.ref t), some (.ref e), ?_, s3⟩
        rw [ec]
        rfl
      | some xy =>
        have er := row_some hs
        have ep : payF d ord (pl, i) = pl.rate * (xy.2 - xy.1) := by
          unfold payF
          rw [hs]
        rw [ep] at ec
        obtain ⟨j1, j2, j3⟩ := stays_le d i hs
        have okp := ok.pl pl (List.mem_of_getElem? hpl)
        have hev3 := lsAt.mono s3 _ _ hev
        rw [er] at hev3
        refine if_true_of (by rw [er, decide_eq_false (List.cons_ne_nil _ _)]; rfl) ⟨_, rfl, _, rfl, t, G.p, dxp, _, _, rfl, s3 _ _ hpi, T.cl0, T.n0Cost, pF_cost _, _, rfl, e, _, _, _, rfl, rfl, SqL.of hev3, at_of (j := 1) rfl rfl, _, rfl, e, _, _, _, rfl, rfl, SqL.of hev3, at_of (j := 0) rfl rfl, _, _, rfl, rfl, _, _, rfl, rfl, .inl ⟨by omega, by omega⟩, _, _, rfl, rfl, ?_⟩
        refine ⟨some (.ref t), some (.ref e), ?_, s3⟩
        rw [ec, Int.natCast_add, Int.natCast_mul, Int.natCast_sub j1]
        rfl
    · rintro σ H1 ⟨v3, v4, rfl, s1⟩
      rw [costTo_all]
      exact ⟨_, rfl, k H1 s1⟩
/-! ### what is worked -/
def spWork (G : Gs) : Sp := fun vs H Q _ => ∃ (a : Addr) (L : Pl) (d : Day) (n : Nat), vs = [.ref a] ∧ DayAt G H a L d ∧ Ok d n ∧
  ∀ (H' : Hp) (p : Addr), Same H H' → H p = none → H' p = some (.lst ((Uw03Neutral.out (Uw03.step d .work).2).map V.int)) → Q (.ref p) H'
theorem scK : FnScope ["self", "paid", "minutes", "piece", "who"] ["self"] (defScope sWork) := ⟨rfl, rfl, rfl, by decide +kernel, rfl, by decide +kernel, by decide +kernel⟩
theorem ok_work {f : Addr} {fd : FuncData} (F : Fun K "work" "Day.work" sWork f fd) (T : Txt K mg G) (W : DefOk P w K mg base "with_lists" 1 ["number", "lists"] spWith) : FnOk P w K mg base CX0 2 f fd ["self"] (spWork G) := by
  refine F.ok scK (fun vs H Q E h => ?_) (fun cdv A outer s H vs Q E hr h => ?_)
  · obtain ⟨a, L, d, n, rfl, _⟩ := h
    rfl
  · refine ⟨_, pss_cons (ps_set (i := 1) scK.nd rfl (Or.inl rfl) pe_int)
      (pss_cons (ps_set (i := 2) scK.nd rfl (Or.inl rfl) pe_int)
      (pss_cons (ps_for PassesOwn.never rfl (pi_list (pe_fld (pv 0) rfl)) (pg_name (i := 3) scK.nd rfl (Or.inl rfl))
        (pss_cons (ps_aug (i := 2) scK.nd rfl (Or.inl rfl) (pe_fld (pv 3) rfl) ip_add)
        (pss_one (ps_for PassesOwn.never rfl (pi_list (pe_fld (pv 3) rfl)) (pg_name (i := 4) scK.nd rfl (Or.inl rfl))
          (pss_one (ps_aug (i := 1) scK.nd rfl (Or.inl rfl) (pe_op op_mul (pe_fld (pe_ix ix_list (pe_fld (pv 0) rfl) (pv 4) (fun _ _ => rfl)) rfl) (pe_fld (pv 3) rfl)) ip_add))))))
      (pss_one (ps_ret (pe_def W hr (by rfl) (pa_cons (pv 1) (pa_cons (pe_lst (pa_cons (pe_lst (pa_cons (pv 2) pa_nil)) pa_nil)) pa_nil))))))), ?_⟩
    obtain ⟨a, L, d, n, rfl, Dy, ok, k⟩ := h
    obtain ⟨dx, hI⟩ := Dy.ins
    obtain ⟨q1, h1, z1⟩ := Dy.pl
    obtain ⟨q2, h2, z2⟩ := Dy.pc
    refine ⟨_, rfl, a, G.d, dx, _, _, rfl, hI, T.cl2, T.n2Pieces, dF_pieces _ _ _, L.l2, rfl, ⟨_, SqL.of h2⟩, for_list (K := K) (a := L.l2) (xs := q2.map V.ref) (fun i σ H1 => ∃ (v3 v4 : Option V), H1 = H ∧ σ = [some (.ref a), some (.int (workOn d (d.pieces.take i) : Int)), some (.int (Uw03.total ((d.pieces.take i).map fun p => p.long) : Int)), v3, v4])
      ⟨none, none, rfl, ?_⟩ (fun i σ H1 _ ⟨_, _, e, _⟩ => by rw [e]; exact SqL.of h2) ?_ ?_⟩
    · have e0 : workOn d [] = 0 := total_zero fun x _ => by
        show x.1.rate * Uw03.total [] = 0
        exact Nat.mul_zero _
      rw [List.take_zero, e0]
      rfl
    · rintro i y σ H1 hi ⟨v3, v4, rfl, rfl⟩
      obtain ⟨qp, hqp, rfl⟩ := ref_get hi
      obtain ⟨pc, hpc, _, dxp, t, hpi, _, ht⟩ := z2.at hqp
      have okp := ok.pc pc (List.mem_of_getElem? hpc)
      refine ⟨_, rfl, _, rfl, qp, G.q, dxp, _, _, rfl, hpi, T.cl1, T.n1Minutes, qF_minutes _ _, _, _, rfl, rfl, ?_⟩
      refine ⟨_, rfl, qp, G.q, dxp, _, _, rfl, hpi, T.cl1, T.n1Players, qF_players _ _, t, rfl, ⟨_, SqL.of ht⟩, for_list (K := K) (a := t) (xs := ivs pc.players) (fun j σ H2 => ∃ (v4 : Option V), H2 = H1 ∧ σ = [some (.ref a), some (.int ((workOn d (d.pieces.take i) + Uw03.total ((pc.players.take j).map fun a => rateOf d a * pc.long) : Nat) : Int)), some (.int ((Uw03.total ((d.pieces.take i).map fun p => p.long) : Int) + (pc.long : Int))), some (.ref qp), v4])
        ⟨v4, rfl, rfl⟩ (fun j σ H2 _ ⟨_, e, _⟩ => by rw [e]; exact SqL.of ht) ?_ ?_⟩
      · clear v4
        rintro j y σ H2 hj ⟨v4, rfl, rfl⟩
        obtain ⟨wh, hx, rfl⟩ := ivs_get hj
        have hwh : wh < d.players.length := okp.2.2.2.2 wh (List.mem_of_getElem? hx)
        obtain ⟨pl, hpl⟩ : ∃ pl, d.players[wh]? = some pl := ⟨_, List.getElem?_eq_getElem hwh⟩
        obtain ⟨q, hq, _, dxq, hqi⟩ := z1.get hpl
        have okl := ok.pl pl (List.mem_of_getElem? hpl)
        have er : rateOf d wh = pl.rate := by unfold rateOf; rw [hpl]; rfl
        refine ⟨_, rfl, _, rfl, a, G.d, dx, _, _, rfl, hI, T.cl2, T.n2Players, dF_players _ _ _, _, rfl, L.l1, _, _, _, rfl, rfl, SqL.of h1, at_of rfl (ref_at hq), q, G.p, dxq, _, _, rfl, hqi, T.cl0, T.n0Cost, pF_cost _, _, rfl, qp, G.q, dxp, _, _, rfl, hpi, T.cl1, T.n1Minutes, qF_minutes _ _, _, _, rfl, rfl, .inl ⟨by omega, by omega⟩, _, _, rfl, rfl, ?_⟩
        refine ⟨some (.int (wh : Int)), rfl, ?_⟩
        rw [take_more hx, List.map_append, total_append]
        show _ = [_, some (V.int ((workOn d (d.pieces.take i) + (Uw03.total ((pc.players.take j).map fun a => rateOf d a * pc.long) + (0 + rateOf d wh * pc.long)) : Nat) : Int)), _, _, _]
        rw [er, Nat.zero_add, ← Nat.add_assoc, Int.natCast_add (workOn d (d.pieces.take i) + _), Int.natCast_mul]
        rfl
      · rintro σ H2 ⟨v4, rfl, rfl⟩
        refine ⟨some (.ref qp), v4, rfl, ?_⟩
        rw [ivs_len, List.take_length, take_more hpc, workOn_snoc okp.2.2.2.1, List.map_append]
        show _ = [_, _, some (V.int ((Uw03.total (((d.pieces.take i).map fun p => p.long) ++ [pc.long]) : Nat) : Int)), _, _]
        rw [total_snoc, Int.natCast_add (Uw03.total _)]
    · rintro σ H1 ⟨v3, v4, rfl, rfl⟩
      rw [List.length_map, z2.length, List.take_length, ← work_eq]
      refine ⟨_, rfl, _, rfl, (by show 1 ≤ sizeLine; decide), fun e ne => ⟨(by show 1 ≤ sizeLine; decide), fun M nM => ?_⟩⟩
      have s1 := same_new (o := HO.lst [V.int ((Uw03.total (d.pieces.map fun p => p.long) : Nat) : Int)]) ne
      have s2 := s1.trans (same_new (o := HO.lst [V.ref e]) nM)
      refine ⟨_, M, [[Uw03.total (d.pieces.map fun (p : Piece) => p.long)]], rfl, ⟨[e], upd_same, .cons (same_new nM _ _ upd_same) .nil⟩, (by show 2 ≤ 100000; decide), fun H' p sp np hp => k H' p (s2.trans sp) (s2.free np) hp⟩
end
end Rd

set_option Elab.async false
set_option maxRecDepth 100000
set_option maxHeartbeats 4000000
namespace Rd
open PySem PySem.Spec PyProof.Rows L2
open Uw03 (Day Player Piece Order Call)
/-! ### lists of whole numbers as data -/
def intD (l : List Int) : PyData := .list (l.map .int)
theorem ints_lay (l : List Int) : PyData.canLayAll0 (l.map PyData.int) = true := by
  induction l with
  | nil => rw [List.map_nil, PyData.canLayAll0]
  | cons z zs ih => rw [List.map_cons, PyData.canLayAll0, ih]; simp only [PyData.canLay0, Bool.and_self]
theorem ints_depth (l : List Int) : PyData.depthAll (l.map PyData.int) ≤ 1 := by
  induction l with
  | nil => rw [List.map_nil, PyData.depthAll]; omega
  | cons z zs ih =>
    rw [List.map_cons, PyData.depthAll]
    have h : (PyData.int z).depth ≤ 1 := by simp [PyData.depth]
    omega
theorem intD_shaped (l : List Int) : SeqAt.shaped (intD l) = true := by
  have h1 := ints_depth l
  unfold SeqAt.shaped intD
  rw [PyData.canLay0, ints_lay l, PyData.depth, Bool.true_and]
  exact decide_eq_true (by omega)
theorem intD_eqv (l m : List Int) : PyData.eqv (intD l) (intD m) = decide (l = m) := by
  have key : ∀ (l m : List Int), PyData.eqvAll (l.map PyData.int) (m.map PyData.int) = decide (l = m) := by
    intro l
    induction l with
    | nil =>
      intro m
      cases m with
      | nil => simp [PyData.eqvAll]
      | cons y m => simp [PyData.eqvAll]
    | cons x l ih =>
      intro m
      cases m with
      | nil => simp [PyData.eqvAll]
      | cons y m =>
        rw [List.map_cons, List.map_cons, PyData.eqvAll, ih m]
        have e : PyData.eqv (PyData.int x) (PyData.int y) = (x == y) := by simp only [PyData.eqv]
        rw [e, Bool.eq_iff_iff]
        simp only [Bool.and_eq_true, beq_iff_eq, decide_eq_true_eq, List.cons.injEq]
  unfold intD
  rw [PyData.eqv]
  exact key l m
theorem ints_dp {K : PySem.W.Frag} {H : Hp} : ∀ l : List Int, DpAll K H (l.map V.int) (l.map PyData.int)
  | [] => .nil
  | _ :: l => .cons (.int _) (ints_dp l)
theorem rgV_nat (n : Nat) : rgV 0 (n : Int) = (natsI (List.range n)).map V.int := by
  unfold rgV natsI
  rw [List.map_map, Int.sub_zero, Int.toNat_natCast]
  apply List.map_congr_left
  intro x _
  show V.int _ = V.int _
  congr 1
  simp
theorem flat1_rows {α : Type} {f : α → List Nat} (h : ∀ x, (f x).length ≤ 3) : ∀ l : List α, (flat1 (l.map f)).length ≤ 4 * l.length
  | [] => Nat.zero_le _
  | x :: l => by
    have e : (flat1 ((x :: l).map f)).length = (f x).length + 1 + (flat1 (l.map f)).length := by
      unfold flat1
      rw [List.map_cons, List.flatMap_cons, List.length_append, List.length_cons, List.length_map]
    have h1 := flat1_rows h l
    have h2 := h x
    rw [e, List.length_cons]
    omega
theorem row_len (d : Day) (o : Order) (a : Nat) : (row d o a).length ≤ 3 := by
  unfold row
  split
  · exact Nat.le_refl _
  · exact Nat.zero_le _
theorem tell_flat (d : Day) (o : Order) : (flat1 (d.tell o)).length ≤ 4 * d.players.length := by
  rw [tell_eq]
  have h := flat1_rows (row_len d o) (List.range d.players.length)
  rwa [List.length_range] at h
theorem flat1_cons (w : List Nat) (ls : List (List Nat)) : (flat1 (w :: ls)).length = w.length + 1 + (flat1 ls).length := by
  unfold flat1
  rw [List.flatMap_cons, List.length_append, List.length_cons, List.length_map]
/-- a method's name is none of the day's fields -/
theorem dF_no {m : Str} (l1 l2 l3 : Addr) (h1 : (m == ("players" : Str)) = false) (h2 : (m == ("pieces" : Str)) = false) (h3 : (m == ("pairs" : Str)) = false) : (dF l1 l2 l3).lookup m = none :=
  (lk_past h1).trans ((lk_past h2).trans ((lk_past h3).trans rfl))
section
variable {P : Program} {w : World} {K : PySem.W.Frag} {mg : Str → Option Value} {base : Heap} {G : Gs}
/-! ### the order that costs least -/
def spBest (G : Gs) : Sp := fun vs H Q _ => ∃ (a : Addr) (L : Pl) (d : Day) (n : Nat), vs = [.ref a] ∧ DayAt G H a L d ∧ Ok d n ∧
  ∀ (H' : Hp) (p : Addr), Same H H' → H p = none → H' p = some (.lst ((Uw03Neutral.out (Uw03.step d .best).2).map V.int)) → Q (.ref p) H'
theorem scBe : FnScope ["self", "lowest", "earliest", "count", "order", "stays", "paid"] ["self"] (defScope sBest) := ⟨rfl, rfl, rfl, by decide +kernel, rfl, by decide +kernel, by decide +kernel⟩
theorem ok_best {f : Addr} {fd : FuncData} (F : Fun K "best" "Day.best" sBest f fd) (T : Txt K mg G) (O : DefOk P w K mg base "all_orders" 1 ["count"] spOrders) (W : DefOk P w K mg base "with_lists" 1 ["number", "lists"] spWith)
    (ST : MethOk P w K mg base G.d "stays_in" 1 ["self", "order"] (spStays G)) (FF : MethOk P w K mg base G.d "first_fault" 1 ["self", "order", "stays"] (spFault G)) (PY : MethOk P w K mg base G.d "pay_for" 1 ["self", "stays"] (spPay G)) : FnOk P w K mg base CX0 2 f fd ["self"] (spBest G) := by
  refine F.ok scBe (fun vs H Q E h => ?_) (fun cdv A outer s H vs Q E hr h => ?_)
  · obtain ⟨a, L, d, n, rfl, _⟩ := h
    rfl
  · refine ⟨_, pss_cons (ps_set (i := 1) scBe.nd rfl (Or.inl rfl) pe_int)
      (pss_cons (ps_set (i := 2) scBe.nd rfl (Or.inl rfl) (pe_lst pa_nil))
      (pss_cons (ps_set (i := 3) scBe.nd rfl (Or.inl rfl) pe_int)
      (pss_cons (ps_for PassesOwn.never rfl (pi_list (pe_def O hr (by rfl) (pa_cons (pe_callB call_len_seq (by rfl) T.len PySem.boot_len (pa_cons (pe_fld (pv 0) rfl) pa_nil)) pa_nil))) (pg_name (i := 4) scBe.nd rfl (Or.inl rfl))
        (pss_cons (ps_set (i := 5) scBe.nd rfl (Or.inl rfl) (pe_dmeth ST hr T.cl2 (pv 0) (pa_cons (pv 4) pa_nil)))
        (pss_one (ps_if (pt_cmpR (op_eqD hr.units) (pe_dmeth FF hr T.cl2 (pv 0) (pa_cons (pv 4) (pa_cons (pv 5) pa_nil))) (pe_lst pa_nil) (nomark _))
          (pss_cons (ps_set (i := 6) scBe.nd rfl (Or.inl rfl) (pe_dmeth PY hr T.cl2 (pv 0) (pa_cons (pv 5) pa_nil)))
          (pss_one (ps_if (PW.pt (pw_or (pt_cmpR op_eq (pv 3) pe_int (nomark _)) (pw_or1 (pt_cmpR op_lt (pv 6) (pv 1) (nomark _)))))
            (pss_cons (ps_set (i := 1) scBe.nd rfl (Or.inl rfl) (pv 6)) (pss_cons (ps_set (i := 2) scBe.nd rfl (Or.inl rfl) (pv 4)) (pss_one (ps_set (i := 3) scBe.nd rfl (Or.inl rfl) pe_int))))
            (pss_one (ps_if (pt_cmpR op_eq (pv 6) (pv 1) (nomark _)) (pss_one (ps_aug (i := 3) scBe.nd rfl (Or.inl rfl) pe_int ip_add)) pss_nil)))))
          pss_nil))))
      (pss_cons (ps_if (pt_cmpR op_eq (pv 3) pe_int (nomark _)) (pss_one (ps_ret (pe_lst (pa_cons (pe_un un_neg pe_int) pa_nil)))) pss_nil)
      (pss_one (ps_ret (pe_def W hr (by rfl) (pa_cons (pv 1) (pa_cons (pe_op op_cat (pe_lst (pa_cons (pe_lst (pa_cons (pv 3) pa_nil)) (pa_cons (pv 2) pa_nil))) (pe_dmeth ST hr T.cl2 (pv 0) (pa_cons (pv 2) pa_nil))) pa_nil))))))))), ?_⟩
    obtain ⟨a, L, d, n, rfl, Dy, ok, k⟩ := h
    obtain ⟨dx, hI⟩ := Dy.ins
    obtain ⟨q2, h2, z2⟩ := Dy.pc
    have lq : (q2.map V.ref).length = d.pieces.length := by rw [List.length_map, z2.length]
    have n6 := ok.nP
    have m6 := ok.nQ
    -- earliest = []
    refine ⟨Nat.zero_le _, fun e0 ne0 => ?_⟩
    have s0 := same_new (o := HO.lst []) ne0
    -- all_orders(len(self.pieces))
    refine ⟨_, rfl, a, G.d, dx, _, _, rfl, s0 _ _ hI, T.cl2, T.n2Pieces, dF_pieces _ _ _, L.l2, _, rfl, .inl (SqL.of (s0 _ _ h2)), d.pieces.length, by rw [lq]; rfl, ok.nQ, fun H1 O1 s1' ⟨os, hO, zO⟩ => ?_⟩
    have s1 := s0.trans s1'
    refine ⟨O1, rfl, ⟨_, SqL.of hO⟩, for_list (K := K) (a := O1) (xs := os.map V.ref) (fun i σ H2 => ∃ (lo many : Nat) (ea : Addr) (o : Order) (v4 v5 v6 : Option V), σ = [some (.ref a), some (.int (lo : Int)), some (.ref ea), some (.int (many : Int)), v4, v5, v6] ∧ Same H1 H2 ∧ Least (((lvl d.pieces.length d.pieces.length).take i).foldl (take1 d) none) lo many o ∧ (many ≠ 0 → lsAt H1 ea o ∧ o ∈ lvl d.pieces.length d.pieces.length))
      ⟨0, 0, e0, [], none, none, none, rfl, Same.refl H1, ⟨fun _ => rfl, fun x hx => (by cases hx)⟩, fun z => absurd rfl z⟩ (fun i σ H2 _ ⟨_, _, _, _, _, _, _, _, s, _⟩ => s.seq (SqL.of hO)) ?_ ?_⟩
    · rintro i y σ H2 hi ⟨lo, many, ea, o, v4, v5, v6, rfl, s2, le, hea⟩
      obtain ⟨q, hq, rfl⟩ := ref_get hi
      obtain ⟨ord, hord, hqo⟩ := zO.at hq
      have hmem := List.mem_of_getElem? hord
      have hin := lvl_in hmem
      have hperm := lvl_perm hmem
      have s3 := s1.trans s2
      rw [fold_more hord]
      -- stays = self.stays_in(order)
      refine ⟨_, rfl, a, dx, _, rfl, s3 _ _ hI, dF_no _ _ _ (by decide +kernel) (by decide +kernel) (by decide +kernel), _, rfl, a, q, L, d, n, ord, rfl, Dy.same s3, ok, lsAt.mono s2 _ _ hqo, hin.2.2, fun H4 D s4 nD rD => ?_⟩
      have s5 := s3.trans s4
      -- self.first_fault(order, stays) == []
      refine ⟨_, rfl, a, dx, _, rfl, s5 _ _ hI, dF_no _ _ _ (by decide +kernel) (by decide +kernel) (by decide +kernel), _, rfl, _, rfl, a, q, D, L, d, n, ord, rfl, Dy.same s5, ok, lsAt.mono (s2.trans s4) _ _ hqo, fun x hx => hperm.mem_iff.mp (List.mem_range.mpr hx), rD, fun H6 p s6 np hp => ⟨Nat.zero_le _, fun t0 nt0 => ?_⟩⟩
      have s7 := s6.trans (same_new (o := HO.lst []) nt0)
      have s8 := s5.trans s7
      have s9 := (s2.trans s4).trans s7
      refine ⟨natD (faultOf d ord), natD [], ls_dp (same_new nt0 _ _ hp), ls_dp upd_same, natD_shaped _, natD_shaped _, _, rfl, ?_⟩
      rw [natD_eqv]
      cases hr1 : d.right ord with
      | false =>
        have ne : faultOf d ord ≠ [] := fun z => by
          rw [fault_right.mp z] at hr1
          cases hr1
        exact if_false_of (decide_eq_false ne) ⟨lo, many, ea, o, _, _, _, rfl, s9, le.wrong hr1, hea⟩
      | true =>
        refine if_true_of (decide_eq_true (fault_right.mpr hr1)) ?_
        -- paid = self.pay_for(stays)
        refine ⟨_, rfl, a, dx, _, rfl, s8 _ _ hI, dF_no _ _ _ (by decide +kernel) (by decide +kernel) (by decide +kernel), _, rfl, a, D, L, d, n, ord, rfl, Dy.same s8, ok, rD.keep (fun q x h => lsAt.mono s7 q x h) (fun o h => s7 _ o h), fun H9 s10 => ?_⟩
        have s11 := s9.trans s10
        refine ⟨_, rfl, rfl, _, rfl, ?_⟩
        by_cases c1 : many = 0
        · refine if_true_of (decide_eq_true (by rw [c1]; rfl)) (iteT ⟨_, rfl, _, rfl, ?_⟩)
          exact ⟨d.cost ord, 1, q, ord, _, _, _, rfl, s11, le.less hr1 (.inl c1), fun _ => ⟨hqo, hmem⟩⟩
        refine if_false_of (decide_eq_false (fun z => c1 (by have := V.int.inj z; omega))) ⟨_, rfl, _, rfl, _, _, rfl, rfl, _, rfl, ?_⟩
        by_cases c2 : (d.cost ord : Int) < (lo : Int)
        · refine if_true_of (decide_eq_true c2) ⟨_, rfl, _, rfl, ?_⟩
          exact ⟨d.cost ord, 1, q, ord, _, _, _, rfl, s11, le.less hr1 (.inr (by omega)), fun _ => ⟨hqo, hmem⟩⟩
        refine if_false_of (decide_eq_false c2) ⟨_, rfl, _, rfl, rfl, _, rfl, ?_⟩
        by_cases c3 : d.cost ord = lo
        · refine if_true_of (decide_eq_true (by rw [c3])) ⟨_, rfl, _, _, rfl, rfl, ?_⟩
          exact ⟨lo, many + 1, ea, o, _, _, _, rfl, s11, le.same hr1 c1 c3, fun _ => hea c1⟩
        refine if_false_of (decide_eq_false (fun z => c3 (by have := V.int.inj z; omega))) ?_
        exact ⟨lo, many, ea, o, _, _, _, rfl, s11, le.more hr1 c1 (by omega), hea⟩
    · rintro σ H2 ⟨lo, many, ea, o, v4, v5, v6, rfl, s2, le, hea⟩
      rw [List.length_map, zO.length, List.take_length, lvl_all, ← best_fold] at le
      have s3 := s1.trans s2
      refine ⟨_, rfl, rfl, _, rfl, ?_⟩
      by_cases c1 : many = 0
      · refine if_true_of (decide_eq_true (by rw [c1]; rfl)) ⟨_, rfl, (by show 1 ≤ sizeLine; decide), fun p np => k _ p (s3.trans (same_new np)) (s3.free np) ?_⟩
        have e : Uw03.step d .best = (d, Uw03.ok (-6)) := by
          show (d, match d.best with
            | some b => (⟨(b.cost : Nat), [[b.many], b.order] ++ d.tell b.order⟩ : Uw03.Ans)
            | none => Uw03.ok (-6)) = _
          rw [le.zero c1]
        rw [e]
        exact upd_same
      refine if_false_of (decide_eq_false (fun z => c1 (by have := V.int.inj z; omega))) ?_
      obtain ⟨hls, hmem⟩ := hea c1
      have hin := lvl_in hmem
      have e : Uw03.step d .best = (d, ⟨(lo : Nat), [[many], o] ++ d.tell o⟩) := by
        show (d, match d.best with
          | some b => (⟨(b.cost : Nat), [[b.many], b.order] ++ d.tell b.order⟩ : Uw03.Ans)
          | none => Uw03.ok (-6)) = _
        cases hb : d.best with
        | none => exact absurd (le.no hb) c1
        | some b =>
          obtain ⟨y1, y2, y3, y4⟩ := le.yes b hb
          rw [← y1, ← y2, ← y3]
      rw [e] at k
      -- [[count], earliest] + self.stays_in(earliest)
      refine ⟨_, rfl, _, rfl, (by show 1 ≤ sizeLine; decide), fun u nu => ⟨_, rfl, (by show 2 ≤ sizeLine; decide), fun M nM => ?_⟩⟩
      have s4 := same_new (o := HO.lst [V.int (many : Int)]) nu
      have s5 := same_new (o := HO.lst [V.ref u, V.ref ea]) nM
      have s6 := (s3.trans s4).trans s5
      have s7 := (s2.trans s4).trans s5
      refine ⟨_, rfl, a, dx, _, rfl, s6 _ _ hI, dF_no _ _ _ (by decide +kernel) (by decide +kernel) (by decide +kernel), _, rfl, a, ea, L, d, n, o, rfl, Dy.same s6, ok, lsAt.mono s7 _ _ hls, hin.2.2, fun H4 D s8 nD ⟨rs, hD, zr⟩ => ?_⟩
      have lr := zr.length
      rw [tell_eq, List.length_map, List.length_range] at lr
      refine ⟨M, D, _, _, rfl, rfl, s8 _ _ upd_same, hD, (by rw [List.length_map]; exact Nat.le_trans (show 2 + rs.length ≤ 8 by omega) (by decide)), fun N nN => ?_⟩
      have s9 := same_new (o := HO.lst ([V.ref u, V.ref ea] ++ rs.map V.ref)) nN
      have s10 := (s6.trans s8).trans s9
      have zz : All2 (lsAt (upd H4 N (.lst ([V.ref u, V.ref ea] ++ rs.map V.ref)))) (u :: ea :: rs) ([[many], o] ++ d.tell o) :=
        .cons (s9 _ _ (s8 _ _ (s5 _ _ upd_same))) (.cons (lsAt.mono ((s7.trans s8).trans s9) _ _ hls) (zr.imp fun q x h => lsAt.mono s9 q x h))
      refine ⟨_, N, [[many], o] ++ d.tell o, rfl, ⟨u :: ea :: rs, upd_same, zz⟩, ?_, fun H' p sp np hp => k H' p (s10.trans sp) (s10.free np) hp⟩
      have hf := tell_flat d o
      show (flat1 ([many] :: o :: d.tell o)).length ≤ 100000
      rw [flat1_cons, flat1_cons, hin.1]
      show 1 + 1 + (d.pieces.length + 1 + (flat1 (d.tell o)).length) ≤ 100000
      omega
/-! ### an order checked -/
def spCheck (G : Gs) : Sp := fun vs H Q _ => ∃ (a o : Addr) (L : Pl) (d : Day) (n : Nat) (ord : Order), vs = [.ref a, .ref o] ∧ DayAt G H a L d ∧ Ok d n ∧ lsAt H o ord ∧ ord.length ≤ 20 ∧
  ∀ (H' : Hp) (p : Addr), Same H H' → H p = none → H' p = some (.lst ((Uw03Neutral.out (Uw03.step d (.check ord)).2).map V.int)) → Q (.ref p) H'
theorem scCh : FnScope ["self", "order", "stays", "fault"] ["self", "order"] (defScope sCheck) := ⟨rfl, rfl, rfl, by decide +kernel, rfl, by decide +kernel, by decide +kernel⟩
theorem ok_check {f : Addr} {fd : FuncData} (F : Fun K "check" "Day.check" sCheck f fd) (T : Txt K mg G) (W : DefOk P w K mg base "with_lists" 1 ["number", "lists"] spWith)
    (ST : MethOk P w K mg base G.d "stays_in" 1 ["self", "order"] (spStays G)) (FF : MethOk P w K mg base G.d "first_fault" 1 ["self", "order", "stays"] (spFault G)) (PY : MethOk P w K mg base G.d "pay_for" 1 ["self", "stays"] (spPay G)) : FnOk P w K mg base CX0 2 f fd ["self", "order"] (spCheck G) := by
  refine F.ok scCh (fun vs H Q E h => ?_) (fun cdv A outer s H vs Q E hr h => ?_)
  · obtain ⟨a, o, L, d, n, ord, rfl, _⟩ := h
    rfl
  · refine ⟨_, pss_cons (ps_if (pt_cmpR (op_neD hr.units) (pe_callB cr_sorted (by rfl) T.sorted (by decide +kernel) (pa_cons (pv 1) pa_nil)) (pe_listRg rfl (by rfl) T.list (prg_1 (by rfl) T.range (pe_callB call_len_seq (by rfl) T.len PySem.boot_len (pa_cons (pe_fld (pv 0) rfl) pa_nil)))) (nomark _)) (pss_one (ps_ret (pe_lst (pa_cons (pe_un un_neg pe_int) pa_nil)))) pss_nil)
      (pss_cons (ps_set (i := 2) scCh.nd rfl (Or.inl rfl) (pe_dmeth ST hr T.cl2 (pv 0) (pa_cons (pv 1) pa_nil)))
      (pss_cons (ps_set (i := 3) scCh.nd rfl (Or.inl rfl) (pe_dmeth FF hr T.cl2 (pv 0) (pa_cons (pv 1) (pa_cons (pv 2) pa_nil))))
      (pss_cons (ps_if (pt_cmpR (op_neD hr.units) (pv 3) (pe_lst pa_nil) (nomark _)) (pss_one (ps_ret (pe_def W hr (by rfl) (pa_cons pe_int (pa_cons (pe_lst (pa_cons (pv 3) pa_nil)) pa_nil))))) pss_nil)
      (pss_one (ps_ret (pe_def W hr (by rfl) (pa_cons pe_int (pa_cons (pe_op op_cat (pe_lst (pa_cons (pe_lst (pa_cons (pe_dmeth PY hr T.cl2 (pv 0) (pa_cons (pv 2) pa_nil)) pa_nil)) pa_nil)) (pv 2)) pa_nil)))))))), ?_⟩
    obtain ⟨a, o, L, d, n, ord, rfl, Dy, ok, ho, hlen, k⟩ := h
    obtain ⟨dx, hI⟩ := Dy.ins
    obtain ⟨q2, h2, z2⟩ := Dy.pc
    have lq : (q2.map V.ref).length = d.pieces.length := by rw [List.length_map, z2.length]
    have n6 := ok.nP
    have m6 := ok.nQ
    have ho' : SqL K H o ((natsI ord).map V.int) := by rw [natsI_ivs]; exact SqL.of ho
    -- sorted(order) != list(range(len(self.pieces)))
    refine ⟨_, rfl, o, natsI ord, rfl, ho', (by unfold natsI; rw [List.length_map]; omega), fun ns p1 pm ris np1 => ?_⟩
    have s1 := same_new (o := HO.lst (ns.map V.int)) np1
    refine ⟨_, rfl, a, G.d, dx, _, _, rfl, s1 _ _ hI, T.cl2, T.n2Pieces, dF_pieces _ _ _, L.l2, _, rfl, .inl (SqL.of (s1 _ _ h2)), _, rfl, ?_⟩
    rw [lq]
    refine ⟨RgOk.of_le (by omega) (by omega) (by omega) (by omega), fun p2 np2 => ?_⟩
    rw [rgV_nat]
    have s2 := same_new (o := HO.lst ((natsI (List.range d.pieces.length)).map V.int)) np2
    have s3 := s1.trans s2
    refine ⟨intD ns, intD (natsI (List.range d.pieces.length)), .lst (SqL.of (s2 _ _ upd_same)) (ints_dp _), .lst (SqL.of upd_same) (ints_dp _), intD_shaped _, intD_shaped _, _, rfl, ?_⟩
    rw [intD_eqv]
    by_cases c1 : (List.range d.pieces.length).Perm ord
    · have hc : ¬ (ord.length ≠ d.pieces.length ∨ (List.range d.pieces.length).all (fun i => ord.contains i) = false) := fun z => each_once.mp z c1
      have hin : ∀ x ∈ ord, x < d.pieces.length := fun x hx => List.mem_range.mp (c1.mem_iff.mpr hx)
      have hall : ∀ x, x < d.pieces.length → x ∈ ord := fun x hx => c1.mem_iff.mp (List.mem_range.mpr hx)
      refine if_false_of (by rw [decide_eq_true ((sorted_eq pm ris).mpr c1)]; rfl) ?_
      have ek : Uw03.step d (.check ord) = (d, match d.wrong ord with
        | none => ⟨1, [[d.cost ord]] ++ d.tell ord⟩
        | some x => ⟨0, [[x.1, x.2]]⟩) := if_neg hc
      rw [ek] at k
      -- stays = self.stays_in(order)
      refine ⟨_, rfl, a, dx, _, rfl, s3 _ _ hI, dF_no _ _ _ (by decide +kernel) (by decide +kernel) (by decide +kernel), _, rfl, a, o, L, d, n, ord, rfl, Dy.same s3, ok, lsAt.mono s3 _ _ ho, hin, fun H4 D s4 nD rD => ?_⟩
      have s5 := s3.trans s4
      -- fault = self.first_fault(order, stays)
      refine ⟨_, rfl, a, dx, _, rfl, s5 _ _ hI, dF_no _ _ _ (by decide +kernel) (by decide +kernel) (by decide +kernel), _, rfl, _, rfl, a, o, D, L, d, n, ord, rfl, Dy.same s5, ok, lsAt.mono s5 _ _ ho, hall, rD, fun H6 p s6 np hp => ?_⟩
      refine ⟨_, rfl, Nat.zero_le _, fun t0 nt0 => ?_⟩
      have s7 := s6.trans (same_new (o := HO.lst []) nt0)
      have s8 := s5.trans s7
      have hp' := same_new (o := HO.lst []) nt0 _ _ hp
      refine ⟨natD (faultOf d ord), natD [], ls_dp hp', ls_dp upd_same, natD_shaped _, natD_shaped _, _, rfl, ?_⟩
      rw [natD_eqv]
      cases hw : d.wrong ord with
      | some x =>
        have ef : faultOf d ord = [x.1, x.2] := by unfold faultOf; rw [hw]
        rw [hw] at k
        refine if_true_of (by rw [ef, decide_eq_false (List.cons_ne_nil _ _)]; rfl) ⟨_, rfl, (by show 1 ≤ sizeLine; decide), fun M nM => ?_⟩
        have s9 := same_new (o := HO.lst [V.ref p]) nM
        have s10 := s8.trans s9
        rw [ef] at hp'
        exact ⟨0, M, [[x.1, x.2]], rfl, ⟨[p], upd_same, .cons (s9 _ _ hp') .nil⟩, (by show 3 ≤ 100000; decide), fun H' p sp np hp => k H' p (s10.trans sp) (s10.free np) hp⟩
      | none =>
        have ef : faultOf d ord = [] := by unfold faultOf; rw [hw]
        rw [hw] at k
        refine if_false_of (by rw [ef]; rfl) ?_
        -- [[self.pay_for(stays)]] + stays
        refine ⟨_, rfl, a, dx, _, rfl, s8 _ _ hI, dF_no _ _ _ (by decide +kernel) (by decide +kernel) (by decide +kernel), _, rfl, a, D, L, d, n, ord, rfl, Dy.same s8, ok, rD.keep (fun q x h => lsAt.mono s7 q x h) (fun o h => s7 _ o h), fun H9 s9 => ?_⟩
        refine ⟨(by show 1 ≤ sizeLine; decide), fun u nu => ⟨(by show 1 ≤ sizeLine; decide), fun M nM => ?_⟩⟩
        have t1 := same_new (o := HO.lst [V.int (d.cost ord : Int)]) nu
        have t2 := same_new (o := HO.lst [V.ref u]) nM
        obtain ⟨rs, hD, zr⟩ := rD
        have t3 := ((s7.trans s9).trans t1).trans t2
        have lr := zr.length
        rw [tell_eq, List.length_map, List.length_range] at lr
        refine ⟨_, rfl, M, D, _, _, rfl, rfl, upd_same, t3 _ _ hD, (by rw [List.length_map]; exact Nat.le_trans (show 1 + rs.length ≤ 8 by omega) (by decide)), fun N nN => ?_⟩
        have t4 := same_new (o := HO.lst ([V.ref u] ++ rs.map V.ref)) nN
        have t5 := (s5.trans t3).trans t4
        refine ⟨1, N, [[d.cost ord]] ++ d.tell ord, rfl, ⟨u :: rs, upd_same, .cons (t4 _ _ (t2 _ _ upd_same)) (zr.imp fun q x h => lsAt.mono (t3.trans t4) q x h)⟩, ?_, fun H' p sp np hp => k H' p (t5.trans sp) (t5.free np) hp⟩
        have hf := tell_flat d ord
        show (flat1 ([d.cost ord] :: d.tell ord)).length ≤ 100000
        rw [flat1_cons]
        show 1 + 1 + (flat1 (d.tell ord)).length ≤ 100000
        omega
    · have hc := each_once.mpr c1
      refine if_true_of (by rw [decide_eq_false fun z => c1 ((sorted_eq pm ris).mp z)]; rfl) ⟨_, rfl, (by show 1 ≤ sizeLine; decide), fun p np => k _ p (s3.trans (same_new np)) (s3.free np) ?_⟩
      have ek : Uw03.step d (.check ord) = (d, Uw03.ok (-1)) := if_pos hc
      rw [ek]
      exact upd_same
end
end Rd

set_option Elab.async false
set_option maxRecDepth 100000
set_option maxHeartbeats 4000000
namespace Rd
open PySem PySem.Spec PyProof.Rows L2
open Uw03 (Day Player Piece Order Call)
/-! ### places in the request -/
theorem mid_get {α : Type} {a m r : List α} {k : Nat} {x : α} (h : m[k]? = some x) : (a ++ (m ++ r))[a.length + k]? = some x := by
  rw [List.getElem?_append_right (Nat.le_add_right _ _), Nat.add_sub_cancel_left, List.getElem?_append_left (List.getElem?_eq_some_iff.mp h).1]
  exact h
theorem mid_at {K : PySem.W.Frag} {H : Hp} {p : Addr} {a m r : List Int} {k : Nat} {x : Int} (_ : SqL K H p ((a ++ (m ++ r)).map V.int)) (h : m[k]? = some x) {z : Int} (e : z = ((a.length + k : Nat) : Int)) : atI ((a ++ (m ++ r)).map V.int) z = some (V.int x) :=
  at_of e (by rw [List.getElem?_map, mid_get h]; rfl)
theorem cut_mid {a m r : List Int} {lo hi : Int} (e1 : lo = (a.length : Nat)) (e2 : hi = ((a.length + m.length : Nat) : Int)) : cutV ((a ++ (m ++ r)).map V.int) (some lo) (some hi) = m.map V.int := by
  subst e1 e2
  unfold cutV
  rw [HT.sIx_nat, HT.sIx_nat, List.length_map, List.length_append, List.length_append]
  rw [Nat.min_eq_left (by omega), Nat.min_eq_left (by omega), Nat.add_sub_cancel_left]
  rw [List.map_append, List.map_append, List.drop_append_of_le_length (by rw [List.length_map]; exact Nat.le_refl _)]
  have e : (a.map V.int).drop a.length = [] := List.drop_eq_nil_of_le (by rw [List.length_map]; exact Nat.le_refl _)
  rw [e, List.nil_append, List.take_append_of_le_length (by rw [List.length_map]; exact Nat.le_refl _)]
  exact List.take_of_length_le (by rw [List.length_map]; exact Nat.le_refl _)
theorem cut_from {xs : List V} {k : Nat} (h : k ≤ xs.length) : cutV xs (some (k : Int)) none = xs.drop k := by
  unfold cutV
  rw [HT.sIx_nat, HT.sIx_none, Nat.min_eq_left h]
  exact List.take_of_length_le (by rw [List.length_drop]; exact Nat.le_refl _)
section
variable {P : Program} {w : World} {K : PySem.W.Frag} {mg : Str → Option Value} {base : Heap} {G : Gs}
/-! ### the day made, and begun anew -/
theorem dF_new (l1 l2 l3 : Addr) : putF "pairs" (.ref l3) (putF "pieces" (.ref l2) (putF "players" (.ref l1) [])) = dF l1 l2 l3 :=
  (congrArg (putF "pairs" (.ref l3)) ((put_past (by decide +kernel)).trans rfl)).trans ((put_past (by decide +kernel)).trans (congrArg _ ((put_past (by decide +kernel)).trans rfl)))
theorem dF_again (l1 l2 l3 m1 m2 m3 : Addr) : putF "pairs" (.ref l3) (putF "pieces" (.ref l2) (putF "players" (.ref l1) (dF m1 m2 m3))) = dF l1 l2 l3 := by
  have e1 : putF "players" (.ref l1) (dF m1 m2 m3) = dF l1 m2 m3 := put_here
  have e2 : putF "pieces" (.ref l2) (dF l1 m2 m3) = dF l1 l2 m3 := (put_past (by decide +kernel)).trans (congrArg _ put_here)
  have e3 : putF "pairs" (.ref l3) (dF l1 l2 m3) = dF l1 l2 l3 := (put_past (by decide +kernel)).trans (congrArg _ ((put_past (by decide +kernel)).trans (congrArg _ put_here)))
  rw [e1, e2, e3]
/-- a day's three lists and nothing in them -/
def Pl.of (l1 l2 l3 : Addr) : Pl := ⟨l1, l2, l3, fun _ => False⟩
def spInit (G : Gs) : Sp := fun vs H Q _ => ∃ (p dx : Addr), vs = [.ref p] ∧ H p = some (.ins G.d dx []) ∧
  ∀ (H' : Hp) (L : Pl), DayAt G H' p L Uw03.init → (∀ b o, H b = some o → b ≠ p → H' b = some o) → (∀ b, L.has b → H b = none ∧ ∃ o, H' b = some o) → Q .non H'
theorem of_there {H : Hp} {a l1 l2 l3 : Addr} {d : Day} (D : DayAt G H a (Pl.of l1 l2 l3) d) (b : Addr) (hb : (Pl.of l1 l2 l3).has b) : ∃ o, H b = some o := by
  rcases hb with hb | hb | hb | hb
  · obtain ⟨_, h, _⟩ := D.pl
    exact ⟨_, hb ▸ h⟩
  · obtain ⟨_, h, _⟩ := D.pc
    exact ⟨_, hb ▸ h⟩
  · obtain ⟨_, h, _⟩ := D.pr
    exact ⟨_, hb ▸ h⟩
  · exact hb.elim
theorem scI : FnScope ["self"] ["self"] (defScope sInitDay) := ⟨rfl, rfl, rfl, by decide +kernel, rfl, by decide +kernel, by decide +kernel⟩
/-- three new lists, stored -/
theorem three_new {H : Hp} {p dx : Addr} {fs : List (Str × V)} (hp : H p = some (.ins G.d dx fs)) {l1 : Addr} (n1 : H l1 = none) {H1 H2 H3 H4 H5 H6 : Hp}
    {f1 f2 f3 : List (Str × V)} (e1 : H1 = upd H l1 (.lst [])) (e2 : H2 = upd H1 p (.ins G.d dx f1)) {l2 : Addr} (n2 : H2 l2 = none) (e3 : H3 = upd H2 l2 (.lst [])) (e4 : H4 = upd H3 p (.ins G.d dx f2))
    {l3 : Addr} (n3 : H4 l3 = none) (e5 : H5 = upd H4 l3 (.lst [])) (e6 : H6 = upd H5 p (.ins G.d dx f3)) (ef : f3 = dF l1 l2 l3) :
    DayAt G H6 p (Pl.of l1 l2 l3) Uw03.init ∧ (∀ b o, H b = some o → b ≠ p → H6 b = some o) ∧ (∀ b, (Pl.of l1 l2 l3).has b → H b = none) ∧ ∀ b, H6 b = none → H b = none := by
  have p1 : p ≠ l1 := ne_of_none hp n1
  have q1 : H2 l1 = some (.lst []) := by rw [e2, upd_ne p1.symm, e1]; exact upd_same
  have q2 : H2 p = some (.ins G.d dx f1) := by rw [e2]; exact upd_same
  have p2 : p ≠ l2 := ne_of_none q2 n2
  have p12 : l1 ≠ l2 := ne_of_none q1 n2
  have r1 : H4 l1 = some (.lst []) := by rw [e4, upd_ne p1.symm, e3, upd_ne p12]; exact q1
  have r2 : H4 l2 = some (.lst []) := by rw [e4, upd_ne p2.symm, e3]; exact upd_same
  have r3 : H4 p = some (.ins G.d dx f2) := by rw [e4]; exact upd_same
  have p3 : p ≠ l3 := ne_of_none r3 n3
  have p13 : l1 ≠ l3 := ne_of_none r1 n3
  have p23 : l2 ≠ l3 := ne_of_none r2 n3
  have t1 : H6 l1 = some (.lst []) := by rw [e6, upd_ne p1.symm, e5, upd_ne p13]; exact r1
  have t2 : H6 l2 = some (.lst []) := by rw [e6, upd_ne p2.symm, e5, upd_ne p23]; exact r2
  have t3 : H6 l3 = some (.lst []) := by rw [e6, upd_ne p3.symm, e5]; exact upd_same
  have t0 : H6 p = some (.ins G.d dx (dF l1 l2 l3)) := by rw [e6, ← ef]; exact upd_same
  have m2 : H l2 = none := by
    rw [e2, e1] at n2
    exact free_upd (free_upd n2)
  have m3 : H l3 = none := by
    rw [e4, e3, e2, e1] at n3
    exact free_upd (free_upd (free_upd (free_upd n3)))
  refine ⟨⟨⟨dx, t0⟩, p12, p13, p23, id, id, id, id, .nil t1, .nil t2, .nil t3⟩, fun b o e hb => ?_, fun b hb => ?_, fun b e => ?_⟩
  · rw [e6, upd_ne hb, e5, upd_ne (ne_of_none e m3), e4, upd_ne hb, e3, upd_ne (ne_of_none e m2), e2, upd_ne hb, e1, upd_ne (ne_of_none e n1)]
    exact e
  · rcases hb with hb | hb | hb | hb
    · exact hb ▸ n1
    · exact hb ▸ m2
    · exact hb ▸ m3
    · exact hb.elim
  · rw [e6, e5, e4, e3, e2, e1] at e
    exact free_upd (free_upd (free_upd (free_upd (free_upd (free_upd e)))))
theorem ok_init {f : Addr} {fd : FuncData} (F : Fun K "__init__" "Day.__init__" sInitDay f fd) (T : Txt K mg G) : FnOk P w K mg base CX0 1 f fd ["self"] (spInit G) := by
  refine F.ok scI (fun vs H Q E h => ?_) (fun cdv A outer s H vs Q E hr h => ?_)
  · obtain ⟨p, dx, rfl, _⟩ := h
    rfl
  · refine ⟨_, pss_cons (ps_fld (pv 0) (pe_lst pa_nil) rfl) (pss_cons (ps_fld (pv 0) (pe_lst pa_nil) rfl) (pss_one (ps_fld (pv 0) (pe_lst pa_nil) rfl))), ?_⟩
    obtain ⟨p, dx, rfl, hp, k⟩ := h
    refine ⟨Nat.zero_le _, fun l1 n1 => ⟨_, rfl, p, G.d, dx, [], rfl, (by rw [upd_ne (ne_of_none hp n1)]; exact hp), T.cl2, T.n2Players, (by show 0 < 1000; decide), ?_⟩⟩
    refine ⟨Nat.zero_le _, fun l2 n2 => ⟨_, rfl, p, G.d, dx, _, rfl, (by rw [upd_ne (ne_of_none upd_same n2)]; exact upd_same), T.cl2, T.n2Pieces, (by show 1 < 1000; decide), ?_⟩⟩
    refine ⟨Nat.zero_le _, fun l3 n3 => ⟨_, rfl, p, G.d, dx, _, rfl, (by rw [upd_ne (ne_of_none upd_same n3)]; exact upd_same), T.cl2, T.n2Pairs, (by show 2 < 1000; decide), ?_⟩⟩
    obtain ⟨D, sm, hn, fr⟩ := three_new hp n1 rfl rfl n2 rfl rfl n3 rfl rfl (dF_new l1 l2 l3)
    exact k _ _ D sm fun b hb => ⟨hn b hb, of_there D b hb⟩
def spBegin (G : Gs) : Sp := fun vs H Q _ => ∃ (a : Addr) (L : Pl) (d : Day), vs = [.ref a] ∧ DayAt G H a L d ∧ After G H a L Uw03.init (.int 0) Q
theorem scB : FnScope ["self"] ["self"] (defScope sBegin) := ⟨rfl, rfl, rfl, by decide +kernel, rfl, by decide +kernel, by decide +kernel⟩
theorem ok_begin {f : Addr} {fd : FuncData} (F : Fun K "begin" "Day.begin" sBegin f fd) (T : Txt K mg G) : FnOk P w K mg base CX0 1 f fd ["self"] (spBegin G) := by
  refine F.ok scB (fun vs H Q E h => ?_) (fun cdv A outer s H vs Q E hr h => ?_)
  · obtain ⟨a, L, d, rfl, _⟩ := h
    rfl
  · refine ⟨_, pss_cons (ps_fld (pv 0) (pe_lst pa_nil) rfl) (pss_cons (ps_fld (pv 0) (pe_lst pa_nil) rfl) (pss_cons (ps_fld (pv 0) (pe_lst pa_nil) rfl) (pss_one (ps_ret pe_int)))), ?_⟩
    obtain ⟨p, L, d, rfl, D0, k⟩ := h
    obtain ⟨dx, hp⟩ := D0.ins
    refine ⟨Nat.zero_le _, fun l1 n1 => ⟨_, rfl, p, G.d, dx, _, rfl, (by rw [upd_ne (ne_of_none hp n1)]; exact hp), T.cl2, T.n2Players, (by show 3 < 1000; decide), ?_⟩⟩
    refine ⟨Nat.zero_le _, fun l2 n2 => ⟨_, rfl, p, G.d, dx, _, rfl, (by rw [upd_ne (ne_of_none upd_same n2)]; exact upd_same), T.cl2, T.n2Pieces, (by show 3 < 1000; decide), ?_⟩⟩
    refine ⟨Nat.zero_le _, fun l3 n3 => ⟨_, rfl, p, G.d, dx, _, rfl, (by rw [upd_ne (ne_of_none upd_same n3)]; exact upd_same), T.cl2, T.n2Pairs, (by show 3 < 1000; decide), ?_⟩⟩
    obtain ⟨D, sm, hn, fr⟩ := three_new hp n1 rfl rfl n2 rfl rfl n3 rfl rfl (dF_again l1 l2 l3 L.l1 L.l2 L.l3)
    exact k _ _ D ⟨fun b o e ha _ => sm b o e ha, fun b hb => .inr (hn b hb), fr⟩
/-! ### where a call ends -/
def spEnd (K : PySem.W.Frag) : Sp := fun vs H Q _ => ∃ (p : Addr) (a r : List Int) (c : Call), vs = [.ref p, .int (a.length : Nat)] ∧ SqL K H p ((a ++ (enc c ++ r)).map V.int) ∧ Q (.int ((a.length + (enc c).length : Nat) : Int)) H
theorem scE : FnScope ["calls", "start", "number"] ["calls", "start"] (defScope sCallEnd) := ⟨rfl, rfl, rfl, by decide +kernel, rfl, by decide +kernel, by decide +kernel⟩
theorem ok_end {f : Addr} {fd : FuncData} (F : Fun K "call_end" "call_end" sCallEnd f fd) (T : Txt K mg G) : FnOk P w K mg base CX0 1 f fd ["calls", "start"] (spEnd K) := by
  refine F.ok scE (fun vs H Q E h => ?_) (fun cdv A outer s H vs Q E hr h => ?_)
  · obtain ⟨p, a, r, c, rfl, _⟩ := h
    rfl
  · refine ⟨_, pss_cons (ps_set (i := 2) scE.nd rfl (Or.inl rfl) (pe_ix ix_list (pv 0) (pv 1) (fun _ _ => rfl)))
      (pss_cons (ps_if (pt_cmpR op_eq (pv 2) (pe_const (by rfl) T.cPlayer) (nomark _)) (pss_one (ps_ret (pe_op op_add (pv 1) pe_int))) pss_nil)
      (pss_cons (ps_if (pt_cmpR op_eq (pv 2) (pe_const (by rfl) T.cPiece) (nomark _)) (pss_one (ps_ret (pe_op op_add (pe_op op_add (pv 1) pe_int) (pe_ix ix_list (pv 0) (pe_op op_add (pv 1) pe_int) (fun _ _ => rfl))))) pss_nil)
      (pss_cons (ps_if (pt_cmpR op_eq (pv 2) (pe_const (by rfl) T.cAhead) (nomark _)) (pss_one (ps_ret (pe_op op_add (pv 1) pe_int))) pss_nil)
      (pss_cons (ps_if (pt_cmpR op_eq (pv 2) (pe_const (by rfl) T.cCheck) (nomark _)) (pss_one (ps_ret (pe_op op_add (pe_op op_add (pv 1) pe_int) (pe_ix ix_list (pv 0) (pe_op op_add (pv 1) pe_int) (fun _ _ => rfl))))) pss_nil)
      (pss_one (ps_ret (pe_op op_add (pv 1) pe_int))))))), ?_⟩
    obtain ⟨p, a, r, c, rfl, hS, k⟩ := h
    have go : ∀ (x : Int) (m : List Int), enc c = x :: m → atI ((a ++ (enc c ++ r)).map V.int) ((a.length : Nat) : Int) = some (V.int x) := fun x m e => mid_at (k := 0) hS (by rw [e]; rfl) (by simp)
    cases c with
    | begins =>
      refine ⟨_, rfl, _, rfl, p, _, _, _, rfl, rfl, hS, go 0 _ rfl, _, rfl, rfl, _, rfl, if_false_of (by decide) ⟨_, rfl, rfl, _, rfl, if_false_of (by decide) ⟨_, rfl, rfl, _, rfl, if_false_of (by decide) ⟨_, rfl, rfl, _, rfl, if_false_of (by decide) ⟨_, rfl, _, _, rfl, rfl, ?_⟩⟩⟩⟩⟩
      exact k
    | player q =>
      refine ⟨_, rfl, _, rfl, p, _, _, _, rfl, rfl, hS, go 1 _ rfl, _, rfl, rfl, _, rfl, if_true_of (by decide) ⟨_, rfl, _, _, rfl, rfl, ?_⟩⟩
      exact k
    | piece n l =>
      refine ⟨_, rfl, _, rfl, p, _, _, _, rfl, rfl, hS, go 2 _ rfl, _, rfl, rfl, _, rfl, if_false_of (by decide) ⟨_, rfl, rfl, _, rfl, if_true_of (by decide) ⟨_, rfl, _, _, rfl, rfl, _, rfl, _, rfl, _, _, rfl, rfl, p, _, _, _, rfl, rfl, hS, mid_at (k := 2) (x := (l.length : Int)) hS rfl (by simp), _, _, rfl, rfl, ?_⟩⟩⟩
      have e : ((a.length : Nat) : Int) + 3 + (l.length : Int) = ((a.length + (enc (.piece n l)).length : Nat) : Int) := by
        show _ = ((a.length + (2 :: (n : Int) :: (l.length : Int) :: natsI l).length : Nat) : Int)
        unfold natsI
        simp
        omega
      show Q (V.int (((a.length : Nat) : Int) + 3 + (l.length : Int))) H
      rw [e]
      exact k
    | ahead i j =>
      refine ⟨_, rfl, _, rfl, p, _, _, _, rfl, rfl, hS, go 3 _ rfl, _, rfl, rfl, _, rfl, if_false_of (by decide) ⟨_, rfl, rfl, _, rfl, if_false_of (by decide) ⟨_, rfl, rfl, _, rfl, if_true_of (by decide) ⟨_, rfl, _, _, rfl, rfl, ?_⟩⟩⟩⟩
      exact k
    | best =>
      refine ⟨_, rfl, _, rfl, p, _, _, _, rfl, rfl, hS, go 4 _ rfl, _, rfl, rfl, _, rfl, if_false_of (by decide) ⟨_, rfl, rfl, _, rfl, if_false_of (by decide) ⟨_, rfl, rfl, _, rfl, if_false_of (by decide) ⟨_, rfl, rfl, _, rfl, if_false_of (by decide) ⟨_, rfl, _, _, rfl, rfl, ?_⟩⟩⟩⟩⟩
      exact k
    | check o =>
      refine ⟨_, rfl, _, rfl, p, _, _, _, rfl, rfl, hS, go 5 _ rfl, _, rfl, rfl, _, rfl, if_false_of (by decide) ⟨_, rfl, rfl, _, rfl, if_false_of (by decide) ⟨_, rfl, rfl, _, rfl, if_false_of (by decide) ⟨_, rfl, rfl, _, rfl, if_true_of (by decide) ⟨_, rfl, _, _, rfl, rfl, _, rfl, _, rfl, _, _, rfl, rfl, p, _, _, _, rfl, rfl, hS, mid_at (k := 1) (x := (o.length : Int)) hS rfl (by simp), _, _, rfl, rfl, ?_⟩⟩⟩⟩⟩
      have e : ((a.length : Nat) : Int) + 2 + (o.length : Int) = ((a.length + (enc (.check o)).length : Nat) : Int) := by
        show _ = ((a.length + (5 :: (o.length : Int) :: natsI o).length : Nat) : Int)
        unfold natsI
        simp
        omega
      show Q (V.int (((a.length : Nat) : Int) + 2 + (o.length : Int))) H
      rw [e]
      exact k
    | work =>
      refine ⟨_, rfl, _, rfl, p, _, _, _, rfl, rfl, hS, go 6 _ rfl, _, rfl, rfl, _, rfl, if_false_of (by decide) ⟨_, rfl, rfl, _, rfl, if_false_of (by decide) ⟨_, rfl, rfl, _, rfl, if_false_of (by decide) ⟨_, rfl, rfl, _, rfl, if_false_of (by decide) ⟨_, rfl, _, _, rfl, rfl, ?_⟩⟩⟩⟩⟩
      exact k
/-! ### one call -/
def spCall (K : PySem.W.Frag) (G : Gs) : Sp := fun vs H Q _ => ∃ (a b : Addr) (L : Pl) (d : Day) (n : Nat) (c : Call), vs = [.ref a, .ref b] ∧ DayAt G H a L d ∧ Ok d n ∧ n ≤ 100 ∧ SqL K H b ((enc c).map V.int) ∧ okCall c ∧
  ∀ (H' : Hp) (L' : Pl) (p : Addr), DayAt G H' a L' (Uw03.step d c).1 → Fr H H' a L L' → H' p = some (.lst ((Uw03Neutral.out (Uw03.step d c).2).map V.int)) → H p = none → Q (.ref p) H'
theorem scC : FnScope ["day", "call", "number"] ["day", "call"] (defScope sAnswerCall) := ⟨rfl, rfl, rfl, by decide +kernel, rfl, by decide +kernel, by decide +kernel⟩
/-- an item of the call -/
theorem at_call {l : List Int} {z : Int} {x : Int} (j : Nat) (e : z = (j : Int)) (h : l[j]? = some x) : atI (l.map V.int) z = some (V.int x) :=
  at_of e (by rw [List.getElem?_map, h]; rfl)
theorem ok_call {f : Addr} {fd : FuncData} (F : Fun K "answer_call" "answer_call" sAnswerCall f fd) (T : Txt K mg G) (B : MethOk P w K mg base G.d "begin" 1 ["self"] (spBegin G)) (PL : MethOk P w K mg base G.d "add_player" 3 ["self", "cost", "since", "till"] (spPlayer G))
    (PI : MethOk P w K mg base G.d "add_piece" 3 ["self", "minutes", "players"] (spPiece K G)) (AH : MethOk P w K mg base G.d "put_ahead" 1 ["self", "i", "j"] (spAhead G)) (BE : MethOk P w K mg base G.d "best" 2 ["self"] (spBest G)) (CH : MethOk P w K mg base G.d "check" 2 ["self", "order"] (spCheck G)) (WO : MethOk P w K mg base G.d "work" 2 ["self"] (spWork G)) : FnOk P w K mg base CX0 4 f fd ["day", "call"] (spCall K G) := by
  refine F.ok scC (fun vs H Q E h => ?_) (fun cdv A outer s H vs Q E hr h => ?_)
  · obtain ⟨a, b, L, d, n, c, rfl, _⟩ := h
    rfl
  · have hr1 : Room 1 _ := hr.mono (by decide)
    have hr2 : Room 2 _ := hr.mono (by decide)
    refine ⟨_, pss_cons (ps_set (i := 2) scC.nd rfl (Or.inl rfl) (pe_ix ix_list (pv 1) pe_int (fun _ _ => rfl)))
      (pss_cons (ps_if (pt_cmpR op_eq (pv 2) (pe_const (by rfl) T.cBegins) (nomark _)) (pss_one (ps_ret (pe_lst (pa_cons (pe_dmeth0 B hr1 T.cl2 (pv 0)) pa_nil)))) pss_nil)
      (pss_cons (ps_if (pt_cmpR op_eq (pv 2) (pe_const (by rfl) T.cPlayer) (nomark _)) (pss_one (ps_ret (pe_lst (pa_cons (pe_dmeth PL hr T.cl2 (pv 0) (pa_cons (pe_ix ix_list (pv 1) pe_int (fun _ _ => rfl)) (pa_cons (pe_ix ix_list (pv 1) pe_int (fun _ _ => rfl)) (pa_cons (pe_ix ix_list (pv 1) pe_int (fun _ _ => rfl)) pa_nil)))) pa_nil)))) pss_nil)
      (pss_cons (ps_if (pt_cmpR op_eq (pv 2) (pe_const (by rfl) T.cPiece) (nomark _)) (pss_one (ps_ret (pe_lst (pa_cons (pe_dmeth PI hr T.cl2 (pv 0) (pa_cons (pe_ix ix_list (pv 1) pe_int (fun _ _ => rfl)) (pa_cons (pe_slice sl_list (pv 1) (po_some pe_int) po_none) pa_nil))) pa_nil)))) pss_nil)
      (pss_cons (ps_if (pt_cmpR op_eq (pv 2) (pe_const (by rfl) T.cAhead) (nomark _)) (pss_one (ps_ret (pe_lst (pa_cons (pe_dmeth AH hr1 T.cl2 (pv 0) (pa_cons (pe_ix ix_list (pv 1) pe_int (fun _ _ => rfl)) (pa_cons (pe_ix ix_list (pv 1) pe_int (fun _ _ => rfl)) pa_nil))) pa_nil)))) pss_nil)
      (pss_cons (ps_if (pt_cmpR op_eq (pv 2) (pe_const (by rfl) T.cBest) (nomark _)) (pss_one (ps_ret (pe_dmeth0 BE hr2 T.cl2 (pv 0)))) pss_nil)
      (pss_cons (ps_if (pt_cmpR op_eq (pv 2) (pe_const (by rfl) T.cCheck) (nomark _)) (pss_one (ps_ret (pe_dmeth CH hr2 T.cl2 (pv 0) (pa_cons (pe_slice sl_list (pv 1) (po_some pe_int) po_none) pa_nil)))) pss_nil)
      (pss_cons (ps_if (pt_cmpR op_eq (pv 2) (pe_const (by rfl) T.cWork) (nomark _)) (pss_one (ps_ret (pe_dmeth0 WO hr2 T.cl2 (pv 0)))) pss_nil)
      (pss_one ps_never)))))))), ?_⟩
    obtain ⟨a, b, L, d, n, c, rfl, D, ok, hn, hS, okc, k⟩ := h
    obtain ⟨dx, hI⟩ := D.ins
    have fin : ∀ (H' : Hp) (L' : Pl) (v : Int), Uw03Neutral.out (Uw03.step d c).2 = [v] → DayAt G H' a L' (Uw03.step d c).1 → Fr H H' a L L' → ∀ p, H' p = none → Q (.ref p) (upd H' p (.lst [.int v])) := by
      intro H' L' v ev D' fr p hp
      have s := same_new (o := HO.lst [.int v]) hp
      exact k _ L' p (D'.same s) (fr.then s) (by rw [ev]; exact upd_same) (fr.free _ hp)
    cases c with
    | begins =>
      refine ⟨_, rfl, b, _, _, _, rfl, rfl, hS, at_call 0 rfl rfl, _, rfl, rfl, _, rfl, if_true_of (by decide) ⟨_, rfl, a, dx, _, rfl, hI, dF_no _ _ _ (by decide +kernel) (by decide +kernel) (by decide +kernel), ?_⟩⟩
      exact ⟨a, L, d, rfl, D, fun H' L' D' fr => ⟨(by show 1 ≤ sizeLine; decide), fun p hp => fin H' L' 0 rfl D' fr p hp⟩⟩
    | player q =>
      refine ⟨_, rfl, b, _, _, _, rfl, rfl, hS, at_call 0 rfl rfl, _, rfl, rfl, _, rfl, if_false_of (by decide) ⟨_, rfl, rfl, _, rfl, if_true_of (by decide) ⟨_, rfl, a, dx, _, rfl, hI, dF_no _ _ _ (by decide +kernel) (by decide +kernel) (by decide +kernel), ?_⟩⟩⟩
      refine ⟨_, rfl, b, _, _, _, rfl, rfl, hS, at_call 1 rfl rfl, _, rfl, b, _, _, _, rfl, rfl, hS, at_call 2 rfl rfl, _, rfl, b, _, _, _, rfl, rfl, hS, at_call 3 rfl rfl, ?_⟩
      refine ⟨a, L, d, n, q, rfl, D, ok, fun H' L' D' fr => ⟨(by show 1 ≤ sizeLine; decide), fun p hp => fin H' L' _ ?_ D' fr p hp⟩⟩
      show Uw03Neutral.out (Uw03.step d (.player q)).2 = _
      unfold Uw03.step
      dsimp only
      split <;> (try split) <;> (try split) <;> rfl
    | piece m l =>
      refine ⟨_, rfl, b, _, _, _, rfl, rfl, hS, at_call 0 rfl rfl, _, rfl, rfl, _, rfl, if_false_of (by decide) ⟨_, rfl, rfl, _, rfl, if_false_of (by decide) ⟨_, rfl, rfl, _, rfl, if_true_of (by decide) ⟨_, rfl, a, dx, _, rfl, hI, dF_no _ _ _ (by decide +kernel) (by decide +kernel) (by decide +kernel), ?_⟩⟩⟩⟩
      refine ⟨_, rfl, b, _, _, _, rfl, rfl, hS, at_call 1 rfl rfl, _, rfl, _, rfl, b, _, rfl, hS, fun t ht => ?_⟩
      have et : cutV ((enc (.piece m l)).map V.int) (some 3) none = ivs l := by
        have e := cut_from (xs := (enc (.piece m l)).map V.int) (k := 3) (by rw [List.length_map]; show 3 ≤ (natsI l).length + 3; omega)
        rw [← natsI_ivs]
        exact e
      rw [et]
      have sm := same_new (o := HO.lst (ivs l)) ht
      refine ⟨a, t, L, d, n, m, l, rfl, D.same sm, ok, SqL.of upd_same, okc, fun H' L' D' fr => ⟨(by show 1 ≤ sizeLine; decide), fun p hp => fin H' L' _ ?_ D' (Fr.after sm fr) p hp⟩⟩
      show Uw03Neutral.out (Uw03.step d (.piece m l)).2 = _
      unfold Uw03.step
      dsimp only
      split <;> (try split) <;> rfl
    | ahead i j =>
      refine ⟨_, rfl, b, _, _, _, rfl, rfl, hS, at_call 0 rfl rfl, _, rfl, rfl, _, rfl, if_false_of (by decide) ⟨_, rfl, rfl, _, rfl, if_false_of (by decide) ⟨_, rfl, rfl, _, rfl, if_false_of (by decide) ⟨_, rfl, rfl, _, rfl, if_true_of (by decide) ⟨_, rfl, a, dx, _, rfl, hI, dF_no _ _ _ (by decide +kernel) (by decide +kernel) (by decide +kernel), ?_⟩⟩⟩⟩⟩
      refine ⟨_, rfl, b, _, _, _, rfl, rfl, hS, at_call 1 rfl rfl, _, rfl, b, _, _, _, rfl, rfl, hS, at_call 2 rfl rfl, ?_⟩
      refine ⟨a, L, d, n, i, j, rfl, D, ok, hn, fun H' L' D' fr => ⟨(by show 1 ≤ sizeLine; decide), fun p hp => fin H' L' _ ?_ D' fr p hp⟩⟩
      show Uw03Neutral.out (Uw03.step d (.ahead i j)).2 = _
      unfold Uw03.step
      dsimp only
      split <;> (try split) <;> rfl
    | best =>
      refine ⟨_, rfl, b, _, _, _, rfl, rfl, hS, at_call 0 rfl rfl, _, rfl, rfl, _, rfl, if_false_of (by decide) ⟨_, rfl, rfl, _, rfl, if_false_of (by decide) ⟨_, rfl, rfl, _, rfl, if_false_of (by decide) ⟨_, rfl, rfl, _, rfl, if_false_of (by decide) ⟨_, rfl, rfl, _, rfl, if_true_of (by decide) ⟨_, rfl, a, dx, _, rfl, hI, dF_no _ _ _ (by decide +kernel) (by decide +kernel) (by decide +kernel), ?_⟩⟩⟩⟩⟩⟩
      exact ⟨a, L, d, n, rfl, D, ok, fun H' p s np hp => k H' L p (D.same s) (Fr.of_same s) hp np⟩
    | check o =>
      refine ⟨_, rfl, b, _, _, _, rfl, rfl, hS, at_call 0 rfl rfl, _, rfl, rfl, _, rfl, if_false_of (by decide) ⟨_, rfl, rfl, _, rfl, if_false_of (by decide) ⟨_, rfl, rfl, _, rfl, if_false_of (by decide) ⟨_, rfl, rfl, _, rfl, if_false_of (by decide) ⟨_, rfl, rfl, _, rfl, if_false_of (by decide) ⟨_, rfl, rfl, _, rfl, if_true_of (by decide) ⟨_, rfl, a, dx, _, rfl, hI, dF_no _ _ _ (by decide +kernel) (by decide +kernel) (by decide +kernel), ?_⟩⟩⟩⟩⟩⟩⟩
      refine ⟨_, rfl, _, rfl, b, _, rfl, hS, fun t ht => ?_⟩
      have et : cutV ((enc (.check o)).map V.int) (some 2) none = ivs o := by
        have e := cut_from (xs := (enc (.check o)).map V.int) (k := 2) (by rw [List.length_map]; show 2 ≤ (natsI o).length + 2; omega)
        rw [← natsI_ivs]
        exact e
      rw [et]
      have sm := same_new (o := HO.lst (ivs o)) ht
      refine ⟨a, t, L, d, n, o, rfl, D.same sm, ok, upd_same, okc, fun H' p s np hp => k H' L p ?_ (Fr.of_same (sm.trans s)) hp (sm.free np)⟩
      have e1 : (Uw03.step d (.check o)).1 = d := by
        unfold Uw03.step
        dsimp only
        split <;> rfl
      rw [e1]
      exact D.same (sm.trans s)
    | work =>
      refine ⟨_, rfl, b, _, _, _, rfl, rfl, hS, at_call 0 rfl rfl, _, rfl, rfl, _, rfl, if_false_of (by decide) ⟨_, rfl, rfl, _, rfl, if_false_of (by decide) ⟨_, rfl, rfl, _, rfl, if_false_of (by decide) ⟨_, rfl, rfl, _, rfl, if_false_of (by decide) ⟨_, rfl, rfl, _, rfl, if_false_of (by decide) ⟨_, rfl, rfl, _, rfl, if_false_of (by decide) ⟨_, rfl, rfl, _, rfl, if_true_of (by decide) ⟨_, rfl, a, dx, _, rfl, hI, dF_no _ _ _ (by decide +kernel) (by decide +kernel) (by decide +kernel), ?_⟩⟩⟩⟩⟩⟩⟩⟩
      exact ⟨a, L, d, n, rfl, D, ok, fun H' p s np hp => k H' L p (D.same s) (Fr.of_same s) hp np⟩
/-! ### the line -/
/-- the answers so far and the rest are the answers -/
theorem run_step (d : Day) (c : Call) (r : List Call) (acc : List Int) : acc ++ run d (c :: r) = (acc ++ [((Uw03Neutral.out (Uw03.step d c).2).length : Int)] ++ Uw03Neutral.out (Uw03.step d c).2) ++ run (Uw03.step d c).1 r := by
  show acc ++ (((Uw03Neutral.out (Uw03.step d c).2).length : Int) :: (Uw03Neutral.out (Uw03.step d c).2 ++ run (Uw03.step d c).1 r)) = _
  simp
theorem enc_pos (c : Call) : 1 ≤ (enc c).length := by
  cases c <;> simp [enc]
def spAns (K : PySem.W.Frag) : Sp := fun vs H Q _ => ∃ (a : Addr) (ns : List Int), vs = [.ref a] ∧ SqL K H a (ns.map V.int) ∧ PyUw03.answers_asked ns = true ∧
  ∀ (H' : Hp) (p : Addr), H' p = some (.lst ((PyUw03.answers ns).map V.int)) → Q (.ref p) H'
theorem scS : FnScope ["calls", "day", "given", "start", "end", "answer"] ["calls"] (defScope sAnswers) := ⟨rfl, rfl, rfl, by decide +kernel, rfl, by decide +kernel, by decide +kernel⟩
/-- between two turns -/
structure Loop (G : Gs) (H0 : Hp) (a g : Addr) (cs done rest : List Call) (d : Day) (L : Pl) (acc : List Int) (H : Hp) : Prop where
  split : cs = done ++ rest
  same : Same H0 H
  day : DayAt G H a L d
  ok : Ok d done.length
  giv : H g = some (.lst (acc.map V.int))
  eq : acc ++ run d rest = run Uw03.init cs
  fa : H0 a = none
  fL : ∀ b, L.has b → H0 b = none
  fg : H0 g = none
  gL : ¬ L.has g
theorem ok_ans {f fI : Addr} {fd fdI : FuncData} (F : Fun K "answers" "answers" sAnswers f fd) (T : Txt K mg G) (M : Mk K G.d fI) (GI : FnOk P w K mg base CX0 1 fI fdI ["self"] (spInit G)) (bI : Binds K fdI ["self"] [])
    (EN : DefOk P w K mg base "call_end" 1 ["calls", "start"] (spEnd K)) (CA : DefOk P w K mg base "answer_call" 4 ["day", "call"] (spCall K G)) : FnOk P w K mg base CX0 5 f fd ["calls"] (spAns K) := by
  refine F.ok scS (fun vs H Q E h => ?_) (fun cdv A outer s H vs Q E hr h => ?_)
  · obtain ⟨a, ns, rfl, _⟩ := h
    rfl
  · have hr1 : Room 1 _ := hr.mono (by decide)
    have hr2 : Room 2 _ := hr.mono (by decide)
    refine ⟨_, pss_cons (ps_set (i := 1) scS.nd rfl (Or.inl rfl) (pe_make0 M GI hr2 (by rfl) T.gC2 bI .nil pass0))
      (pss_cons (ps_set (i := 2) scS.nd rfl (Or.inl rfl) (pe_lst pa_nil))
      (pss_cons (ps_set (i := 3) scS.nd rfl (Or.inl rfl) pe_int)
      (pss_cons (ps_while PassesOwn.never (pt_cmpR op_lt (pv 3) (pe_callB call_len_seq (by rfl) T.len PySem.boot_len (pa_cons (pv 0) pa_nil)) (nomark _))
        (pss_cons (ps_set (i := 4) scS.nd rfl (Or.inl rfl) (pe_def EN hr1 (by rfl) (pa_cons (pv 0) (pa_cons (pv 3) pa_nil))))
        (pss_cons (ps_set (i := 5) scS.nd rfl (Or.inl rfl) (pe_def CA hr (by rfl) (pa_cons (pv 1) (pa_cons (pe_slice sl_list (pv 0) (po_some (pv 3)) (po_some (pv 4))) pa_nil))))
        (pss_cons (ps_expr (pe_bm PySem.F.plainAttrs_list PySem.F.slot_list_append PySem.F.type_list_append mt_append (pv 2) (pa_cons (pe_callB call_len_seq (by rfl) T.len PySem.boot_len (pa_cons (pv 5) pa_nil)) pa_nil)))
        (pss_cons (ps_expr (pe_bm PySem.F.plainAttrs_list PySem.F.slot_list_extend PySem.F.type_list_extend mt_extend (pv 2) (pa_cons (pv 5) pa_nil)))
        (pss_one (ps_set (i := 3) scS.nd rfl (Or.inl rfl) (pv 4))))))))
      (pss_one (ps_ret (pv 2)))))), ?_⟩
    obtain ⟨ca, ns, rfl, hS, hask, k⟩ := h
    obtain ⟨cs, ecs, okc, len40, ean, elen⟩ := asked_read hask
    -- day = Day()
    intro a dx na ndx nea
    refine ⟨a, dx, rfl, upd_same, fun H1 L1 D1 kp q1 => ⟨rfl, ?_⟩⟩
    have s1 : Same H H1 := Same.made na ndx kp
    have fr : ∀ {m : Addr}, (upd (upd H dx (.own a)) a (.ins G.d dx [])) m = none → H m = none := fun h => free_upd (free_upd h)
    -- given = []
    refine ⟨Nat.zero_le _, fun g hg => ?_⟩
    have s2 := same_new (o := HO.lst []) hg
    have gL : ¬ L1.has g := fun hb => by
      obtain ⟨o, ho⟩ := (q1 g hb).2
      rw [hg] at ho
      cases ho
    have L0 : Loop G H a g cs [] cs Uw03.init L1 [] (upd H1 g (.lst [])) :=
      { split := rfl, same := s1.trans s2, day := D1.same s2, ok := Ok.init _, giv := upd_same, eq := rfl, fa := na, fL := fun b hb => fr (q1 b hb).1, fg := s1.free hg, gL := gL }
    -- start = 0; while start < len(calls)
    refine ⟨fun m σ H' => ∃ (done rest : List Call) (d : Day) (L : Pl) (acc : List Int) (v4 v5 : Option V), m = rest.length ∧ σ = [some (.ref ca), some (.ref a), some (.ref g), some (.int ((done.flatMap enc).length : Nat)), v4, v5] ∧ Loop G H a g cs done rest d L acc H',
      ⟨_, [], cs, Uw03.init, L1, [], none, none, rfl, rfl, L0⟩, ?_⟩
    rintro m σ H' ⟨done, rest, d, L, acc, v4, v5, rfl, rfl, I⟩
    have hS' := I.same.seq hS
    have ens : ns = done.flatMap enc ++ rest.flatMap enc := by rw [ecs, I.split, List.flatMap_append]
    refine ⟨_, rfl, _, rfl, ca, _, rfl, .inl hS', _, _, rfl, rfl, _, rfl, ?_⟩
    cases rest with
    | nil =>
      refine if_false_of (decide_eq_false ?_) ⟨_, rfl, ?_⟩
      · rw [List.length_map, ens]
        simp
      · refine k H' g ?_
        have e := I.eq
        rw [show run d [] = [] from rfl, List.append_nil] at e
        rw [ean, ← e]
        exact I.giv
    | cons c r =>
      have ens' : ns = done.flatMap enc ++ (enc c ++ r.flatMap enc) := by rw [ens, List.flatMap_cons]
      have hc : c ∈ cs := by rw [I.split]; simp
      refine if_true_of (decide_eq_true ?_) ⟨fun σ' H' => ∃ m', m' < (c :: r).length ∧ ∃ (done rest : List Call) (d : Day) (L : Pl) (acc : List Int) (v4 v5 : Option V), m' = rest.length ∧ σ' = [some (.ref ca), some (.ref a), some (.ref g), some (.int ((done.flatMap enc).length : Nat)), v4, v5] ∧ Loop G H a g cs done rest d L acc H', fun _ _ h => h, ?_⟩
      · rw [List.length_map, ens', List.length_append, List.length_append]
        have := enc_pos c
        omega
      rw [ens'] at hS'
      -- end = call_end(calls, start)
      refine ⟨_, rfl, _, rfl, ca, done.flatMap enc, r.flatMap enc, c, rfl, hS', ?_⟩
      -- answer = answer_call(day, calls[start:end])
      refine ⟨_, rfl, _, rfl, _, rfl, _, rfl, _, rfl, _, rfl, ca, _, rfl, hS', fun b hb => ?_⟩
      rw [cut_mid rfl rfl]
      have s3 := same_new (o := HO.lst ((enc c).map V.int)) hb
      obtain ⟨dx2, hI2⟩ := I.day.ins
      have ld : done.length ≤ 40 := by
        have := congrArg List.length I.split
        rw [List.length_append] at this
        omega
      refine ⟨a, b, L, d, done.length, c, rfl, I.day.same s3, I.ok, by omega, SqL.of upd_same, okc c hc, fun H4 L4 p D4 fr4 hp hpn => ?_⟩
      have ga : g ≠ a := ne_of I.giv hI2 (by intro z; cases z)
      have G4 : H4 g = some (.lst (acc.map V.int)) := fr4.same g _ (s3 _ _ I.giv) ga I.gL
      have S4 : Same H H4 := fun x o e => fr4.same x o (s3 _ _ (I.same _ _ e)) (ne_of_none e I.fa) fun hx => by rw [I.fL x hx] at e; cases e
      have gp : g ≠ p := ne_of_none (s3 _ _ I.giv) hpn
      have erun := run_step d c r acc
      rw [I.eq] at erun
      have elen' := elen
      rw [erun, List.length_append, List.length_append, List.length_append, List.length_singleton] at elen'
      have bound : ∀ n : Nat, n ≤ 1000040 → n < sizeLine := fun n hn => Nat.lt_of_le_of_lt hn (by decide)
      -- given.append(len(answer))
      refine ⟨_, rfl, .inl ⟨rfl, _, SqL.of G4⟩, _, rfl, p, _, rfl, .inl (SqL.of hp), g, _, _, rfl, rfl, G4, (by rw [List.length_map]; exact bound _ (by omega)), ?_⟩
      -- given.extend(answer)
      refine ⟨_, rfl, .inl ⟨rfl, _, SqL.of upd_same⟩, _, rfl, g, p, _, _, rfl, rfl, upd_same, (by rw [upd_ne gp.symm]; exact hp), (by rw [List.length_append, List.length_map, List.length_map, List.length_singleton]; exact Nat.le_of_lt (bound _ (by omega))), ?_⟩
      -- start = end
      refine ⟨_, rfl, r.length, Nat.lt_succ_self _, done ++ [c], r, (Uw03.step d c).1, L4, acc ++ [((Uw03Neutral.out (Uw03.step d c).2).length : Int)] ++ Uw03Neutral.out (Uw03.step d c).2, some (.int (((done.flatMap enc).length + (enc c).length : Nat) : Int)), some (.ref p), rfl, ?_, ?_⟩
      · have e : ((done ++ [c]).flatMap enc).length = (done.flatMap enc).length + (enc c).length := by
          rw [List.flatMap_append, List.length_append]
          simp
        rw [e]
        rfl
      · have fre : ∀ x, L4.has x → H x = none ∧ x ≠ g := fun x hx => by
          rcases fr4.own x hx with e | e
          · exact ⟨I.fL x e, fun z => I.gL (z ▸ e)⟩
          · exact ⟨I.same.free (s3.free e), (ne_of_none (s3 _ _ I.giv) e).symm⟩
        generalize hG : upd (upd H4 g (.lst (acc.map V.int ++ [V.int ((((Uw03Neutral.out (Uw03.step d c).2).map V.int).length : Nat) : Int)]))) g (.lst ((acc.map V.int ++ [V.int ((((Uw03Neutral.out (Uw03.step d c).2).map V.int).length : Nat) : Int)]) ++ (Uw03Neutral.out (Uw03.step d c).2).map V.int)) = HG
        have keep : ∀ x o, H4 x = some o → x ≠ g → HG x = some o := fun x o e hx => by rw [← hG, upd_ne hx, upd_ne hx]; exact e
        have DG : DayAt G HG a L4 (Uw03.step d c).1 := D4.keep fun b o hb e => keep b o e (by
          rcases hb with hb | hb
          · rw [hb]; exact ga.symm
          · exact (fre b hb).2)
        refine ⟨?_, fun x o e => keep _ _ (S4 _ _ e) (ne_of_none e I.fg), DG, ?_, ?_, erun.symm, I.fa, fun b hb => (fre b hb).1, I.fg, fun hb => (fre g hb).2 rfl⟩
        · rw [I.split]; simp
        · rw [List.length_append]; exact I.ok.step (okc c hc)
        · rw [← hG, upd_same, List.map_append, List.map_append, List.length_map]
          rfl
end
end Rd

set_option Elab.async false
set_option maxRecDepth 100000
set_option maxHeartbeats 4000000
namespace Rd
open PySem PySem.Spec PyProof.Rows L2
open Uw03 (Day Player Piece Order Call)
/-! ### all together -/
theorem glue {P : Program} {w : World} {K : PySem.W.Frag} {mg : Str → Option Value} {base : Heap} {C0 : Addr} {C1 : Addr} {C2 : Addr} {f0 f1 f2 f3 f4 f5 f6 f7 f8 f9 f10 f11 f12 f13 f14 f15 f16 f17 f18 : Addr} {fd0 fd1 fd2 fd3 fd4 fd5 fd6 fd7 fd8 fd9 fd10 fd11 fd12 fd13 fd14 fd15 fd16 fd17 fd18 : FuncData} (T : Txt K mg ⟨C0, C1, C2⟩)
    (M0 : Mk K C0 f0) (F0 : Fun K "__init__" "Player.__init__" sInitPlayer f0 fd0) (b0 : Binds K fd0 ["self", "cost", "since", "till"] [])
    (M1 : Mk K C1 f1) (F1 : Fun K "__init__" "Piece.__init__" sInitPiece f1 fd1) (b1 : Binds K fd1 ["self", "minutes", "players"] [])
    (M2 : Mk K C2 f2) (F2 : Fun K "__init__" "Day.__init__" sInitDay f2 fd2) (b2 : Binds K fd2 ["self"] [])
    (m3 : Meth K C2 "begin" f3) (F3 : Fun K "begin" "Day.begin" sBegin f3 fd3) (b3 : Binds K fd3 ["self"] [])
    (m4 : Meth K C2 "add_player" f4) (F4 : Fun K "add_player" "Day.add_player" sAddPlayer f4 fd4) (b4 : Binds K fd4 ["self", "cost", "since", "till"] [])
    (m5 : Meth K C2 "add_piece" f5) (F5 : Fun K "add_piece" "Day.add_piece" sAddPiece f5 fd5) (b5 : Binds K fd5 ["self", "minutes", "players"] [])
    (m6 : Meth K C2 "put_ahead" f6) (F6 : Fun K "put_ahead" "Day.put_ahead" sPutAhead f6 fd6) (b6 : Binds K fd6 ["self", "i", "j"] [])
    (m7 : Meth K C2 "stays_in" f7) (F7 : Fun K "stays_in" "Day.stays_in" sStaysIn f7 fd7) (b7 : Binds K fd7 ["self", "order"] [])
    (m8 : Meth K C2 "first_fault" f8) (F8 : Fun K "first_fault" "Day.first_fault" sFirstFault f8 fd8) (b8 : Binds K fd8 ["self", "order", "stays"] [])
    (m9 : Meth K C2 "pay_for" f9) (F9 : Fun K "pay_for" "Day.pay_for" sPayFor f9 fd9) (b9 : Binds K fd9 ["self", "stays"] [])
    (m10 : Meth K C2 "best" f10) (F10 : Fun K "best" "Day.best" sBest f10 fd10) (b10 : Binds K fd10 ["self"] [])
    (m11 : Meth K C2 "check" f11) (F11 : Fun K "check" "Day.check" sCheck f11 fd11) (b11 : Binds K fd11 ["self", "order"] [])
    (m12 : Meth K C2 "work" f12) (F12 : Fun K "work" "Day.work" sWork f12 fd12) (b12 : Binds K fd12 ["self"] [])
    (g13 : mg "all_orders" = some (.ref f13)) (k13 : PySem.W.keepIn K (.ref f13) = true) (F13 : Fun K "all_orders" "all_orders" sAllOrders f13 fd13) (b13 : Binds K fd13 ["count"] [])
    (g14 : mg "with_lists" = some (.ref f14)) (k14 : PySem.W.keepIn K (.ref f14) = true) (F14 : Fun K "with_lists" "with_lists" sWithLists f14 fd14) (b14 : Binds K fd14 ["number", "lists"] [])
    (g15 : mg "rise_below" = some (.ref f15)) (k15 : PySem.W.keepIn K (.ref f15) = true) (F15 : Fun K "rise_below" "rise_below" sRiseBelow f15 fd15) (b15 : Binds K fd15 ["numbers", "limit"] [])
    (g16 : mg "call_end" = some (.ref f16)) (k16 : PySem.W.keepIn K (.ref f16) = true) (F16 : Fun K "call_end" "call_end" sCallEnd f16 fd16) (b16 : Binds K fd16 ["calls", "start"] [])
    (g17 : mg "answer_call" = some (.ref f17)) (k17 : PySem.W.keepIn K (.ref f17) = true) (F17 : Fun K "answer_call" "answer_call" sAnswerCall f17 fd17) (b17 : Binds K fd17 ["day", "call"] [])
    (F18 : Fun K "answers" "answers" sAnswers f18 fd18)
    : FnOk P w K mg base CX0 5 f18 fd18 ["calls"] (spAns K) := by
  have P0 := ok_mkPlayer (P := P) (w := w) (base := base) F0 T
  have P1 := ok_mkPiece (P := P) (w := w) (base := base) F1 T
  have P2 := ok_init (P := P) (w := w) (base := base) F2 T
  have B : MethOk P w K mg base C2 "begin" 1 ["self"] (spBegin ⟨C0, C1, C2⟩) := ⟨f3, fd3, m3, ok_begin F3 T, b3⟩
  have PL : MethOk P w K mg base C2 "add_player" 3 ["self", "cost", "since", "till"] (spPlayer ⟨C0, C1, C2⟩) := ⟨f4, fd4, m4, ok_player F4 T M0 P0 b0, b4⟩
  have R : DefOk P w K mg base "rise_below" 1 ["numbers", "limit"] (spRise K) := ⟨f15, fd15, g15, k15, ok_rise F15, b15⟩
  have PI : MethOk P w K mg base C2 "add_piece" 3 ["self", "minutes", "players"] (spPiece K ⟨C0, C1, C2⟩) := ⟨f5, fd5, m5, ok_piece F5 T R M1 P1 b1, b5⟩
  have AH : MethOk P w K mg base C2 "put_ahead" 1 ["self", "i", "j"] (spAhead ⟨C0, C1, C2⟩) := ⟨f6, fd6, m6, ok_ahead F6 T, b6⟩
  have ST : MethOk P w K mg base C2 "stays_in" 1 ["self", "order"] (spStays ⟨C0, C1, C2⟩) := ⟨f7, fd7, m7, ok_stays F7 T, b7⟩
  have FF : MethOk P w K mg base C2 "first_fault" 1 ["self", "order", "stays"] (spFault ⟨C0, C1, C2⟩) := ⟨f8, fd8, m8, ok_fault F8 T, b8⟩
  have PY : MethOk P w K mg base C2 "pay_for" 1 ["self", "stays"] (spPay ⟨C0, C1, C2⟩) := ⟨f9, fd9, m9, ok_pay F9 T, b9⟩
  have O : DefOk P w K mg base "all_orders" 1 ["count"] spOrders := ⟨f13, fd13, g13, k13, ok_orders F13 T, b13⟩
  have W : DefOk P w K mg base "with_lists" 1 ["number", "lists"] spWith := ⟨f14, fd14, g14, k14, ok_with F14 T, b14⟩
  have BE : MethOk P w K mg base C2 "best" 2 ["self"] (spBest ⟨C0, C1, C2⟩) := ⟨f10, fd10, m10, ok_best F10 T O W ST FF PY, b10⟩
  have CH : MethOk P w K mg base C2 "check" 2 ["self", "order"] (spCheck ⟨C0, C1, C2⟩) := ⟨f11, fd11, m11, ok_check F11 T W ST FF PY, b11⟩
  have WO : MethOk P w K mg base C2 "work" 2 ["self"] (spWork ⟨C0, C1, C2⟩) := ⟨f12, fd12, m12, ok_work F12 T W, b12⟩
  have EN : DefOk P w K mg base "call_end" 1 ["calls", "start"] (spEnd K) := ⟨f16, fd16, g16, k16, ok_end F16 T, b16⟩
  have CA : DefOk P w K mg base "answer_call" 4 ["day", "call"] (spCall K ⟨C0, C1, C2⟩) := ⟨f17, fd17, g17, k17, ok_call F17 T B PL PI AH BE CH WO, b17⟩
  exact ok_ans F18 T M2 P2 b2 EN CA
theorem all_mk {P : Program} {w : World} {K : PySem.W.Frag} {h : Heap} {mg : Str → Option Value} {fa C0 C1 C2 f0 f1 f2 f3 f4 f5 f6 f7 f8 f9 f10 f11 f12 f13 f14 f15 f16 f17 f18 : Addr} (X : K.In h) (G : h.Ns mainGlobals mg) (hfa : mg "answers" = some (.ref fa))
    {od0 an0 od1 an1 od2 an2 od3 an3 od4 an4 od5 an5 od6 an6 od7 an7 od8 an8 od9 an9 od10 an10 od11 an11 od12 an12 od13 an13 od14 an14 od15 an15 od16 an16 od17 an17 od18 an18 : Option Addr} {sl0 sl1 sl2 sl3 sl4 sl5 sl6 sl7 sl8 sl9 sl10 sl11 sl12 sl13 sl14 sl15 sl16 sl17 sl18 : Array (Option Value)} {oc0 kV0 dc0 pm0 cd0 ct0 oc1 kV1 dc1 pm1 cd1 ct1 oc2 kV2 dc2 pm2 cd2 ct2 oc3 kV3 dc3 pm3 cd3 ct3 oc4 kV4 dc4 pm4 cd4 ct4 oc5 kV5 dc5 pm5 cd5 ct5 oc6 kV6 dc6 pm6 cd6 ct6 oc7 kV7 dc7 pm7 cd7 ct7 oc8 kV8 dc8 pm8 cd8 ct8 oc9 kV9 dc9 pm9 cd9 ct9 oc10 kV10 dc10 pm10 cd10 ct10 oc11 kV11 dc11 pm11 cd11 ct11 oc12 kV12 dc12 pm12 cd12 ct12 oc13 kV13 dc13 pm13 cd13 ct13 oc14 kV14 dc14 pm14 cd14 ct14 oc15 kV15 dc15 pm15 cd15 ct15 oc16 kV16 dc16 pm16 cd16 ct16 oc17 kV17 dc17 pm17 cd17 ct17 oc18 kV18 dc18 pm18 cd18 ct18 : Value} {tk0 tk1 tk2 tk3 tk4 tk5 tk6 tk7 tk8 tk9 tk10 tk11 tk12 tk13 tk14 : Tok}
    (aC0 : PySem.W.nsIn K mainGlobals "Player" = some (some (.ref C0)))
    (aC1 : PySem.W.nsIn K mainGlobals "Piece" = some (some (.ref C1)))
    (aC2 : PySem.W.nsIn K mainGlobals "Day" = some (some (.ref C2)))
    (a0 : PySem.W.findIn K (.ref C0) "__init__" = some (some (.ref f0))) (i0 : PySem.W.isFn K (.ref f0) = true)
    (l0 : K.lookup f0 = some ⟨oc0, od0, .func (PySem.W.fnOf "__init__" "Player.__init__" (defArgs sInitPlayer) (defBody sInitPlayer) (defScope sInitPlayer) .none kV0 dc0 pm0 an0 cd0 ct0), sl0⟩) (c0 : PySem.W.codeIn K cd0 "Player.__init__" = true) (k0 : PySem.W.keepIn K (.ref f0) = true)
    (a1 : PySem.W.findIn K (.ref C1) "__init__" = some (some (.ref f1))) (i1 : PySem.W.isFn K (.ref f1) = true)
    (l1 : K.lookup f1 = some ⟨oc1, od1, .func (PySem.W.fnOf "__init__" "Piece.__init__" (defArgs sInitPiece) (defBody sInitPiece) (defScope sInitPiece) .none kV1 dc1 pm1 an1 cd1 ct1), sl1⟩) (c1 : PySem.W.codeIn K cd1 "Piece.__init__" = true) (k1 : PySem.W.keepIn K (.ref f1) = true)
    (a2 : PySem.W.findIn K (.ref C2) "__init__" = some (some (.ref f2))) (i2 : PySem.W.isFn K (.ref f2) = true)
    (l2 : K.lookup f2 = some ⟨oc2, od2, .func (PySem.W.fnOf "__init__" "Day.__init__" (defArgs sInitDay) (defBody sInitDay) (defScope sInitDay) .none kV2 dc2 pm2 an2 cd2 ct2), sl2⟩) (c2 : PySem.W.codeIn K cd2 "Day.__init__" = true) (k2 : PySem.W.keepIn K (.ref f2) = true)
    (a3 : PySem.W.findIn K (.ref C2) "begin" = some (some (.ref f3))) (i3 : PySem.W.isFn K (.ref f3) = true)
    (l3 : K.lookup f3 = some ⟨oc3, od3, .func (PySem.W.fnOf "begin" "Day.begin" (defArgs sBegin) (defBody sBegin) (defScope sBegin) .none kV3 dc3 pm3 an3 cd3 ct3), sl3⟩) (c3 : PySem.W.codeIn K cd3 "Day.begin" = true) (k3 : PySem.W.keepIn K (.ref f3) = true)
    (a4 : PySem.W.findIn K (.ref C2) "add_player" = some (some (.ref f4))) (i4 : PySem.W.isFn K (.ref f4) = true)
    (l4 : K.lookup f4 = some ⟨oc4, od4, .func (PySem.W.fnOf "add_player" "Day.add_player" (defArgs sAddPlayer) (defBody sAddPlayer) (defScope sAddPlayer) .none kV4 dc4 pm4 an4 cd4 ct4), sl4⟩) (c4 : PySem.W.codeIn K cd4 "Day.add_player" = true) (k4 : PySem.W.keepIn K (.ref f4) = true)
    (a5 : PySem.W.findIn K (.ref C2) "add_piece" = some (some (.ref f5))) (i5 : PySem.W.isFn K (.ref f5) = true)
    (l5 : K.lookup f5 = some ⟨oc5, od5, .func (PySem.W.fnOf "add_piece" "Day.add_piece" (defArgs sAddPiece) (defBody sAddPiece) (defScope sAddPiece) .none kV5 dc5 pm5 an5 cd5 ct5), sl5⟩) (c5 : PySem.W.codeIn K cd5 "Day.add_piece" = true) (k5 : PySem.W.keepIn K (.ref f5) = true)
    (a6 : PySem.W.findIn K (.ref C2) "put_ahead" = some (some (.ref f6))) (i6 : PySem.W.isFn K (.ref f6) = true)
    (l6 : K.lookup f6 = some ⟨oc6, od6, .func (PySem.W.fnOf "put_ahead" "Day.put_ahead" (defArgs sPutAhead) (defBody sPutAhead) (defScope sPutAhead) .none kV6 dc6 pm6 an6 cd6 ct6), sl6⟩) (c6 : PySem.W.codeIn K cd6 "Day.put_ahead" = true) (k6 : PySem.W.keepIn K (.ref f6) = true)
    (a7 : PySem.W.findIn K (.ref C2) "stays_in" = some (some (.ref f7))) (i7 : PySem.W.isFn K (.ref f7) = true)
    (l7 : K.lookup f7 = some ⟨oc7, od7, .func (PySem.W.fnOf "stays_in" "Day.stays_in" (defArgs sStaysIn) (defBody sStaysIn) (defScope sStaysIn) .none kV7 dc7 pm7 an7 cd7 ct7), sl7⟩) (c7 : PySem.W.codeIn K cd7 "Day.stays_in" = true) (k7 : PySem.W.keepIn K (.ref f7) = true)
    (a8 : PySem.W.findIn K (.ref C2) "first_fault" = some (some (.ref f8))) (i8 : PySem.W.isFn K (.ref f8) = true)
    (l8 : K.lookup f8 = some ⟨oc8, od8, .func (PySem.W.fnOf "first_fault" "Day.first_fault" (defArgs sFirstFault) (defBody sFirstFault) (defScope sFirstFault) .none kV8 dc8 pm8 an8 cd8 ct8), sl8⟩) (c8 : PySem.W.codeIn K cd8 "Day.first_fault" = true) (k8 : PySem.W.keepIn K (.ref f8) = true)
    (a9 : PySem.W.findIn K (.ref C2) "pay_for" = some (some (.ref f9))) (i9 : PySem.W.isFn K (.ref f9) = true)
    (l9 : K.lookup f9 = some ⟨oc9, od9, .func (PySem.W.fnOf "pay_for" "Day.pay_for" (defArgs sPayFor) (defBody sPayFor) (defScope sPayFor) .none kV9 dc9 pm9 an9 cd9 ct9), sl9⟩) (c9 : PySem.W.codeIn K cd9 "Day.pay_for" = true) (k9 : PySem.W.keepIn K (.ref f9) = true)
    (a10 : PySem.W.findIn K (.ref C2) "best" = some (some (.ref f10))) (i10 : PySem.W.isFn K (.ref f10) = true)
    (l10 : K.lookup f10 = some ⟨oc10, od10, .func (PySem.W.fnOf "best" "Day.best" (defArgs sBest) (defBody sBest) (defScope sBest) .none kV10 dc10 pm10 an10 cd10 ct10), sl10⟩) (c10 : PySem.W.codeIn K cd10 "Day.best" = true) (k10 : PySem.W.keepIn K (.ref f10) = true)
    (a11 : PySem.W.findIn K (.ref C2) "check" = some (some (.ref f11))) (i11 : PySem.W.isFn K (.ref f11) = true)
    (l11 : K.lookup f11 = some ⟨oc11, od11, .func (PySem.W.fnOf "check" "Day.check" (defArgs sCheck) (defBody sCheck) (defScope sCheck) .none kV11 dc11 pm11 an11 cd11 ct11), sl11⟩) (c11 : PySem.W.codeIn K cd11 "Day.check" = true) (k11 : PySem.W.keepIn K (.ref f11) = true)
    (a12 : PySem.W.findIn K (.ref C2) "work" = some (some (.ref f12))) (i12 : PySem.W.isFn K (.ref f12) = true)
    (l12 : K.lookup f12 = some ⟨oc12, od12, .func (PySem.W.fnOf "work" "Day.work" (defArgs sWork) (defBody sWork) (defScope sWork) .none kV12 dc12 pm12 an12 cd12 ct12), sl12⟩) (c12 : PySem.W.codeIn K cd12 "Day.work" = true) (k12 : PySem.W.keepIn K (.ref f12) = true)
    (a13 : PySem.W.nsIn K mainGlobals "all_orders" = some (some (.ref f13)))
    (l13 : K.lookup f13 = some ⟨oc13, od13, .func (PySem.W.fnOf "all_orders" "all_orders" (defArgs sAllOrders) (defBody sAllOrders) (defScope sAllOrders) .none kV13 dc13 pm13 an13 cd13 ct13), sl13⟩) (c13 : PySem.W.codeIn K cd13 "all_orders" = true) (k13 : PySem.W.keepIn K (.ref f13) = true)
    (a14 : PySem.W.nsIn K mainGlobals "with_lists" = some (some (.ref f14)))
    (l14 : K.lookup f14 = some ⟨oc14, od14, .func (PySem.W.fnOf "with_lists" "with_lists" (defArgs sWithLists) (defBody sWithLists) (defScope sWithLists) .none kV14 dc14 pm14 an14 cd14 ct14), sl14⟩) (c14 : PySem.W.codeIn K cd14 "with_lists" = true) (k14 : PySem.W.keepIn K (.ref f14) = true)
    (a15 : PySem.W.nsIn K mainGlobals "rise_below" = some (some (.ref f15)))
    (l15 : K.lookup f15 = some ⟨oc15, od15, .func (PySem.W.fnOf "rise_below" "rise_below" (defArgs sRiseBelow) (defBody sRiseBelow) (defScope sRiseBelow) .none kV15 dc15 pm15 an15 cd15 ct15), sl15⟩) (c15 : PySem.W.codeIn K cd15 "rise_below" = true) (k15 : PySem.W.keepIn K (.ref f15) = true)
    (a16 : PySem.W.nsIn K mainGlobals "call_end" = some (some (.ref f16)))
    (l16 : K.lookup f16 = some ⟨oc16, od16, .func (PySem.W.fnOf "call_end" "call_end" (defArgs sCallEnd) (defBody sCallEnd) (defScope sCallEnd) .none kV16 dc16 pm16 an16 cd16 ct16), sl16⟩) (c16 : PySem.W.codeIn K cd16 "call_end" = true) (k16 : PySem.W.keepIn K (.ref f16) = true)
    (a17 : PySem.W.nsIn K mainGlobals "answer_call" = some (some (.ref f17)))
    (l17 : K.lookup f17 = some ⟨oc17, od17, .func (PySem.W.fnOf "answer_call" "answer_call" (defArgs sAnswerCall) (defBody sAnswerCall) (defScope sAnswerCall) .none kV17 dc17 pm17 an17 cd17 ct17), sl17⟩) (c17 : PySem.W.codeIn K cd17 "answer_call" = true) (k17 : PySem.W.keepIn K (.ref f17) = true)
    (a18 : PySem.W.nsIn K mainGlobals "answers" = some (some (.ref f18)))
    (l18 : K.lookup f18 = some ⟨oc18, od18, .func (PySem.W.fnOf "answers" "answers" (defArgs sAnswers) (defBody sAnswers) (defScope sAnswers) .none kV18 dc18 pm18 an18 cd18 ct18), sl18⟩) (c18 : PySem.W.codeIn K cd18 "answers" = true) (k18 : PySem.W.keepIn K (.ref f18) = true)
    (pg0 : PySem.W.plainGet K C0 Str.empty = true) (hd0 : PySem.W.hasDictIn K C0 = true) (po0 : PySem.W.plainOver K C0 = true) (sa0 : PySem.W.findIn K (.ref C0) "__setattr__" = some (some (.builtin "object.__setattr__"))) (mk0 : PySem.W.makesIn K C0 = true) (kc0 : PySem.W.keepIn K (.ref C0) = true)
    (n0Cost : PySem.W.findIn K (.ref C0) "cost" = some none)
    (n0Since : PySem.W.findIn K (.ref C0) "since" = some none)
    (n0Till : PySem.W.findIn K (.ref C0) "till" = some none)
    (pg1 : PySem.W.plainGet K C1 Str.empty = true) (hd1 : PySem.W.hasDictIn K C1 = true) (po1 : PySem.W.plainOver K C1 = true) (sa1 : PySem.W.findIn K (.ref C1) "__setattr__" = some (some (.builtin "object.__setattr__"))) (mk1 : PySem.W.makesIn K C1 = true) (kc1 : PySem.W.keepIn K (.ref C1) = true)
    (n1Minutes : PySem.W.findIn K (.ref C1) "minutes" = some none)
    (n1Players : PySem.W.findIn K (.ref C1) "players" = some none)
    (pg2 : PySem.W.plainGet K C2 Str.empty = true) (hd2 : PySem.W.hasDictIn K C2 = true) (po2 : PySem.W.plainOver K C2 = true) (sa2 : PySem.W.findIn K (.ref C2) "__setattr__" = some (some (.builtin "object.__setattr__"))) (mk2 : PySem.W.makesIn K C2 = true) (kc2 : PySem.W.keepIn K (.ref C2) = true)
    (n2Players : PySem.W.findIn K (.ref C2) "players" = some none)
    (n2Pieces : PySem.W.findIn K (.ref C2) "pieces" = some none)
    (n2Pairs : PySem.W.findIn K (.ref C2) "pairs" = some none)
    (zlen : PySem.W.nsIn K mainGlobals "len" = some none)
    (zrange : PySem.W.nsIn K mainGlobals "range" = some none)
    (zenumerate : PySem.W.nsIn K mainGlobals "enumerate" = some none)
    (zzip : PySem.W.nsIn K mainGlobals "zip" = some none)
    (zsorted : PySem.W.nsIn K mainGlobals "sorted" = some none)
    (zlist : PySem.W.nsIn K mainGlobals "list" = some none)
    (y0 : PySem.W.nsIn K mainGlobals "BEGINS" = some (some (.int (0) tk0)))
    (y1 : PySem.W.nsIn K mainGlobals "PLAYER" = some (some (.int (1) tk1)))
    (y2 : PySem.W.nsIn K mainGlobals "PIECE" = some (some (.int (2) tk2)))
    (y3 : PySem.W.nsIn K mainGlobals "AHEAD" = some (some (.int (3) tk3)))
    (y4 : PySem.W.nsIn K mainGlobals "BEST" = some (some (.int (4) tk4)))
    (y5 : PySem.W.nsIn K mainGlobals "CHECK" = some (some (.int (5) tk5)))
    (y6 : PySem.W.nsIn K mainGlobals "WORK" = some (some (.int (6) tk6)))
    (y7 : PySem.W.nsIn K mainGlobals "BEHIND" = some (some (.int (1) tk7)))
    (y8 : PySem.W.nsIn K mainGlobals "TOO_EARLY" = some (some (.int (2) tk8)))
    (y9 : PySem.W.nsIn K mainGlobals "TOO_LATE" = some (some (.int (3) tk9)))
    (y10 : PySem.W.nsIn K mainGlobals "MOST_PLAYERS" = some (some (.int (6) tk10)))
    (y11 : PySem.W.nsIn K mainGlobals "MOST_PIECES" = some (some (.int (6) tk11)))
    (y12 : PySem.W.nsIn K mainGlobals "HIGHEST_COST" = some (some (.int (1000) tk12)))
    (y13 : PySem.W.nsIn K mainGlobals "LAST_MINUTE" = some (some (.int (3600) tk13)))
    (y14 : PySem.W.nsIn K mainGlobals "LONGEST_PIECE" = some (some (.int (600) tk14)))
    : ∃ fd : FuncData, (∀ (s : Shared) (us : List Value), us.length = (["calls"] : List Str).length → BindsTo s fd ⟨us, []⟩ ((["calls"] : List Str).zip us)) ∧ ∀ base : Heap, K.In base → base.Ns mainGlobals mg → FnOk P w K mg base CX0 5 fa fd ["calls"] (spAns K) := by
  have e := hfa.symm.trans (PySem.W.mg_of X G a18)
  cases e
  have T : Txt K mg ⟨C0, C1, C2⟩ := ⟨⟨pg0, hd0, po0, sa0⟩, n0Cost, n0Since, n0Till, PySem.W.mg_of X G aC0, ⟨pg1, hd1, po1, sa1⟩, n1Minutes, n1Players, PySem.W.mg_of X G aC1, ⟨pg2, hd2, po2, sa2⟩, n2Players, n2Pieces, n2Pairs, PySem.W.mg_of X G aC2, PySem.W.mg_none_of X G zlen, PySem.W.mg_none_of X G zrange, PySem.W.mg_none_of X G zenumerate, PySem.W.mg_none_of X G zzip, PySem.W.mg_none_of X G zsorted, PySem.W.mg_none_of X G zlist, ⟨_, PySem.W.mg_of X G y0⟩, ⟨_, PySem.W.mg_of X G y1⟩, ⟨_, PySem.W.mg_of X G y2⟩, ⟨_, PySem.W.mg_of X G y3⟩, ⟨_, PySem.W.mg_of X G y4⟩, ⟨_, PySem.W.mg_of X G y5⟩, ⟨_, PySem.W.mg_of X G y6⟩, ⟨_, PySem.W.mg_of X G y7⟩, ⟨_, PySem.W.mg_of X G y8⟩, ⟨_, PySem.W.mg_of X G y9⟩, ⟨_, PySem.W.mg_of X G y10⟩, ⟨_, PySem.W.mg_of X G y11⟩, ⟨_, PySem.W.mg_of X G y12⟩, ⟨_, PySem.W.mg_of X G y13⟩, ⟨_, PySem.W.mg_of X G y14⟩⟩
  have F0 := fun_mk (st := sInitPlayer) l0 c0 k0
  have b0 := F0.binds (ps := ["self", "cost", "since", "till"]) fun _ _ _ _ _ _ us hl => match us, hl with | [_, _, _, _], _ => rfl
  have F1 := fun_mk (st := sInitPiece) l1 c1 k1
  have b1 := F1.binds (ps := ["self", "minutes", "players"]) fun _ _ _ _ _ _ us hl => match us, hl with | [_, _, _], _ => rfl
  have F2 := fun_mk (st := sInitDay) l2 c2 k2
  have b2 := F2.binds (ps := ["self"]) fun _ _ _ _ _ _ us hl => match us, hl with | [_], _ => rfl
  have F3 := fun_mk (st := sBegin) l3 c3 k3
  have b3 := F3.binds (ps := ["self"]) fun _ _ _ _ _ _ us hl => match us, hl with | [_], _ => rfl
  have F4 := fun_mk (st := sAddPlayer) l4 c4 k4
  have b4 := F4.binds (ps := ["self", "cost", "since", "till"]) fun _ _ _ _ _ _ us hl => match us, hl with | [_, _, _, _], _ => rfl
  have F5 := fun_mk (st := sAddPiece) l5 c5 k5
  have b5 := F5.binds (ps := ["self", "minutes", "players"]) fun _ _ _ _ _ _ us hl => match us, hl with | [_, _, _], _ => rfl
  have F6 := fun_mk (st := sPutAhead) l6 c6 k6
  have b6 := F6.binds (ps := ["self", "i", "j"]) fun _ _ _ _ _ _ us hl => match us, hl with | [_, _, _], _ => rfl
  have F7 := fun_mk (st := sStaysIn) l7 c7 k7
  have b7 := F7.binds (ps := ["self", "order"]) fun _ _ _ _ _ _ us hl => match us, hl with | [_, _], _ => rfl
  have F8 := fun_mk (st := sFirstFault) l8 c8 k8
  have b8 := F8.binds (ps := ["self", "order", "stays"]) fun _ _ _ _ _ _ us hl => match us, hl with | [_, _, _], _ => rfl
  have F9 := fun_mk (st := sPayFor) l9 c9 k9
  have b9 := F9.binds (ps := ["self", "stays"]) fun _ _ _ _ _ _ us hl => match us, hl with | [_, _], _ => rfl
  have F10 := fun_mk (st := sBest) l10 c10 k10
  have b10 := F10.binds (ps := ["self"]) fun _ _ _ _ _ _ us hl => match us, hl with | [_], _ => rfl
  have F11 := fun_mk (st := sCheck) l11 c11 k11
  have b11 := F11.binds (ps := ["self", "order"]) fun _ _ _ _ _ _ us hl => match us, hl with | [_, _], _ => rfl
  have F12 := fun_mk (st := sWork) l12 c12 k12
  have b12 := F12.binds (ps := ["self"]) fun _ _ _ _ _ _ us hl => match us, hl with | [_], _ => rfl
  have F13 := fun_mk (st := sAllOrders) l13 c13 k13
  have b13 := F13.binds (ps := ["count"]) fun _ _ _ _ _ _ us hl => match us, hl with | [_], _ => rfl
  have F14 := fun_mk (st := sWithLists) l14 c14 k14
  have b14 := F14.binds (ps := ["number", "lists"]) fun _ _ _ _ _ _ us hl => match us, hl with | [_, _], _ => rfl
  have F15 := fun_mk (st := sRiseBelow) l15 c15 k15
  have b15 := F15.binds (ps := ["numbers", "limit"]) fun _ _ _ _ _ _ us hl => match us, hl with | [_, _], _ => rfl
  have F16 := fun_mk (st := sCallEnd) l16 c16 k16
  have b16 := F16.binds (ps := ["calls", "start"]) fun _ _ _ _ _ _ us hl => match us, hl with | [_, _], _ => rfl
  have F17 := fun_mk (st := sAnswerCall) l17 c17 k17
  have b17 := F17.binds (ps := ["day", "call"]) fun _ _ _ _ _ _ us hl => match us, hl with | [_, _], _ => rfl
  have F18 := fun_mk (st := sAnswers) l18 c18 k18
  exact ⟨PySem.W.fnOf "answers" "answers" (defArgs sAnswers) (defBody sAnswers) (defScope sAnswers) .none kV18 dc18 pm18 an18 cd18 ct18, fun s us hu => match us, hu with | [_], _ => .of_eq rfl, fun base _ _ => glue T ⟨mk0, a0, i0, kc0⟩ F0 b0 ⟨mk1, a1, i1, kc1⟩ F1 b1 ⟨mk2, a2, i2, kc2⟩ F2 b2 ⟨a3, i3, k3⟩ F3 b3 ⟨a4, i4, k4⟩ F4 b4 ⟨a5, i5, k5⟩ F5 b5 ⟨a6, i6, k6⟩ F6 b6 ⟨a7, i7, k7⟩ F7 b7 ⟨a8, i8, k8⟩ F8 b8 ⟨a9, i9, k9⟩ F9 b9 ⟨a10, i10, k10⟩ F10 b10 ⟨a11, i11, k11⟩ F11 b11 ⟨a12, i12, k12⟩ F12 b12 (PySem.W.mg_of X G a13) k13 F13 b13 (PySem.W.mg_of X G a14) k14 F14 b14 (PySem.W.mg_of X G a15) k15 F15 b15 (PySem.W.mg_of X G a16) k16 F16 b16 (PySem.W.mg_of X G a17) k17 F17 b17 F18⟩
end Rd
open PySem PySem.W PyProof.Rows
set_option maxRecDepth 100000 in
set_option maxHeartbeats 0 in
theorem PySem.Challenge.cw_rehearsalday_s01_answers_holds : PySem.Challenge.rw_rehearsalday_s01_answers.Holds := by
  w_on; k_headS; (case hw => exact ⟨[.list [.int 0]], by decide +kernel, by decide +kernel⟩)
  k_fillS
  refine L2.walk_specK (r := PySem.Challenge.rw_rehearsalday_s01_answers) (k := 5) (CX := L2.CX0) (ps := ["calls"]) (sp := Rd.spAns) (by decide +kernel) rfl rfl ⟨rfl, by decide, by decide⟩ (fun w h Y => PySem.W.kIn_of Y) ?F ?S (fun _ _ _ _ z => z)
  case F =>
    intro w mg fa h Y KX G hmg
    refine' Rd.all_mk KX G hmg ?aC0 ?aC1 ?aC2 ?a0 ?i0 ?l0 ?c0 ?k0 ?a1 ?i1 ?l1 ?c1 ?k1 ?a2 ?i2 ?l2 ?c2 ?k2 ?a3 ?i3 ?l3 ?c3 ?k3 ?a4 ?i4 ?l4 ?c4 ?k4 ?a5 ?i5 ?l5 ?c5 ?k5 ?a6 ?i6 ?l6 ?c6 ?k6 ?a7 ?i7 ?l7 ?c7 ?k7 ?a8 ?i8 ?l8 ?c8 ?k8 ?a9 ?i9 ?l9 ?c9 ?k9 ?a10 ?i10 ?l10 ?c10 ?k10 ?a11 ?i11 ?l11 ?c11 ?k11 ?a12 ?i12 ?l12 ?c12 ?k12 ?a13 ?l13 ?c13 ?k13 ?a14 ?l14 ?c14 ?k14 ?a15 ?l15 ?c15 ?k15 ?a16 ?l16 ?c16 ?k16 ?a17 ?l17 ?c17 ?k17 ?a18 ?l18 ?c18 ?k18 ?pg0 ?hd0 ?po0 ?sa0 ?mk0 ?kc0 ?n0Cost ?n0Since ?n0Till ?pg1 ?hd1 ?po1 ?sa1 ?mk1 ?kc1 ?n1Minutes ?n1Players ?pg2 ?hd2 ?po2 ?sa2 ?mk2 ?kc2 ?n2Players ?n2Pieces ?n2Pairs ?zlen ?zrange ?zenumerate ?zzip ?zsorted ?zlist ?y0 ?y1 ?y2 ?y3 ?y4 ?y5 ?y6 ?y7 ?y8 ?y9 ?y10 ?y11 ?y12 ?y13 ?y14
    (case aC0 => k_is); (case aC1 => k_is); (case aC2 => k_is); (case a0 => k_is); (case i0 => k_is); (case l0 => k_is); (case c0 => k_is); (case k0 => k_is)
    (case a1 => k_is); (case i1 => k_is); (case l1 => k_is); (case c1 => k_is); (case k1 => k_is); (case a2 => k_is); (case i2 => k_is); (case l2 => k_is)
    (case c2 => k_is); (case k2 => k_is); (case a3 => k_is); (case i3 => k_is); (case l3 => k_is); (case c3 => k_is); (case k3 => k_is); (case a4 => k_is)
    (case i4 => k_is); (case l4 => k_is); (case c4 => k_is); (case k4 => k_is); (case a5 => k_is); (case i5 => k_is); (case l5 => k_is); (case c5 => k_is)
    (case k5 => k_is); (case a6 => k_is); (case i6 => k_is); (case l6 => k_is); (case c6 => k_is); (case k6 => k_is); (case a7 => k_is); (case i7 => k_is)
    (case l7 => k_is); (case c7 => k_is); (case k7 => k_is); (case a8 => k_is); (case i8 => k_is); (case l8 => k_is); (case c8 => k_is); (case k8 => k_is)
    (case a9 => k_is); (case i9 => k_is); (case l9 => k_is); (case c9 => k_is); (case k9 => k_is); (case a10 => k_is); (case i10 => k_is); (case l10 => k_is)
    (case c10 => k_is); (case k10 => k_is); (case a11 => k_is); (case i11 => k_is); (case l11 => k_is); (case c11 => k_is); (case k11 => k_is); (case a12 => k_is)
    (case i12 => k_is); (case l12 => k_is); (case c12 => k_is); (case k12 => k_is); (case a13 => k_is); (case l13 => k_is); (case c13 => k_is); (case k13 => k_is)
    (case a14 => k_is); (case l14 => k_is); (case c14 => k_is); (case k14 => k_is); (case a15 => k_is); (case l15 => k_is); (case c15 => k_is); (case k15 => k_is)
    (case a16 => k_is); (case l16 => k_is); (case c16 => k_is); (case k16 => k_is); (case a17 => k_is); (case l17 => k_is); (case c17 => k_is); (case k17 => k_is)
    (case a18 => k_is); (case l18 => k_is); (case c18 => k_is); (case k18 => k_is); (case pg0 => k_is); (case hd0 => k_is); (case po0 => k_is); (case sa0 => k_is)
    (case mk0 => k_is); (case kc0 => k_is); (case n0Cost => k_is); (case n0Since => k_is); (case n0Till => k_is); (case pg1 => k_is); (case hd1 => k_is); (case po1 => k_is)
    (case sa1 => k_is); (case mk1 => k_is); (case kc1 => k_is); (case n1Minutes => k_is); (case n1Players => k_is); (case pg2 => k_is); (case hd2 => k_is); (case po2 => k_is)
    (case sa2 => k_is); (case mk2 => k_is); (case kc2 => k_is); (case n2Players => k_is); (case n2Pieces => k_is); (case n2Pairs => k_is); (case zlen => k_is); (case zrange => k_is)
    (case zenumerate => k_is); (case zzip => k_is); (case zsorted => k_is); (case zlist => k_is); (case y0 => k_is); (case y1 => k_is); (case y2 => k_is); (case y3 => k_is)
    (case y4 => k_is); (case y5 => k_is); (case y6 => k_is); (case y7 => k_is); (case y8 => k_is); (case y9 => k_is); (case y10 => k_is); (case y11 => k_is)
    (case y12 => k_is); (case y13 => k_is); (case y14 => k_is)
  case S =>
    intro K H xs a hO hwi hask hx
    cases hx with
    | cons h1 h2 =>
      cases h2
      cases h1 with
      | lst hs ha =>
        have e := L2.ints_dw a.1 _ ha
        subst e
        exact ⟨_, a.1, rfl, hs, hask, fun H' p hp => .lst (L2.SqL.of hp) (L2.dw_ints _)⟩
