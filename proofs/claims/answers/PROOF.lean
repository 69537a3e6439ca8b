import PyProof.Rows.All
import Wide.All
import OpenK.AllK
import Wide.FinOn
import Open.SpecLaws
import KE.OsGo
import HandS.ForSpec
import HandS.Comp
import HandS.Iter
import HandS.Steps
import PyWqagaf
import PySem.Challenge.RW_marklite_s01_answers
set_option Elab.async false
set_option linter.unusedVariables false
set_option maxRecDepth 100000
set_option maxHeartbeats 4000000
namespace Mk
open Ml

/-! ### small facts about lists -/
theorem drop_of_cons {α : Type} {l : List α} {i : Nat} {x : α} {r : List α} (h : l.drop i = x :: r) : l[i]? = some x ∧ l.drop (i + 1) = r ∧ i < l.length := by
  have h1 : (l.drop i)[0]? = some x := by rw [h]; rfl
  have h2 : i < l.length := by
    rcases Nat.lt_or_ge i l.length with z | z
    · exact z
    · rw [List.drop_eq_nil_of_le z] at h
      cases h
  refine ⟨?_, ?_, h2⟩
  · rw [List.getElem?_drop] at h1
    exact h1
  · have e : l.drop (i + 1) = (l.drop i).drop 1 := by rw [List.drop_drop]
    rw [e, h]
    rfl
theorem drop_cons_of {α : Type} {l : List α} {i : Nat} {x : α} (h : l[i]? = some x) : l.drop i = x :: l.drop (i + 1) := by
  obtain ⟨z, e⟩ := List.getElem?_eq_some_iff.mp h
  rw [List.drop_eq_getElem_cons z, e]
theorem drop_lt {α : Type} {l : List α} {i : Nat} (h : i < l.length) : ∃ x, l[i]? = some x ∧ l.drop i = x :: l.drop (i + 1) :=
  ⟨l[i], List.getElem?_eq_getElem h, drop_cons_of (List.getElem?_eq_getElem h)⟩
theorem take_more {α : Type} {l : List α} {i : Nat} {x : α} (h : l[i]? = some x) : l.take (i + 1) = l.take i ++ [x] := by
  rw [List.take_add_one, h]
  rfl
theorem takeWhile_len {α : Type} (p : α → Bool) (l : List α) : (l.takeWhile p).length ≤ l.length := by
  induction l with
  | nil => exact Nat.le_refl _
  | cons x r ih =>
    rw [List.takeWhile_cons]
    split
    · simp only [List.length_cons]; omega
    · simp
/-- the place where a run of p ends -/
theorem takeWhile_cons_true {α : Type} {p : α → Bool} {x : α} {r : List α} (h : p x = true) : ((x :: r).takeWhile p).length = (r.takeWhile p).length + 1 := by
  rw [List.takeWhile_cons, if_pos h]
  rfl
theorem takeWhile_cons_false {α : Type} {p : α → Bool} {x : α} {r : List α} (h : p x = false) : (x :: r).takeWhile p = [] := by
  rw [List.takeWhile_cons, if_neg (by rw [h]; exact Bool.false_ne_true)]
theorem take_takeWhile {α : Type} (p : α → Bool) : ∀ l : List α, l.take (l.takeWhile p).length = l.takeWhile p
  | [] => rfl
  | x :: r => by
    cases h : p x with
    | false =>
      rw [takeWhile_cons_false h]
      rfl
    | true =>
      rw [takeWhile_cons_true h, List.takeWhile_cons, if_pos h]
      show x :: r.take (r.takeWhile p).length = _
      rw [take_takeWhile p r]
/-- all but the run -/
theorem drop_takeWhile_cases {α : Type} (p : α → Bool) : ∀ l : List α, (l.drop (l.takeWhile p).length = [] ∧ (l.takeWhile p).length = l.length) ∨ ∃ x r, l.drop (l.takeWhile p).length = x :: r ∧ p x = false
  | [] => .inl ⟨rfl, rfl⟩
  | x :: r => by
    cases h : p x with
    | false =>
      rw [takeWhile_cons_false h]
      exact .inr ⟨x, r, rfl, h⟩
    | true =>
      rw [takeWhile_cons_true h]
      show ((r.drop (r.takeWhile p).length = [] ∧ _) ∨ _)
      rcases drop_takeWhile_cases p r with ⟨a, b⟩ | ⟨y, q, a, b⟩
      · exact .inl ⟨a, by rw [b]; rfl⟩
      · exact .inr ⟨y, q, a, b⟩

/-! ### lexing without fuel -/
theorem lex_any : ∀ (n m : Nat) (t : Bytes), t.length ≤ n → t.length ≤ m → lex n t = lex m t
  | 0, m, [], _, _ => by cases m <;> rfl
  | 0, _, _ :: _, h, _ => by cases h
  | n + 1, 0, [], _, _ => rfl
  | n + 1, 0, _ :: _, _, h => by cases h
  | n + 1, m + 1, [], _, _ => rfl
  | n + 1, m + 1, c :: r, h, h' => by
    have hr : r.length ≤ n := Nat.le_of_succ_le_succ h
    have hr' : r.length ≤ m := Nat.le_of_succ_le_succ h'
    unfold lex
    rw [lex_any n m r hr hr']
    have hd : ∀ k, lex n (r.drop k) = lex m (r.drop k) := fun k => lex_any n m (r.drop k) (by rw [List.length_drop]; omega) (by rw [List.length_drop]; omega)
    dsimp only
    rw [hd]
    cases r with
    | nil => rfl
    | cons x q =>
      have hq : lex n q = lex m q := lex_any n m q (by simp only [List.length_cons] at hr; omega) (by simp only [List.length_cons] at hr'; omega)
      dsimp only
      rw [hq]
def lexF (t : Bytes) : List Tok := lex t.length t
theorem lexF_of {n : Nat} {t : Bytes} (h : t.length ≤ n) : lex n t = lexF t := lex_any n t.length t h (Nat.le_refl _)
theorem lexF_nil : lexF [] = [] := rfl
/-- a code span's inside that begins behind the backquote: its length, 0 if there is none -/
def codeLen (r : Bytes) : Nat := let b := r.takeWhile fun x => x != 96
  if b.length < r.length then b.length else 0
def byteTok (c : UInt8) : Tok := if c = 42 then .star else if c = 91 then .lbr else if c = 93 then .rbr else .ch c
def backed (c : UInt8) (r : Bytes) : Bool := c == 92 && (match r with
  | x :: _ => sign x
  | [] => false)
theorem lexF_code {r : Bytes} (h : 0 < codeLen r) : lexF (96 :: r) = .code (r.take (codeLen r)) :: lexF (r.drop (codeLen r + 1)) := by
  unfold codeLen at h ⊢
  dsimp only at h ⊢
  by_cases z : (r.takeWhile fun x => x != 96).length < r.length
  · rw [if_pos z] at h ⊢
    have nb : (r.takeWhile fun x => x != 96) ≠ [] := fun e => by rw [e] at h; exact Nat.lt_irrefl _ h
    show lex (r.length + 1) (96 :: r) = _
    unfold lex
    rw [if_neg (by decide), if_pos rfl]
    dsimp only
    rw [if_pos ⟨nb, z⟩, lexF_of (by rw [List.length_drop]; omega)]
    rw [take_takeWhile]
  · rw [if_neg z] at h
    exact absurd h (Nat.lt_irrefl _)
theorem lexF_quote {r : Bytes} (h : codeLen r = 0) : lexF (96 :: r) = .ch 96 :: lexF r := by
  unfold codeLen at h
  dsimp only at h
  show lex (r.length + 1) (96 :: r) = _
  unfold lex
  rw [if_neg (by decide), if_pos rfl]
  dsimp only
  rw [if_neg, lexF_of (Nat.le_refl _)]
  rintro ⟨a, b⟩
  rw [if_pos b] at h
  exact a (List.length_eq_zero_iff.mp h)
theorem lexF_backed {c x : UInt8} {q : Bytes} (h : backed c (x :: q) = true) : lexF (c :: x :: q) = .lit x :: lexF q := by
  unfold backed at h
  rw [Bool.and_eq_true] at h
  have e : c = 92 := eq_of_beq h.1
  subst e
  show lex (q.length + 2) (92 :: x :: q) = _
  unfold lex
  rw [if_pos rfl]
  dsimp only
  rw [if_pos h.2, lexF_of (by omega)]
theorem lexF_byte {c : UInt8} {r : Bytes} (h : backed c r = false) (h2 : c ≠ 96) : lexF (c :: r) = byteTok c :: lexF r := by
  show lex (r.length + 1) (c :: r) = _
  unfold lex byteTok
  by_cases e : c = 92
  · subst e
    rw [if_pos rfl, if_neg (by decide), if_neg (by decide), if_neg (by decide)]
    cases r with
    | nil => rfl
    | cons x q =>
      dsimp only
      have hs : sign x = false := by
        unfold backed at h
        simpa using h
      rw [if_neg (by rw [hs]; exact Bool.false_ne_true), lexF_of (Nat.le_refl _)]
  · rw [if_neg e, if_neg h2, lexF_of (Nat.le_refl _)]
    split
    · rfl
    · split
      · rfl
      · split <;> rfl

/-! ### links without fuel -/
theorem links_any : ∀ (n m : Nat) (t : List Tok), t.length ≤ n → t.length ≤ m → links n t = links m t
  | 0, m, [], _, _ => by cases m <;> rfl
  | 0, _, _ :: _, h, _ => by cases h
  | n + 1, 0, [], _, _ => rfl
  | n + 1, 0, _ :: _, _, h => by cases h
  | n + 1, m + 1, [], _, _ => rfl
  | n + 1, m + 1, c :: r, h, h' => by
    have hr : r.length ≤ n := Nat.le_of_succ_le_succ h
    have hr' : r.length ≤ m := Nat.le_of_succ_le_succ h'
    have e := links_any n m r hr hr'
    cases c with
    | lbr =>
      unfold links
      dsimp only
      cases hl : linkAt r with
      | none =>
        dsimp only
        rw [e]
      | some x =>
        dsimp only
        have hx : x.2.2.length ≤ r.length := by
          unfold linkAt at hl
          dsimp only at hl
          split at hl
          · split at hl
            · rename_i q he _ z hz
              split at hl
              · cases hl
              · have : x.2.2 = z := by
                  have := Option.some.inj hl
                  rw [← this]
                rw [this]
                have h1 : (q.drop (q.takeWhile fun t => (urlByte t).isSome).length).length = z.length + 1 := by rw [hz]; rfl
                have h2 : (r.drop (r.takeWhile fun t => !bracket t).length).length = q.length + 2 := by rw [he]; rfl
                rw [List.length_drop] at h1 h2
                omega
            · cases hl
          · cases hl
        rw [links_any n m x.2.2 (by omega) (by omega)]
    | _ =>
      unfold links
      dsimp only
      rw [e]
def linksF (t : List Tok) : List Piece := links t.length t
theorem linksF_of {n : Nat} {t : List Tok} (h : t.length ≤ n) : links n t = linksF t := links_any n t.length t h (Nat.le_refl _)
theorem linksF_nil : linksF [] = [] := rfl
/-- how many signs stand between the opening bracket and the parenthesis that ends the link: 0 if there is no link -/
def inLen (r : List Tok) : Nat := (r.takeWhile fun t => !bracket t).length
def adLen (q : List Tok) : Nat := (q.takeWhile fun t => (urlByte t).isSome).length
def isLink (r : List Tok) : Prop := 0 < inLen r ∧ r[inLen r]? = some .rbr ∧ r[inLen r + 1]? = some (.ch 40) ∧ (r.drop (inLen r + 2))[adLen (r.drop (inLen r + 2))]? = some (.ch 41)
theorem linkAt_some {r : List Tok} (h : isLink r) : linkAt r = some (r.take (inLen r), ((r.drop (inLen r + 2)).take (adLen (r.drop (inLen r + 2)))).filterMap urlByte, r.drop (inLen r + 2 + adLen (r.drop (inLen r + 2)) + 1)) := by
  obtain ⟨h0, h1, h2, h3⟩ := h
  unfold linkAt
  have e1 : r.drop (r.takeWhile fun t => !bracket t).length = .rbr :: .ch 40 :: r.drop (inLen r + 2) := by
    show r.drop (inLen r) = _
    rw [drop_cons_of h1, drop_cons_of h2]
  simp only [e1]
  have e2 : (r.drop (inLen r + 2)).drop ((r.drop (inLen r + 2)).takeWhile fun t => (urlByte t).isSome).length = .ch 41 :: (r.drop (inLen r + 2)).drop (adLen (r.drop (inLen r + 2)) + 1) := drop_cons_of h3
  simp only [e2]
  have e3 : ¬ (r.takeWhile fun t => !bracket t) = [] := fun e => by
    unfold inLen at h0
    rw [e] at h0
    exact Nat.lt_irrefl _ h0
  rw [if_neg e3]
  have e4 : r.take (inLen r) = r.takeWhile fun t => !bracket t := take_takeWhile _ _
  have e5 : (r.drop (inLen r + 2)).take (adLen (r.drop (inLen r + 2))) = (r.drop (inLen r + 2)).takeWhile fun t => (urlByte t).isSome := take_takeWhile _ _
  rw [e4, e5, List.drop_drop]
  congr 3
theorem linkAt_none {r : List Tok} (h : ¬ isLink r) : linkAt r = none := by
  unfold linkAt
  dsimp only
  split
  · rename_i q he
    split
    · rename_i z hz
      split
      · rfl
      · rename_i hne
        refine absurd ?_ h
        have he' : r.drop (inLen r) = .rbr :: .ch 40 :: q := he
        obtain ⟨a1, a2, _⟩ := drop_of_cons he'
        obtain ⟨a3, a4, _⟩ := drop_of_cons a2
        have a5 : r.drop (inLen r + 2) = q := a4
        refine ⟨?_, a1, a3, ?_⟩
        · rcases Nat.eq_zero_or_pos (inLen r) with z0 | z0
          · exact absurd (List.length_eq_zero_iff.mp z0) hne
          · exact z0
        · rw [a5]
          exact (drop_of_cons hz).1
    · rfl
  · rfl
theorem linksF_link {r : List Tok} (h : isLink r) : linksF (.lbr :: r) = .link (r.take (inLen r)) (((r.drop (inLen r + 2)).take (adLen (r.drop (inLen r + 2)))).filterMap urlByte) :: linksF (r.drop (inLen r + 2 + adLen (r.drop (inLen r + 2)) + 1)) := by
  show links (r.length + 1) (.lbr :: r) = _
  unfold links
  rw [linkAt_some h]
  dsimp only
  rw [linksF_of (by rw [List.length_drop]; omega)]
theorem linksF_lbr {r : List Tok} (h : ¬ isLink r) : linksF (.lbr :: r) = .tok .lbr :: linksF r := by
  show links (r.length + 1) (.lbr :: r) = _
  unfold links
  rw [linkAt_none h]
  dsimp only
  rw [linksF_of (Nat.le_refl _)]
theorem linksF_tok {t : Tok} {r : List Tok} (h : t ≠ .lbr) : linksF (t :: r) = .tok t :: linksF r := by
  show links (r.length + 1) (t :: r) = _
  unfold links
  cases t with
  | lbr => exact absurd rfl h
  | _ =>
    dsimp only
    rw [linksF_of (Nat.le_refl _)]

/-! ### emphasis without fuel -/
theorem emph_any {α : Type} (star blank : α → Bool) (shown : α → List Event) : ∀ (n m : Nat) (t : List α), t.length ≤ n → t.length ≤ m → emph star blank shown n t = emph star blank shown m t
  | 0, m, [], _, _ => by cases m <;> rfl
  | 0, _, _ :: _, h, _ => by cases h
  | n + 1, 0, [], _, _ => rfl
  | n + 1, 0, _ :: _, _, h => by cases h
  | n + 1, m + 1, [], _, _ => rfl
  | n + 1, m + 1, x :: r, h, h' => by
    have hr : r.length ≤ n := Nat.le_of_succ_le_succ h
    have hr' : r.length ≤ m := Nat.le_of_succ_le_succ h'
    have e := emph_any star blank shown n m r hr hr'
    unfold emph
    rw [e]
    cases r with
    | nil => rfl
    | cons y q =>
      dsimp only
      have hd : ∀ k, emph star blank shown n (q.drop k) = emph star blank shown m (q.drop k) := fun k => emph_any star blank shown n m (q.drop k) (by rw [List.length_drop]; simp only [List.length_cons] at hr; omega) (by rw [List.length_drop]; simp only [List.length_cons] at hr'; omega)
      cases hc : (if blank y = true then none else closing star blank y q) with
      | none => rfl
      | some j =>
        dsimp only
        rw [hd]
def emphF {α : Type} (star blank : α → Bool) (shown : α → List Event) (l : List α) : List Event := emph star blank shown l.length l
theorem emphF_of {α : Type} {star blank : α → Bool} {shown : α → List Event} {n : Nat} {t : List α} (h : t.length ≤ n) : emph star blank shown n t = emphF star blank shown t := emph_any star blank shown n t.length t h (Nat.le_refl _)
theorem closing_lt {α : Type} {star blank : α → Bool} : ∀ {q : List α} {p : α} {j : Nat}, closing star blank p q = some j → j < q.length
  | [], p, j, h => by cases h
  | x :: r, p, j, h => by
    unfold closing at h
    split at h
    · cases h
      exact Nat.zero_lt_succ _
    · cases e : closing star blank x r with
      | none =>
        rw [e] at h
        cases h
      | some k =>
        rw [e] at h
        have := closing_lt e
        cases h
        show k + 1 < r.length + 1
        omega
theorem emphF_nil {α : Type} {star blank : α → Bool} {shown : α → List Event} : emphF star blank shown [] = [] := rfl
theorem emphF_begins {α : Type} {star blank : α → Bool} {shown : α → List Event} {x y : α} {q : List α} {j : Nat} (hs : star x = true) (hb : blank y = false) (hc : closing star blank y q = some j) :
    emphF star blank shown (x :: y :: q) = [ev 13] ++ ((y :: q).take (j + 1)).flatMap shown ++ [ev 14] ++ emphF star blank shown (q.drop (j + 1)) := by
  show emph star blank shown (q.length + 2) (x :: y :: q) = _
  unfold emph
  rw [if_pos hs]
  dsimp only
  rw [if_neg (by rw [hb]; exact Bool.false_ne_true), hc]
  dsimp only
  rw [emphF_of (by rw [List.length_drop]; omega)]
  rfl
/-- does a star that stands ahead of r begin an emphasis, and how far behind the first of r does it end -/
def opens {α : Type} (star blank : α → Bool) : List α → Option Nat
  | [] => none
  | y :: q => if blank y = true then none else closing star blank y q
theorem emphF_no {α : Type} {star blank : α → Bool} {shown : α → List Event} {x : α} {r : List α} (h : star x = false ∨ opens star blank r = none) :
    emphF star blank shown (x :: r) = shown x ++ emphF star blank shown r := by
  show emph star blank shown (r.length + 1) (x :: r) = _
  unfold emph
  by_cases hs : star x = true
  · rcases h with h | h
    · rw [h] at hs
      cases hs
    · rw [if_pos hs]
      cases r with
      | nil =>
        dsimp only
        rw [emphF_nil, List.append_nil]
      | cons y q =>
        dsimp only
        have h' : (if blank y = true then none else closing star blank y q) = none := h
        rw [h']
        dsimp only
        rw [emphF_of (Nat.le_refl _)]
  · rw [if_neg hs, emphF_of (Nat.le_refl _)]
theorem closing_map {α β : Type} {f : β → α} {star blank : α → Bool} {star' blank' : β → Bool} (h1 : ∀ x, star (f x) = star' x) (h2 : ∀ x, blank (f x) = blank' x) : ∀ (q : List β) (p : β), closing star blank (f p) (q.map f) = closing star' blank' p q
  | [], _ => rfl
  | x :: r, p => by
    show (if star (f x) = true ∧ blank (f p) = false then some 0 else (closing star blank (f x) (r.map f)).map (· + 1)) = _
    rw [closing_map h1 h2 r x, h1, h2]
    rfl
theorem emph_map {α β : Type} {f : β → α} {star blank : α → Bool} {star' blank' : β → Bool} {shown : α → List Event} {shown' : β → List Event} (h1 : ∀ x, star (f x) = star' x) (h2 : ∀ x, blank (f x) = blank' x) (h3 : ∀ x, shown (f x) = shown' x) :
    ∀ (n : Nat) (l : List β), emph star blank shown n (l.map f) = emph star' blank' shown' n l
  | 0, _ => by unfold emph; rfl
  | n + 1, [] => rfl
  | n + 1, x :: r => by
    show emph star blank shown (n + 1) (f x :: r.map f) = _
    unfold emph
    rw [h1, h3, emph_map h1 h2 h3 n r]
    cases r with
    | nil => rfl
    | cons y q =>
      show (if star' x = true then (match (if blank (f y) = true then none else closing star blank (f y) (q.map f)) with
        | some j => [ev 13] ++ (f y :: (q.map f).take j).flatMap shown ++ [ev 14] ++ emph star blank shown n ((q.map f).drop (j + 1))
        | none => shown' x ++ emph star' blank' shown' n (y :: q)) else shown' x ++ emph star' blank' shown' n (y :: q)) = _
      rw [h2, closing_map h1 h2]
      dsimp only
      cases hc : (if blank' y = true then none else closing star' blank' y q) with
      | none => rfl
      | some j =>
        dsimp only
        rw [← List.map_drop, emph_map h1 h2 h3 n, ← List.map_take]
        have e : ∀ l : List β, (l.map f).flatMap shown = l.flatMap shown' := fun l => by
          induction l with
          | nil => rfl
          | cons a l ih =>
            rw [List.map_cons, List.flatMap_cons, List.flatMap_cons, ih, h3]
        have e2 : (f y :: (q.take j).map f).flatMap shown = (y :: q.take j).flatMap shown' := e (y :: q.take j)
        rw [e2]
/-- a piece's events by the same emphasis over pieces -/
abbrev emphP (l : List Piece) : List Event := emphF Piece.isStar Piece.isBlank Piece.events l
theorem emphP_tok (l : List Tok) : emphP (l.map .tok) = emph Tok.isStar Tok.isBlank Tok.events l.length l := by
  show emph _ _ _ (l.map Piece.tok).length _ = _
  rw [List.length_map]
  exact emph_map (fun _ => rfl) (fun _ => rfl) (fun _ => rfl) l.length l
theorem link_events (l : List Tok) (u : Bytes) : (Piece.link l u).events = [⟨15, 0, u⟩] ++ emphP (l.map .tok) ++ [ev 16] := by
  rw [emphP_tok]
  rfl
theorem running_F (t : Bytes) : running t = emphP (linksF (lexF t)) := rfl
/-- where, for the place i, the first star from there on stands that can end an emphasis: 0: nowhere (or i is 0) -/
def endsAt (ps : List Piece) (i : Nat) : Nat := match i with
  | 0 => 0
  | k + 1 => match ps[k]? with
    | none => 0
    | some p => match closing Piece.isStar Piece.isBlank p (ps.drop (k + 1)) with
      | none => 0
      | some j => k + 1 + j
theorem endsAt_end {ps : List Piece} {i : Nat} (h : ps.length ≤ i) : endsAt ps i = 0 := by
  unfold endsAt
  cases i with
  | zero => rfl
  | succ k =>
    dsimp only
    cases hp : ps[k]? with
    | none => rfl
    | some p =>
      dsimp only
      rw [List.drop_eq_nil_of_le h]
      rfl
theorem endsAt_step {ps : List Piece} {k : Nat} {p x : Piece} (hp : ps[k]? = some p) (hx : ps[k + 1]? = some x) :
    endsAt ps (k + 1) = if x.isStar = true ∧ p.isBlank = false then k + 1 else endsAt ps (k + 2) := by
  unfold endsAt
  dsimp only
  rw [hp, hx]
  dsimp only
  rw [drop_cons_of hx]
  show (match (if x.isStar = true ∧ p.isBlank = false then some 0 else (closing Piece.isStar Piece.isBlank x (ps.drop (k + 2))).map (· + 1)) with
      | none => 0
      | some j => k + 1 + j) = _
  by_cases c : x.isStar = true ∧ p.isBlank = false
  · rw [if_pos c, if_pos c]
  · rw [if_neg c, if_neg c]
    cases closing Piece.isStar Piece.isBlank x (ps.drop (k + 2)) with
    | none => rfl
    | some j =>
      show k + 1 + (j + 1) = k + 2 + j
      omega
theorem opens_at {ps : List Piece} {i : Nat} {y : Piece} (hy : ps[i + 1]? = some y) (hb : y.isBlank = false) :
    opens Piece.isStar Piece.isBlank (ps.drop (i + 1)) = if 0 < endsAt ps (i + 2) then some (endsAt ps (i + 2) - (i + 2)) else none := by
  have e : endsAt ps (i + 2) = match closing Piece.isStar Piece.isBlank y (ps.drop (i + 2)) with
      | none => 0
      | some j => i + 2 + j := by
    unfold endsAt
    dsimp only
    rw [hy]
  rw [drop_cons_of hy, e]
  show (if y.isBlank = true then none else closing Piece.isStar Piece.isBlank y (ps.drop (i + 2))) = _
  rw [if_neg (by rw [hb]; exact Bool.false_ne_true)]
  generalize closing Piece.isStar Piece.isBlank y (ps.drop (i + 2)) = o
  cases o with
  | none => rfl
  | some j =>
    show some j = if 0 < i + 2 + j then some (i + 2 + j - (i + 2)) else none
    rw [if_pos (by omega)]
    congr 1
    omega
theorem opens_none {ps : List Piece} {i : Nat} (h : ∀ y, ps[i + 1]? = some y → y.isBlank = true) : opens Piece.isStar Piece.isBlank (ps.drop (i + 1)) = none := by
  cases e : ps[i + 1]? with
  | none =>
    rw [List.drop_eq_nil_of_le (List.getElem?_eq_none_iff.mp e)]
    rfl
  | some y =>
    rw [drop_cons_of e]
    show (if y.isBlank = true then none else closing Piece.isStar Piece.isBlank y (ps.drop (i + 1 + 1))) = none
    rw [if_pos (h y e)]
/-- what is still to be told at the place i: inside an emphasis that ends at n, or not -/
def restE (xs : List Piece) (i n : Nat) (b : Bool) : List Event := match b with
  | false => emphP (xs.drop i)
  | true => ((xs.drop i).take (n - i)).flatMap Piece.events ++ [ev 14] ++ emphP (xs.drop (n + 1))
theorem restE_end (xs : List Piece) (i m : Nat) : restE xs i i true = ev 14 :: restE xs (i + 1) m false := by
  show ((xs.drop i).take (i - i)).flatMap Piece.events ++ [ev 14] ++ emphP (xs.drop (i + 1)) = _
  rw [Nat.sub_self]
  rfl
theorem restE_in {xs : List Piece} {i n : Nat} {x : Piece} (hx : xs[i]? = some x) (h : i < n) : restE xs i n true = x.events ++ restE xs (i + 1) n true := by
  show ((xs.drop i).take (n - i)).flatMap Piece.events ++ [ev 14] ++ emphP (xs.drop (n + 1)) = x.events ++ (((xs.drop (i + 1)).take (n - (i + 1))).flatMap Piece.events ++ [ev 14] ++ emphP (xs.drop (n + 1)))
  obtain ⟨k, rfl⟩ : ∃ k, n = i + 1 + k := ⟨n - i - 1, by omega⟩
  rw [drop_cons_of hx, show i + 1 + k - i = k + 1 by omega, show i + 1 + k - (i + 1) = k by omega, List.take_succ_cons, List.flatMap_cons]
  simp only [List.append_assoc]
theorem restE_begins {xs : List Piece} {i m : Nat} {x : Piece} (hx : xs[i]? = some x) (h : (x.isStar && (opens Piece.isStar Piece.isBlank (xs.drop (i + 1))).isSome) = true) :
    endsAt xs (i + 2) < xs.length ∧ i + 1 < endsAt xs (i + 2) ∧ restE xs i m false = ev 13 :: restE xs (i + 1) (endsAt xs (i + 2)) true := by
  rw [Bool.and_eq_true] at h
  cases ey : xs[i + 1]? with
  | none =>
    rw [List.drop_eq_nil_of_le (List.getElem?_eq_none_iff.mp ey)] at h
    cases h.2
  | some y =>
    have hb : y.isBlank = false := by
      cases hb : y.isBlank with
      | false => rfl
      | true =>
        rw [opens_none (fun z hz => by rw [ey] at hz; rw [← Option.some.inj hz]; exact hb)] at h
        cases h.2
    have hc : ∃ j, closing Piece.isStar Piece.isBlank y (xs.drop (i + 2)) = some j := by
      have h2 := h.2
      rw [drop_cons_of ey] at h2
      unfold opens at h2
      dsimp only at h2
      rw [if_neg (by rw [hb]; exact Bool.false_ne_true)] at h2
      exact Option.isSome_iff_exists.mp h2
    obtain ⟨j, hj⟩ := hc
    have e : endsAt xs (i + 2) = i + 2 + j := by
      unfold endsAt
      dsimp only
      rw [ey]
      dsimp only
      rw [hj]
    have hl := closing_lt hj
    rw [List.length_drop] at hl
    rw [e]
    refine ⟨by omega, by omega, ?_⟩
    show emphP (xs.drop i) = ev 13 :: (((xs.drop (i + 1)).take (i + 2 + j - (i + 1))).flatMap Piece.events ++ [ev 14] ++ emphP (xs.drop (i + 2 + j + 1)))
    rw [drop_cons_of hx, drop_cons_of ey, show i + 2 + j - (i + 1) = j + 1 by omega]
    have := emphF_begins (shown := Piece.events) h.1 hb hj
    refine this.trans ?_
    rw [List.drop_drop]
    rfl
theorem restE_no {xs : List Piece} {i m n : Nat} {x : Piece} (hx : xs[i]? = some x) (h : (x.isStar && (opens Piece.isStar Piece.isBlank (xs.drop (i + 1))).isSome) = false) :
    restE xs i m false = x.events ++ restE xs (i + 1) n false := by
  show emphP (xs.drop i) = x.events ++ emphP (xs.drop (i + 1))
  rw [drop_cons_of hx]
  refine emphF_no ?_
  rcases Bool.and_eq_false_iff.mp h with z | z
  · exact .inl z
  · right
    cases e : opens Piece.isStar Piece.isBlank (xs.drop (i + 1)) with
    | none => rfl
    | some j =>
      rw [e] at z
      cases z
end Mk
namespace Mk
open Ml

/-! ### trimming -/
def rtrim (m : Bytes) : Bytes := (m.reverse.dropWhile blank).reverse
theorem rtrim_snoc (a : Bytes) (x : UInt8) : rtrim (a ++ [x]) = if blank x = true then rtrim a else a ++ [x] := by
  unfold rtrim
  rw [List.reverse_append]
  show ((x :: a.reverse).dropWhile blank).reverse = _
  rw [List.dropWhile_cons]
  split
  · rfl
  · rw [List.reverse_cons, List.reverse_reverse]
theorem rtrim_nil : rtrim [] = [] := rfl
theorem drop_takeWhile {α : Type} (p : α → Bool) : ∀ l : List α, l.drop (l.takeWhile p).length = l.dropWhile p
  | [] => rfl
  | x :: r => by
    cases h : p x with
    | false =>
      rw [takeWhile_cons_false h, List.dropWhile_cons, if_neg (by rw [h]; exact Bool.false_ne_true)]
      rfl
    | true =>
      rw [takeWhile_cons_true h, List.dropWhile_cons, if_pos h]
      exact drop_takeWhile p r
/-- how many blanks stand first -/
def lead (l : Bytes) : Nat := (l.takeWhile blank).length
theorem trim_eq (l : Bytes) : trim l = rtrim (l.drop (lead l)) := by
  unfold trim lead rtrim
  rw [drop_takeWhile]
theorem lead_lt {l : Bytes} {i : Nat} {c : UInt8} (h : i ≤ lead l) (hc : l[i]? = some c) (hb : blank c = true) : i + 1 ≤ lead l := by
  rcases Nat.lt_or_ge i (lead l) with z | z
  · exact z
  · have e : i = lead l := Nat.le_antisymm h z
    subst e
    rcases drop_takeWhile_cases blank l with ⟨a, _⟩ | ⟨y, q, a, b⟩
    · have := drop_cons_of hc
      unfold lead at this
      rw [a] at this
      cases this
    · have := drop_cons_of hc
      unfold lead at this
      rw [a] at this
      injection this with e1 _
      rw [e1, hb] at b
      cases b
theorem lead_eq {l : Bytes} {i : Nat} (h : i ≤ lead l) (hc : ∀ c, l[i]? = some c → blank c = false) : i = lead l := by
  rcases Nat.lt_or_ge i (lead l) with z | z
  · exfalso
    have hl : i < l.length := Nat.lt_of_lt_of_le z (takeWhile_len _ _)
    have e1 := hc l[i] (List.getElem?_eq_getElem hl)
    have e2 : (l.takeWhile blank)[i]? = some l[i] := by
      have e3 : l.take (lead l) = l.takeWhile blank := take_takeWhile blank l
      rw [← e3, List.getElem?_take_of_lt z, List.getElem?_eq_getElem hl]
    have e4 := List.all_takeWhile (p := blank) (l := l)
    rw [List.all_eq_true] at e4
    have := e4 l[i] (List.mem_of_getElem? e2)
    rw [e1] at this
    cases this
  · exact Nat.le_antisymm h z
theorem lead_le (l : Bytes) : lead l ≤ l.length := takeWhile_len _ _
/-- one blank less at the end -/
theorem rtrim_less {m : Bytes} {k : Nat} {c : UInt8} (hc : m[k]? = some c) (hb : blank c = true) : rtrim (m.take (k + 1)) = rtrim (m.take k) := by
  rw [take_more hc, rtrim_snoc, if_pos hb]
theorem rtrim_done {m : Bytes} {k : Nat} {c : UInt8} (hc : m[k]? = some c) (hb : blank c = false) : rtrim (m.take (k + 1)) = m.take (k + 1) := by
  rw [take_more hc, rtrim_snoc, if_neg (by rw [hb]; exact Bool.false_ne_true)]
theorem trim_length (l : Bytes) : (trim l).length ≤ l.length := by
  have h1 : ∀ m : Bytes, (m.dropWhile blank).length ≤ m.length := fun m => by
    rw [← drop_takeWhile, List.length_drop]
    omega
  unfold trim
  rw [List.length_reverse]
  refine Nat.le_trans (h1 _) ?_
  rw [List.length_reverse]
  exact h1 _

/-! ### lines -/
theorem lines_ne : ∀ t : Bytes, lines t ≠ []
  | [] => by unfold lines; exact List.cons_ne_nil _ _
  | c :: r => by
    unfold lines
    split
    · exact List.cons_ne_nil _ _
    · split
      · exact List.cons_ne_nil _ _
      · exact List.cons_ne_nil _ _
theorem lines_nl (r : Bytes) : lines (10 :: r) = [] :: lines r := by
  conv => lhs; unfold lines
  rw [if_pos rfl]
theorem lines_seg : ∀ (s r : Bytes), (∀ c ∈ s, c ≠ 10) → lines (s ++ 10 :: r) = s :: lines r
  | [], r, _ => lines_nl r
  | c :: s, r, h => by
    show lines (c :: (s ++ 10 :: r)) = _
    conv => lhs; unfold lines
    rw [if_neg (h c (List.mem_cons_self ..)), lines_seg s r fun x hx => h x (List.mem_cons_of_mem _ hx)]
theorem lines_last : ∀ s : Bytes, (∀ c ∈ s, c ≠ 10) → lines s = [s]
  | [], _ => rfl
  | c :: s, h => by
    unfold lines
    rw [if_neg (h c (List.mem_cons_self ..)), lines_last s fun x hx => h x (List.mem_cons_of_mem _ hx)]
/-- the lines' weight: each byte, and one for each line -/
def LW (ls : List Bytes) : Nat := (ls.map fun l => l.length + 1).sum
theorem LW_cons (l : Bytes) (ls : List Bytes) : LW (l :: ls) = l.length + 1 + LW ls := by
  unfold LW
  rw [List.map_cons, List.sum_cons]
theorem LW_lines : ∀ t : Bytes, LW (lines t) = t.length + 1
  | [] => rfl
  | c :: r => by
    have ih := LW_lines r
    unfold lines
    split
    · rw [LW_cons, ih]
      simp only [List.length_nil, List.length_cons]
      omega
    · cases h : lines r with
      | nil => exact absurd h (lines_ne r)
      | cons l ls =>
        dsimp only
        rw [h, LW_cons] at ih
        rw [LW_cons]
        simp only [List.length_cons]
        omega
theorem LW_mem : ∀ {ls : List Bytes} {l : Bytes}, l ∈ ls → l.length + 1 ≤ LW ls
  | x :: ls, l, h => by
    rw [LW_cons]
    rcases List.mem_cons.mp h with e | e
    · rw [e]
      omega
    · have := LW_mem e
      omega
theorem LW_len : ∀ ls : List Bytes, ls.length ≤ LW ls
  | [] => Nat.le_refl _
  | l :: ls => by
    have := LW_len ls
    rw [LW_cons, List.length_cons]
    omega
theorem LW_take_drop : ∀ (n : Nat) (ls : List Bytes), LW (ls.take n) + LW (ls.drop n) = LW ls
  | 0, ls => by
    rw [List.take_zero, List.drop_zero]
    show 0 + _ = _
    omega
  | n + 1, [] => rfl
  | n + 1, l :: ls => by
    rw [List.take_succ_cons, List.drop_succ_cons, LW_cons, LW_cons]
    have := LW_take_drop n ls
    omega
/-- a line as the program keeps it -/
structure LineM where
  kind : Nat
  number : Nat
  text : Bytes
  row : Bytes
def lineM (l : Bytes) : LineM := match lineOf l with
  | .blank => ⟨0, 0, [], l⟩
  | .fence t => ⟨1, 0, t, l⟩
  | .heading n t => ⟨2, n, t, l⟩
  | .item d t => ⟨3, d, t, l⟩
  | .plain t => ⟨4, 0, t, l⟩
def runLen (l : Bytes) (k : UInt8) : Nat := (l.takeWhile fun c => c == k).length
theorem runLen_le (l : Bytes) (k : UInt8) : runLen l k ≤ l.length := takeWhile_len _ _
theorem runLen_cons (c k : UInt8) (r : Bytes) : runLen (c :: r) k = if c = k then runLen r k + 1 else 0 := by
  unfold runLen
  by_cases h : c = k
  · rw [if_pos h, takeWhile_cons_true (by rw [h]; exact beq_self_eq_true k)]
  · rw [if_neg h, takeWhile_cons_false (by simpa using h)]
    rfl
theorem take3 : ∀ l : Bytes, l.take 3 = FENCE ↔ 3 ≤ runLen l 96
  | [] => ⟨fun h => (by cases h), fun h => (by cases h)⟩
  | [a] => ⟨fun h => (by cases h), fun h => by have := runLen_le [a] 96; simp only [List.length_cons, List.length_nil] at this; omega⟩
  | [a, b] => ⟨fun h => (by cases h), fun h => by have := runLen_le [a, b] 96; simp only [List.length_cons, List.length_nil] at this; omega⟩
  | a :: b :: c :: r => by
    show [a, b, c] = [96, 96, 96] ↔ _
    rw [runLen_cons, runLen_cons, runLen_cons]
    by_cases h1 : a = 96
    · by_cases h2 : b = 96
      · by_cases h3 : c = 96
        · subst h1 h2 h3
          rw [if_pos rfl, if_pos rfl, if_pos rfl]
          exact ⟨fun _ => by omega, fun _ => rfl⟩
        · rw [if_pos h1, if_pos h2, if_neg h3]
          exact ⟨fun h => absurd (List.cons.inj (List.cons.inj (List.cons.inj h).2).2).1 h3, fun h => by omega⟩
      · rw [if_pos h1, if_neg h2]
        exact ⟨fun h => absurd (List.cons.inj (List.cons.inj h).2).1 h2, fun h => by omega⟩
    · rw [if_neg h1]
      exact ⟨fun h => absurd (List.cons.inj h).1 h1, fun h => by omega⟩
theorem hyphen (l : Bytes) : (l.head? = some 45 ∧ breaks (l.drop 1) = true) ↔ (runLen l 45 = 1 ∧ breaks (l.drop 1) = true) := by
  cases l with
  | nil => exact ⟨fun h => (by cases h.1), fun h => (by cases h.1)⟩
  | cons a r =>
    rw [runLen_cons]
    show (some a = some 45 ∧ breaks r = true) ↔ (_ ∧ breaks r = true)
    constructor
    · rintro ⟨h, b⟩
      have e := Option.some.inj h
      rw [if_pos e]
      refine ⟨?_, b⟩
      cases r with
      | nil => rfl
      | cons x q =>
        rw [runLen_cons, if_neg]
        intro z
        subst z
        have e0 : breaks (45 :: q) = false := rfl
        rw [e0] at b
        cases b
    · rintro ⟨h, b⟩
      refine ⟨?_, b⟩
      by_cases e : a = 45
      · rw [e]
      · rw [if_neg e] at h
        cases h
theorem lineOf_eq (l : Bytes) : lineOf l = if trim l = [] then .blank
  else if l.take 3 = FENCE then .fence (trim (l.drop 3))
  else if 1 ≤ runLen l 35 ∧ runLen l 35 ≤ 6 ∧ breaks (l.drop (runLen l 35)) = true then .heading (runLen l 35) (trim (l.drop (runLen l 35)))
  else if (l.drop (runLen l 32)).head? = some 45 ∧ breaks (l.drop (runLen l 32 + 1)) = true then .item (runLen l 32 / 2) (trim (l.drop (runLen l 32 + 1)))
  else .plain (trim l) := rfl
theorem lineM_blank {l : Bytes} (h : trim l = []) : lineM l = ⟨0, 0, trim l, l⟩ := by
  unfold lineM lineOf
  dsimp only
  rw [if_pos h, h]
theorem lineM_fence {l : Bytes} (h : trim l ≠ []) (h1 : 3 ≤ runLen l 96) : lineM l = ⟨1, 0, trim (l.drop 3), l⟩ := by
  unfold lineM lineOf
  dsimp only
  rw [if_neg h, if_pos ((take3 l).mpr h1)]
theorem lineM_heading {l : Bytes} (h : trim l ≠ []) (h1 : ¬ 3 ≤ runLen l 96) (h2 : 1 ≤ runLen l 35 ∧ runLen l 35 ≤ 6 ∧ breaks (l.drop (runLen l 35)) = true) :
    lineM l = ⟨2, runLen l 35, trim (l.drop (runLen l 35)), l⟩ := by
  unfold lineM
  rw [lineOf_eq, if_neg h, if_neg (fun z => h1 ((take3 l).mp z)), if_pos h2]
theorem lineM_item {l : Bytes} (h : trim l ≠ []) (h1 : ¬ 3 ≤ runLen l 96) (h2 : ¬ (1 ≤ runLen l 35 ∧ runLen l 35 ≤ 6 ∧ breaks (l.drop (runLen l 35)) = true))
    (h3 : runLen (l.drop (runLen l 32)) 45 = 1 ∧ breaks (l.drop (runLen l 32 + 1)) = true) : lineM l = ⟨3, runLen l 32 / 2, trim (l.drop (runLen l 32 + 1)), l⟩ := by
  have h4 : (l.drop (runLen l 32)).head? = some 45 ∧ breaks (l.drop (runLen l 32 + 1)) = true := by
    have := (hyphen (l.drop (runLen l 32))).mpr
    rw [List.drop_drop] at this
    exact this h3
  unfold lineM
  rw [lineOf_eq, if_neg h, if_neg (fun z => h1 ((take3 l).mp z)), if_neg h2, if_pos h4]
theorem lineM_plain {l : Bytes} (h : trim l ≠ []) (h1 : ¬ 3 ≤ runLen l 96) (h2 : ¬ (1 ≤ runLen l 35 ∧ runLen l 35 ≤ 6 ∧ breaks (l.drop (runLen l 35)) = true))
    (h3 : ¬ (runLen (l.drop (runLen l 32)) 45 = 1 ∧ breaks (l.drop (runLen l 32 + 1)) = true)) : lineM l = ⟨4, 0, trim l, l⟩ := by
  have h4 : ¬ ((l.drop (runLen l 32)).head? = some 45 ∧ breaks (l.drop (runLen l 32 + 1)) = true) := by
    have := (hyphen (l.drop (runLen l 32))).mp
    rw [List.drop_drop] at this
    exact fun z => h3 (this z)
  unfold lineM
  rw [lineOf_eq, if_neg h, if_neg (fun z => h1 ((take3 l).mp z)), if_neg h2, if_neg h4]
theorem lineM_row (l : Bytes) : (lineM l).row = l := by
  unfold lineM
  split <;> rfl
theorem lineM_number (l : Bytes) : (lineM l).number ≤ l.length := by
  unfold lineM lineOf
  dsimp only
  have h1 := runLen_le l 35
  have h2 := runLen_le l 32
  unfold runLen at h1 h2
  split
  · exact Nat.zero_le _
  · exact Nat.zero_le _
  · rename_i hn
    split at hn
    · cases hn
    · split at hn
      · cases hn
      · split at hn
        · cases hn
          exact h1
        · split at hn <;> cases hn
  · rename_i hn
    split at hn
    · cases hn
    · split at hn
      · cases hn
      · split at hn
        · cases hn
        · split at hn
          · cases hn
            dsimp only
            omega
          · cases hn
  · exact Nat.zero_le _
theorem lineM_text_len (l : Bytes) : (lineM l).text.length ≤ l.length := by
  have hd : ∀ n, (trim (l.drop n)).length ≤ l.length := fun n => Nat.le_trans (trim_length _) (by rw [List.length_drop]; omega)
  by_cases h : trim l = []
  · rw [lineM_blank h]
    exact trim_length l
  · by_cases h1 : 3 ≤ runLen l 96
    · rw [lineM_fence h h1]
      exact hd 3
    · by_cases h2 : 1 ≤ runLen l 35 ∧ runLen l 35 ≤ 6 ∧ breaks (l.drop (runLen l 35)) = true
      · rw [lineM_heading h h1 h2]
        exact hd _
      · by_cases h3 : runLen (l.drop (runLen l 32)) 45 = 1 ∧ breaks (l.drop (runLen l 32 + 1)) = true
        · rw [lineM_item h h1 h2 h3]
          exact hd _
        · rw [lineM_plain h h1 h2 h3]
          exact trim_length l
theorem lineM_kind (l : Bytes) : (lineM l).kind ≤ 4 := by
  unfold lineM
  split <;> (dsimp only; omega)
/-- a plain line's text isn't empty -/
theorem plain_ne {l : Bytes} (h : (lineM l).kind = 4) : (lineM l).text ≠ [] := by
  by_cases hb : trim l = []
  · rw [lineM_blank hb] at h
    cases h
  · unfold lineM at h ⊢
    split at h
    · cases h
    · cases h
    · cases h
    · cases h
    · rename_i t he
      dsimp only
      unfold lineOf at he
      dsimp only at he
      rw [if_neg hb] at he
      split at he
      · cases he
      · split at he
        · cases he
        · split at he
          · cases he
          · cases he
            exact hb
/-! ### plain lines -/
theorem plains_cons (l : Bytes) (ls : List Bytes) : plains (l :: ls) = if (lineM l).kind = 4 then (lineM l).text :: plains ls else [] := by
  conv => lhs; unfold plains
  unfold lineM
  cases lineOf l <;> rfl
theorem plains_texts : ∀ ls : List Bytes, plains ls = (ls.take (plains ls).length).map fun l => (lineM l).text
  | [] => rfl
  | l :: ls => by
    rw [plains_cons]
    by_cases h : (lineM l).kind = 4
    · rw [if_pos h]
      show _ = ((lineM l).text :: (ls.take (plains ls).length).map _)
      rw [← plains_texts ls]
    · rw [if_neg h]
      rfl
theorem plains_ne : ∀ (ls : List Bytes), ∀ t ∈ plains ls, t ≠ []
  | [], t, h => by cases h
  | l :: ls, t, h => by
    rw [plains_cons] at h
    by_cases c : (lineM l).kind = 4
    · rw [if_pos c] at h
      rcases List.mem_cons.mp h with e | e
      · rw [e]
        exact plain_ne c
      · exact plains_ne ls t e
    · rw [if_neg c] at h
      cases h
theorem plains_len : ∀ ls : List Bytes, (plains ls).length ≤ ls.length
  | [] => Nat.le_refl _
  | l :: ls => by
    rw [plains_cons]
    split
    · have := plains_len ls
      simp only [List.length_cons]
      omega
    · simp
/-- one further on, as long as the lines are plain -/
theorem plains_at : ∀ (ls : List Bytes) (i : Nat) (x : Bytes), i ≤ (plains ls).length → ls[i]? = some x → (lineM x).kind = 4 → i + 1 ≤ (plains ls).length
  | [], _, _, _, h, _ => by simp at h
  | l :: ls, 0, x, _, h, k => by
    have e : l = x := Option.some.inj h
    rw [plains_cons, e, if_pos k]
    simp
  | l :: ls, i + 1, x, hi, h, k => by
    rw [plains_cons] at hi ⊢
    split
    · rename_i c
      rw [if_pos c] at hi
      have := plains_at ls i x (by simpa using hi) h k
      simpa using this
    · rename_i c
      rw [if_neg c] at hi
      simp at hi
theorem plains_stop : ∀ (ls : List Bytes) (i : Nat), i ≤ (plains ls).length → (∀ x, ls[i]? = some x → (lineM x).kind ≠ 4) → i = (plains ls).length
  | [], i, h, _ => by
    have e : (plains []).length = 0 := rfl
    omega
  | l :: ls, 0, _, h => by
    rw [plains_cons, if_neg (h l rfl)]
    rfl
  | l :: ls, i + 1, hi, h => by
    rw [plains_cons] at hi ⊢
    split
    · rename_i c
      rw [if_pos c] at hi
      have := plains_stop ls i (by simpa using hi) h
      rw [List.length_cons, ← this]
    · rename_i c
      rw [if_neg c] at hi
      simp at hi
/-- the lines of a code block -/
def fenceLen (ls : List Bytes) : Nat := (ls.takeWhile fun x => decide (trim x ≠ FENCE)).length
theorem tw_at {α : Type} (p : α → Bool) : ∀ (ls : List α) (i : Nat) (x : α), i ≤ (ls.takeWhile p).length → ls[i]? = some x → p x = true → i + 1 ≤ (ls.takeWhile p).length
  | [], _, _, _, h, _ => by simp at h
  | l :: ls, 0, x, _, h, k => by
    have e : l = x := Option.some.inj h
    rw [e, takeWhile_cons_true k]
    omega
  | l :: ls, i + 1, x, hi, h, k => by
    cases c : p l with
    | true =>
      rw [takeWhile_cons_true c] at hi ⊢
      have := tw_at p ls i x (by omega) h k
      omega
    | false =>
      rw [takeWhile_cons_false c] at hi
      simp at hi
theorem tw_stop {α : Type} (p : α → Bool) : ∀ (ls : List α) (i : Nat), i ≤ (ls.takeWhile p).length → (∀ x, ls[i]? = some x → p x = false) → i = (ls.takeWhile p).length
  | [], i, h, _ => by
    have e : (([] : List α).takeWhile p).length = 0 := rfl
    omega
  | l :: ls, 0, _, h => by
    rw [takeWhile_cons_false (h l rfl)]
    rfl
  | l :: ls, i + 1, hi, h => by
    cases c : p l with
    | true =>
      rw [takeWhile_cons_true c] at hi ⊢
      have := tw_stop p ls i (by omega) h
      omega
    | false =>
      rw [takeWhile_cons_false c] at hi
      simp at hi
/-! ### texts put together -/
def put (acc t : Bytes) : Bytes := if 0 < acc.length then acc ++ 10 :: t else acc ++ t
def joinP (ts : List Bytes) : Bytes := ts.foldl put []
theorem join_ne : ∀ (t : Bytes) (ts : List Bytes), t ≠ [] → (∀ x ∈ ts, x ≠ []) → join (t :: ts) = t ++ ts.flatMap (10 :: ·)
  | t, [], ht, _ => by
    show (if t = [] then join [] else if join [] = [] then t else _) = _
    rw [if_neg ht]
    have e : join [] = [] := rfl
    rw [if_pos e]
    simp
  | t, x :: ts, ht, h => by
    have ih := join_ne x ts (h x (List.mem_cons_self ..)) fun y hy => h y (List.mem_cons_of_mem _ hy)
    show (if t = [] then join (x :: ts) else if join (x :: ts) = [] then t else t ++ 10 :: join (x :: ts)) = _
    rw [if_neg ht, if_neg, ih]
    · simp
    · rw [ih]
      intro e
      exact h x (List.mem_cons_self ..) (List.append_eq_nil_iff.mp e).1
theorem put_all : ∀ (ts : List Bytes) (acc : Bytes), acc ≠ [] → ts.foldl put acc = acc ++ ts.flatMap (10 :: ·)
  | [], acc, _ => by simp
  | t :: ts, acc, h => by
    rw [List.foldl_cons]
    have e : put acc t = acc ++ 10 :: t := if_pos (List.length_pos_iff.mpr h)
    rw [e, put_all ts _ (by simp)]
    simp
theorem joinP_eq (t : Bytes) (ts : List Bytes) (h : ∀ x ∈ ts, x ≠ []) : joinP (t :: ts) = join (t :: ts) := by
  have e : joinP (t :: ts) = ts.foldl put t := rfl
  rw [e]
  by_cases ht : t = []
  · subst ht
    show _ = join ts
    cases ts with
    | nil => rfl
    | cons x r =>
      rw [List.foldl_cons]
      have e : put [] x = x := rfl
      have hx := h x (List.mem_cons_self ..)
      rw [e, put_all r x hx, join_ne x r hx fun y hy => h y (List.mem_cons_of_mem _ hy)]
  · rw [put_all ts t ht, join_ne t ts ht h]
theorem joinP_more (ts : List Bytes) (t : Bytes) : joinP (ts ++ [t]) = put (joinP ts) t := by
  unfold joinP
  rw [List.foldl_append]
  rfl
theorem put_len (acc t : Bytes) : (put acc t).length ≤ acc.length + t.length + 1 := by
  unfold put
  split <;> simp only [List.length_append, List.length_cons] <;> omega
theorem joinP_len : ∀ (ls : List Bytes) (f : Bytes → Bytes), (∀ l, (f l).length ≤ l.length) → (joinP (ls.map f)).length ≤ LW ls := by
  intro ls f hf
  have h : ∀ (ls : List Bytes) (acc : Bytes), ((ls.map f).foldl put acc).length ≤ acc.length + LW ls := by
    intro ls
    induction ls with
    | nil => intro acc; exact Nat.le_add_right _ _
    | cons l ls ih =>
      intro acc
      rw [List.map_cons, List.foldl_cons, LW_cons]
      have h1 := ih (put acc (f l))
      have h2 := put_len acc (f l)
      have h3 := hf l
      omega
  have := h ls []
  simp only [List.length_nil, Nat.zero_add] at this
  exact this

/-! ### blocks without fuel -/
theorem blocks_any : ∀ (n m : Nat) (t : List Bytes), t.length ≤ n → t.length ≤ m → blocks n t = blocks m t
  | 0, m, [], _, _ => by cases m <;> rfl
  | 0, _, _ :: _, h, _ => by cases h
  | n + 1, 0, [], _, _ => rfl
  | n + 1, 0, _ :: _, _, h => by cases h
  | n + 1, m + 1, [], _, _ => rfl
  | n + 1, m + 1, l :: ls, h, h' => by
    have hr : ls.length ≤ n := Nat.le_of_succ_le_succ h
    have hr' : ls.length ≤ m := Nat.le_of_succ_le_succ h'
    have hd : ∀ k, blocks n (ls.drop k) = blocks m (ls.drop k) := fun k => blocks_any n m (ls.drop k) (by rw [List.length_drop]; omega) (by rw [List.length_drop]; omega)
    have h0 := blocks_any n m ls hr hr'
    unfold blocks
    cases lineOf l <;> simp only [hd, h0]
def blocksF (ls : List Bytes) : List Block := blocks ls.length ls
theorem blocksF_of {n : Nat} {ls : List Bytes} (h : ls.length ≤ n) : blocks n ls = blocksF ls := blocks_any n ls.length ls h (Nat.le_refl _)
theorem blocksF_nil : blocksF [] = [] := rfl
structure BlockM where
  kind : Nat
  number : Nat
  text : Bytes
  rows : List Bytes
def blockM : Block → BlockM
  | .para t => ⟨4, 0, t, []⟩
  | .heading n t => ⟨2, n, t, []⟩
  | .item d t => ⟨3, d, t, []⟩
  | .code t ls => ⟨1, 0, t, ls⟩
theorem drop_le (ls : List Bytes) (k : Nat) : (ls.drop k).length ≤ ls.length := by
  rw [List.length_drop]
  omega
theorem blocksF_blank {l : Bytes} {ls : List Bytes} (h : (lineM l).kind = 0) : blocksF (l :: ls) = blocksF ls := by
  show blocks (ls.length + 1) (l :: ls) = _
  unfold blocks
  unfold lineM at h
  cases e : lineOf l <;> rw [e] at h <;> cases h
  rfl
theorem blocksF_fence {l : Bytes} {ls : List Bytes} (h : (lineM l).kind = 1) : ∃ b, blocksF (l :: ls) = b :: blocksF (ls.drop (fenceLen ls + 1)) ∧ blockM b = ⟨1, 0, (lineM l).text, ls.take (fenceLen ls)⟩ := by
  unfold lineM at h ⊢
  cases e : lineOf l <;> rw [e] at h <;> cases h
  rename_i label
  refine ⟨.code label (ls.takeWhile fun x => decide (trim x ≠ FENCE)), ?_, ?_⟩
  · show blocks (ls.length + 1) (l :: ls) = _
    unfold blocks
    rw [e]
    dsimp only
    rw [blocksF_of (drop_le _ _)]
    rfl
  · have : ls.take (fenceLen ls) = _ := take_takeWhile (fun x => decide (trim x ≠ FENCE)) ls
    rw [this]
    rfl
/-- how many further lines a block of another kind holds -/
def tailLen (l : Bytes) (ls : List Bytes) : Nat := if (lineM l).kind = 2 then 0 else (plains ls).length
theorem blocksF_other {l : Bytes} {ls : List Bytes} (h0 : (lineM l).kind ≠ 0) (h1 : (lineM l).kind ≠ 1) : ∃ b, blocksF (l :: ls) = b :: blocksF (ls.drop (tailLen l ls)) ∧
    blockM b = ⟨(lineM l).kind, (lineM l).number, joinP ((l :: ls.take (tailLen l ls)).map fun x => (lineM x).text), []⟩ := by
  have hj : ∀ t, joinP (t :: (ls.take (plains ls).length).map fun x => (lineM x).text) = join (t :: plains ls) := fun t => by
    rw [← plains_texts, joinP_eq t _ (plains_ne ls)]
  rw [List.map_cons]
  unfold tailLen
  revert h0 h1
  have hl : lineM l = match lineOf l with
    | .blank => ⟨0, 0, [], l⟩
    | .fence t => ⟨1, 0, t, l⟩
    | .heading n t => ⟨2, n, t, l⟩
    | .item d t => ⟨3, d, t, l⟩
    | .plain t => ⟨4, 0, t, l⟩ := rfl
  rw [hl]
  have hb : blocksF (l :: ls) = blocks (ls.length + 1) (l :: ls) := rfl
  rw [hb]
  unfold blocks
  cases lineOf l with
  | blank => intro h; exact absurd rfl h
  | fence t => intro _ h; exact absurd rfl h
  | heading n t =>
    intro _ _
    exact ⟨_, rfl, rfl⟩
  | item d t =>
    intro _ _
    refine ⟨.item d (join (t :: plains ls)), ?_, ?_⟩
    · dsimp only
      rw [blocksF_of (drop_le _ _)]
      rfl
    · show (⟨3, d, _, []⟩ : BlockM) = ⟨3, d, joinP (t :: (ls.take (plains ls).length).map fun x => (lineM x).text), []⟩
      rw [hj]
  | plain t =>
    intro _ _
    refine ⟨.para (join (t :: plains ls)), ?_, ?_⟩
    · dsimp only
      rw [blocksF_of (drop_le _ _)]
      rfl
    · show (⟨4, 0, _, []⟩ : BlockM) = ⟨4, 0, joinP (t :: (ls.take (plains ls).length).map fun x => (lineM x).text), []⟩
      rw [hj]
theorem events_F (t : Bytes) : events t = merge (shown 0 (blocksF (lines t))) := rfl
end Mk
namespace Mk
open Ml

/-! ### events told one behind another: a text behind a text is one with it -/
def push (T : List Event) (e : Event) : List Event := match T.getLast? with
  | none => [e]
  | some l => if e.kind = 0 ∧ l.kind = 0 then T.dropLast ++ [⟨0, 0, l.bytes ++ e.bytes⟩] else T ++ [e]
abbrev pushAll (T : List Event) (es : List Event) : List Event := es.foldl push T
theorem push_nil (e : Event) : push [] e = [e] := rfl
theorem push_last (T : List Event) (l e : Event) : push (T ++ [l]) e = if e.kind = 0 ∧ l.kind = 0 then T ++ [⟨0, 0, l.bytes ++ e.bytes⟩] else T ++ [l] ++ [e] := by
  unfold push
  rw [List.getLast?_append]
  simp only [List.getLast?_singleton, Option.some_or]
  rw [List.dropLast_concat]
theorem push_other {T : List Event} {e : Event} (h : e.kind ≠ 0) : push T e = T ++ [e] := by
  unfold push
  split
  · rename_i h0
    rw [List.getLast?_eq_none_iff] at h0
    rw [h0]
    rfl
  · rw [if_neg (fun z => h z.1)]
theorem push_cons (f : Event) (q : List Event) (e : Event) (hq : q ≠ []) : push (f :: q) e = f :: push q e := by
  obtain ⟨q', l, rfl⟩ : ∃ q' l, q = q' ++ [l] := ⟨q.dropLast, q.getLast hq, (List.dropLast_concat_getLast hq).symm⟩
  rw [← List.cons_append, push_last, push_last]
  split <;> rfl
theorem merge_ne {r : List Event} (h : r ≠ []) : merge r ≠ [] := by
  cases r with
  | nil => exact absurd rfl h
  | cons x r =>
    unfold merge
    split
    · split
      · exact List.cons_ne_nil _ _
      · exact List.cons_ne_nil _ _
    · exact List.cons_ne_nil _ _
theorem merge_snoc : ∀ (r : List Event) (e : Event), merge (r ++ [e]) = push (merge r) e
  | [], e => rfl
  | x :: r, e => by
    show (match merge (r ++ [e]) with
      | f :: q => if x.kind = 0 ∧ f.kind = 0 then ⟨0, 0, x.bytes ++ f.bytes⟩ :: q else x :: f :: q
      | [] => [x]) = push (match merge r with
      | f :: q => if x.kind = 0 ∧ f.kind = 0 then ⟨0, 0, x.bytes ++ f.bytes⟩ :: q else x :: f :: q
      | [] => [x]) e
    rw [merge_snoc r e]
    cases hm : merge r with
    | nil =>
      rw [push_nil]
      dsimp only
      have := push_last [] x e
      rw [List.nil_append] at this
      rw [this]
      by_cases h1 : x.kind = 0
      · by_cases h2 : e.kind = 0
        · rw [if_pos ⟨h1, h2⟩, if_pos ⟨h2, h1⟩]
          rfl
        · rw [if_neg (fun z => h2 z.2), if_neg (fun z => h2 z.1)]
          rfl
      · rw [if_neg (fun z => h1 z.1), if_neg (fun z => h1 z.2)]
        rfl
    | cons f q =>
      cases q with
      | nil =>
        have := push_last [] f e
        rw [List.nil_append] at this
        rw [this]
        dsimp only
        by_cases h2 : e.kind = 0
        · by_cases h1 : f.kind = 0
          · rw [if_pos ⟨h2, h1⟩]
            dsimp only [List.nil_append]
            by_cases h0 : x.kind = 0
            · rw [if_pos ⟨h0, rfl⟩, if_pos ⟨h0, h1⟩]
              have := push_last [] ⟨0, 0, x.bytes ++ f.bytes⟩ e
              rw [List.nil_append] at this
              rw [this, if_pos ⟨h2, rfl⟩, List.append_assoc]
              rfl
            · rw [if_neg (fun z => h0 z.1), if_neg (fun z => h0 z.1), push_cons _ _ _ (List.cons_ne_nil _ _), this, if_pos ⟨h2, h1⟩]
              rfl
          · rw [if_neg (fun z => h1 z.2), if_neg (fun z => h1 z.2)]
            dsimp only [List.nil_append, List.cons_append]
            rw [if_neg (fun z => h1 z.2), push_cons _ _ _ (List.cons_ne_nil _ _), this, if_neg (fun z => h1 z.2)]
            rfl
        · rw [if_neg (fun z => h2 z.1)]
          dsimp only [List.nil_append, List.cons_append]
          by_cases h0 : x.kind = 0 ∧ f.kind = 0
          · rw [if_pos h0, if_pos h0, push_other h2]
            rfl
          · rw [if_neg h0, if_neg h0, push_other h2]
            rfl
      | cons g q =>
        rw [push_cons f (g :: q) e (List.cons_ne_nil _ _)]
        dsimp only
        split
        · rw [push_cons _ (g :: q) e (List.cons_ne_nil _ _)]
        · rw [push_cons _ (f :: g :: q) e (List.cons_ne_nil _ _), push_cons f (g :: q) e (List.cons_ne_nil _ _)]
theorem merge_push : ∀ (es : List Event), merge es = pushAll [] es := by
  have h : ∀ (es r : List Event), merge (r ++ es) = pushAll (merge r) es := by
    intro es
    induction es with
    | nil => intro r; rw [List.append_nil]; rfl
    | cons e es ih =>
      intro r
      have e1 : r ++ e :: es = (r ++ [e]) ++ es := by simp
      rw [e1, ih, merge_snoc]
      rfl
  intro es
  have := h es []
  rw [List.nil_append] at this
  exact this
theorem pushAll_append (T a b : List Event) : pushAll T (a ++ b) = pushAll (pushAll T a) b := List.foldl_append
theorem pushAll_cons (T : List Event) (e : Event) (b : List Event) : pushAll T (e :: b) = pushAll (push T e) b := rfl
/-- text events bear the number 0 -/
def Num0 (T : List Event) : Prop := ∀ e ∈ T, e.kind = 0 → e.num = 0
/-! ### sizes -/
def sz1 (e : Event) : Nat := e.bytes.length + 1
def sz (T : List Event) : Nat := (T.map sz1).sum
theorem sz_nil : sz [] = 0 := rfl
theorem sz_cons (e : Event) (T : List Event) : sz (e :: T) = sz1 e + sz T := by
  unfold sz
  rw [List.map_cons, List.sum_cons]
theorem sz_append (a b : List Event) : sz (a ++ b) = sz a + sz b := by
  unfold sz
  rw [List.map_append, List.sum_append]
theorem sz_one (e : Event) : sz [e] = sz1 e := by
  rw [sz_cons, sz_nil]
  rfl
theorem sz_push (T : List Event) (e : Event) : sz (push T e) ≤ sz T + sz1 e := by
  by_cases h : T = []
  · subst h
    rw [push_nil, sz_one, sz_nil]
    omega
  · obtain ⟨q, l, rfl⟩ : ∃ q l, T = q ++ [l] := ⟨T.dropLast, T.getLast h, (List.dropLast_concat_getLast h).symm⟩
    rw [push_last]
    split
    · rw [sz_append, sz_append, sz_one, sz_one]
      unfold sz1
      dsimp only
      rw [List.length_append]
      omega
    · rw [sz_append, sz_append, sz_one, sz_one]
      omega
theorem sz_pushAll : ∀ (es T : List Event), sz (pushAll T es) ≤ sz T + sz es
  | [], T => Nat.le_add_right _ _
  | e :: es, T => by
    rw [pushAll_cons, sz_cons]
    have h1 := sz_pushAll es (push T e)
    have h2 := sz_push T e
    omega
theorem sz_len : ∀ T : List Event, T.length ≤ sz T
  | [] => Nat.le_refl _
  | e :: T => by
    have := sz_len T
    rw [sz_cons, List.length_cons]
    unfold sz1
    omega
theorem sz_mem {T : List Event} {e : Event} (h : e ∈ T) : sz1 e ≤ sz T := by
  induction T with
  | nil => cases h
  | cons x T ih =>
    rw [sz_cons]
    rcases List.mem_cons.mp h with z | z
    · rw [z]
      omega
    · have := ih z
      omega
def tokW : Tok → Nat
  | .code b => b.length + 2
  | .lit _ => 2
  | _ => 1
def tokWs (l : List Tok) : Nat := (l.map tokW).sum
theorem tokWs_cons (t : Tok) (l : List Tok) : tokWs (t :: l) = tokW t + tokWs l := by
  unfold tokWs
  rw [List.map_cons, List.sum_cons]
theorem tokW_pos (t : Tok) : 1 ≤ tokW t := by
  cases t <;> simp [tokW]
theorem tokWs_len : ∀ l : List Tok, l.length ≤ tokWs l
  | [] => Nat.le_refl _
  | t :: l => by
    have h1 := tokWs_len l
    have h2 := tokW_pos t
    rw [tokWs_cons, List.length_cons]
    omega
theorem tokWs_split (n : Nat) : ∀ l : List Tok, tokWs l = tokWs (l.take n) + tokWs (l.drop n) := by
  intro l
  unfold tokWs
  rw [← List.sum_append, ← List.map_append, List.take_append_drop]
theorem lex_w : ∀ (n : Nat) (t : Bytes), tokWs (lex n t) ≤ t.length
  | 0, t => by unfold lex; exact Nat.zero_le _
  | n + 1, [] => Nat.le_refl _
  | n + 1, c :: r => by
    have hb : ∀ k : Tok, tokW k = 1 → tokWs (k :: lex n r) ≤ (c :: r).length := fun k hk => by
      rw [tokWs_cons, hk, List.length_cons]
      have := lex_w n r
      omega
    unfold lex
    split
    · cases r with
      | nil =>
        show tokWs [.ch 92] ≤ _
        exact Nat.le_refl _
      | cons x q =>
        dsimp only
        split
        · rw [tokWs_cons]
          have := lex_w n q
          simp only [List.length_cons, tokW]
          omega
        · exact hb (.ch 92) rfl
    · split
      · dsimp only
        split
        · rename_i h
          rw [tokWs_cons]
          have h1 := lex_w n (r.drop ((r.takeWhile fun x => x != 96).length + 1))
          rw [List.length_drop] at h1
          simp only [List.length_cons, tokW]
          omega
        · exact hb (.ch 96) rfl
      · split
        · exact hb .star rfl
        · split
          · exact hb .lbr rfl
          · split
            · exact hb .rbr rfl
            · exact hb (.ch c) rfl
def pieceW : Piece → Nat
  | .tok t => tokW t
  | .link l u => tokWs l + u.length + 4
def pieceWs (l : List Piece) : Nat := (l.map pieceW).sum
theorem pieceWs_cons (t : Piece) (l : List Piece) : pieceWs (t :: l) = pieceW t + pieceWs l := by
  unfold pieceWs
  rw [List.map_cons, List.sum_cons]
theorem pieceW_pos (t : Piece) : 1 ≤ pieceW t := by
  cases t with
  | tok t => exact tokW_pos t
  | link l u => show 1 ≤ _ + 4; omega
theorem pieceWs_len : ∀ l : List Piece, l.length ≤ pieceWs l
  | [] => Nat.le_refl _
  | t :: l => by
    have h1 := pieceWs_len l
    have h2 := pieceW_pos t
    rw [pieceWs_cons, List.length_cons]
    omega
theorem pieceWs_mem {l : List Piece} {x : Piece} (h : x ∈ l) : pieceW x ≤ pieceWs l := by
  induction l with
  | nil => cases h
  | cons y l ih =>
    rw [pieceWs_cons]
    rcases List.mem_cons.mp h with z | z
    · rw [z]
      omega
    · have := ih z
      omega
theorem pieceWs_split (n : Nat) (l : List Piece) : pieceWs l = pieceWs (l.take n) + pieceWs (l.drop n) := by
  unfold pieceWs
  rw [← List.sum_append, ← List.map_append, List.take_append_drop]
theorem pieceWs_tok : ∀ l : List Tok, pieceWs (l.map .tok) = tokWs l
  | [] => rfl
  | t :: l => by
    rw [List.map_cons, pieceWs_cons, tokWs_cons, pieceWs_tok l]
    rfl
theorem linksF_w : ∀ (n : Nat) (r : List Tok), r.length ≤ n → pieceWs (linksF r) ≤ tokWs r
  | _, [], _ => Nat.le_refl _
  | 0, _ :: _, h => by cases h
  | n + 1, t :: r, h => by
    have hr : r.length ≤ n := Nat.le_of_succ_le_succ h
    have ih := linksF_w n r hr
    by_cases ht : t = .lbr
    · subst ht
      by_cases hl : isLink r
      · rw [linksF_link hl, pieceWs_cons]
        obtain ⟨h0, h1, h2, h3⟩ := hl
        have e1 := tokWs_split (inLen r) r
        rw [drop_cons_of h1, drop_cons_of h2, tokWs_cons, tokWs_cons] at e1
        have e2 := tokWs_split (adLen (r.drop (inLen r + 2))) (r.drop (inLen r + 2))
        rw [drop_cons_of h3, tokWs_cons] at e2
        have e3 := linksF_w n (r.drop (inLen r + 2 + adLen (r.drop (inLen r + 2)) + 1)) (by rw [List.length_drop]; omega)
        have e4 : ((r.drop (inLen r + 2)).drop (adLen (r.drop (inLen r + 2)) + 1)) = r.drop (inLen r + 2 + adLen (r.drop (inLen r + 2)) + 1) := by
          rw [List.drop_drop]
          congr 1
        rw [e4] at e2
        have e5 : r.drop (inLen r + 1 + 1) = r.drop (inLen r + 2) := rfl
        rw [e5] at e1
        have e6 : (((r.drop (inLen r + 2)).take (adLen (r.drop (inLen r + 2)))).filterMap urlByte).length ≤ tokWs ((r.drop (inLen r + 2)).take (adLen (r.drop (inLen r + 2)))) :=
          Nat.le_trans (List.length_filterMap_le _ _) (tokWs_len _)
        rw [tokWs_cons]
        have w1 : tokW .lbr = 1 := rfl
        have w2 : tokW .rbr = 1 := rfl
        have w3 : tokW (.ch 40) = 1 := rfl
        have w4 : tokW (.ch 41) = 1 := rfl
        rw [w1]
        rw [w2, w3] at e1
        rw [w4] at e2
        show tokWs _ + _ + 4 + _ ≤ _
        omega
      · rw [linksF_lbr hl, pieceWs_cons, tokWs_cons]
        show tokW .lbr + _ ≤ _
        omega
    · rw [linksF_tok ht, pieceWs_cons, tokWs_cons]
      show tokW t + _ ≤ _
      omega
theorem flatMap_sz {α : Type} (shown : α → List Event) (wt : α → Nat) (h : ∀ x, sz (shown x) ≤ wt x) : ∀ l : List α, sz (l.flatMap shown) ≤ (l.map wt).sum
  | [] => Nat.le_refl _
  | x :: l => by
    rw [List.flatMap_cons, sz_append, List.map_cons, List.sum_cons]
    have h1 := h x
    have h2 := flatMap_sz shown wt h l
    omega
theorem emph_sz {α : Type} (star blank : α → Bool) (shown : α → List Event) (wt : α → Nat) (h : ∀ x, sz (shown x) ≤ wt x) (h1 : ∀ x, 1 ≤ wt x) : ∀ (n : Nat) (l : List α), sz (emph star blank shown n l) ≤ (l.map wt).sum
  | 0, l => by unfold emph; exact Nat.zero_le _
  | n + 1, [] => Nat.le_refl _
  | n + 1, x :: r => by
    have ih := emph_sz star blank shown wt h h1 n r
    have hx := h x
    have base : sz (shown x ++ emph star blank shown n r) ≤ ((x :: r).map wt).sum := by
      rw [sz_append, List.map_cons, List.sum_cons]
      omega
    unfold emph
    split
    · cases r with
      | nil =>
        dsimp only
        rw [List.map_cons, List.sum_cons]
        omega
      | cons y q =>
        dsimp only
        split
        · rename_i j hj
          have hj' : j < q.length := by
            split at hj
            · cases hj
            · exact closing_lt hj
          have e1 := flatMap_sz shown wt h (y :: q.take j)
          have e2 := emph_sz star blank shown wt h h1 n (q.drop (j + 1))
          obtain ⟨z, hz, _⟩ := drop_lt hj'
          have e3 : (q.map wt).sum = ((q.take j).map wt).sum + (wt z + ((q.drop (j + 1)).map wt).sum) := by
            have : q = q.take j ++ z :: q.drop (j + 1) := by rw [← drop_cons_of hz, List.take_append_drop]
            conv => lhs; rw [this]
            rw [List.map_append, List.sum_append, List.map_cons, List.sum_cons]
          have e4 := h1 x
          have e5 := h1 z
          rw [sz_append, sz_append, sz_append, sz_one, sz_one]
          rw [List.map_cons, List.sum_cons] at e1
          rw [List.map_cons, List.map_cons, List.sum_cons, List.sum_cons, e3]
          have s1 : sz1 (ev 13) = 1 := rfl
          have s2 : sz1 (ev 14) = 1 := rfl
          rw [s1, s2]
          omega
        · exact base
    · exact base
theorem tok_sz (t : Tok) : sz t.events ≤ 2 * tokW t := by
  cases t <;> simp only [Tok.events, sz_one, sz1, tokW, List.length_cons, List.length_nil] <;> omega
theorem piece_sz (p : Piece) : sz p.events ≤ 2 * pieceW p := by
  cases p with
  | tok t => exact tok_sz t
  | link l u =>
    show sz ([⟨15, 0, u⟩] ++ emph Tok.isStar Tok.isBlank Tok.events l.length l ++ [ev 16]) ≤ 2 * (tokWs l + u.length + 4)
    have e := emph_sz Tok.isStar Tok.isBlank Tok.events (fun t => 2 * tokW t) tok_sz (fun t => by have := tokW_pos t; omega) l.length l
    have e2 : (l.map fun t => 2 * tokW t).sum = 2 * tokWs l := by
      unfold tokWs
      induction l with
      | nil => rfl
      | cons x r ih =>
        rw [List.map_cons, List.sum_cons, List.map_cons, List.sum_cons]
        have := emph_sz Tok.isStar Tok.isBlank Tok.events (fun t => 2 * tokW t) tok_sz (fun t => by have := tokW_pos t; omega) r.length r
        have := ih this
        omega
    rw [sz_append, sz_append, sz_one, sz_one]
    unfold sz1 ev
    dsimp only [List.length_nil]
    omega
theorem emphP_sz (l : List Piece) : sz (emphP l) ≤ 2 * pieceWs l := by
  have e := emph_sz Piece.isStar Piece.isBlank Piece.events (fun t => 2 * pieceW t) piece_sz (fun t => by have := pieceW_pos t; omega) l.length l
  have e2 : ∀ l : List Piece, (l.map fun t => 2 * pieceW t).sum = 2 * pieceWs l := by
    intro l
    unfold pieceWs
    induction l with
    | nil => rfl
    | cons x r ih =>
      rw [List.map_cons, List.sum_cons, List.map_cons, List.sum_cons]
      omega
  rw [e2] at e
  exact e
theorem running_sz (t : Bytes) : sz (running t) ≤ 2 * t.length := by
  rw [running_F]
  have h1 := emphP_sz (linksF (lexF t))
  have h2 := linksF_w _ (lexF t) (Nat.le_refl _)
  have h3 := lex_w t.length t
  have h4 : lexF t = lex t.length t := rfl
  rw [h4] at h1 h2
  rw [h4]
  omega
/-! ### blocks' sizes -/
def blockW (b : Block) : Nat := (blockM b).text.length + LW (blockM b).rows
def blockWs (bs : List Block) : Nat := (bs.map fun b => blockW b + 1).sum
theorem blockWs_cons (b : Block) (bs : List Block) : blockWs (b :: bs) = blockW b + 1 + blockWs bs := by
  unfold blockWs
  rw [List.map_cons, List.sum_cons]
theorem blockWs_len : ∀ l : List Block, l.length ≤ blockWs l
  | [] => Nat.le_refl _
  | t :: l => by
    have h1 := blockWs_len l
    rw [blockWs_cons, List.length_cons]
    omega
theorem tailLen_le (l : Bytes) (ls : List Bytes) : tailLen l ls ≤ ls.length := by
  unfold tailLen
  split
  · exact Nat.zero_le _
  · exact plains_len ls
/-- texts joined, with room to spare: one byte less than their weight -/
theorem put_all_len (f : Bytes → Bytes) (hf : ∀ l, (f l).length ≤ l.length) : ∀ (ls : List Bytes) (acc : Bytes), ((ls.map f).foldl put acc).length ≤ acc.length + LW ls
  | [], acc => Nat.le_add_right _ _
  | l :: ls, acc => by
    rw [List.map_cons, List.foldl_cons, LW_cons]
    have h1 := put_all_len f hf ls (put acc (f l))
    have h2 := put_len acc (f l)
    have h3 := hf l
    omega
theorem joinP_len1 (l : Bytes) (ls : List Bytes) : (joinP ((l :: ls).map fun x => (lineM x).text)).length + 1 ≤ LW (l :: ls) := by
  have h := put_all_len (fun x => (lineM x).text) lineM_text_len ls (put [] ((lineM l).text))
  have e : put [] ((lineM l).text) = (lineM l).text := rfl
  rw [e] at h
  have h2 := lineM_text_len l
  rw [LW_cons]
  have e2 : joinP ((l :: ls).map fun x => (lineM x).text) = (ls.map fun x => (lineM x).text).foldl put ((lineM l).text) := rfl
  rw [e2]
  omega
theorem blocksF_w : ∀ (n : Nat) (ls : List Bytes), ls.length ≤ n → blockWs (blocksF ls) ≤ LW ls
  | _, [], _ => Nat.le_refl _
  | 0, _ :: _, h => by cases h
  | n + 1, l :: ls, h => by
    have hr : ls.length ≤ n := Nat.le_of_succ_le_succ h
    by_cases h0 : (lineM l).kind = 0
    · rw [blocksF_blank h0, LW_cons]
      have := blocksF_w n ls hr
      omega
    · by_cases h1 : (lineM l).kind = 1
      · obtain ⟨b, e1, e2⟩ := blocksF_fence (ls := ls) h1
        rw [e1, blockWs_cons, LW_cons]
        have e3 : blockW b = (lineM l).text.length + LW (ls.take (fenceLen ls)) := by
          unfold blockW
          rw [e2]
        have e4 := lineM_text_len l
        have e5 := LW_take_drop (fenceLen ls) ls
        have e6 := blocksF_w n (ls.drop (fenceLen ls + 1)) (Nat.le_trans (drop_le _ _) hr)
        have e7 : LW (ls.drop (fenceLen ls + 1)) ≤ LW (ls.drop (fenceLen ls)) := by
          have := LW_take_drop 1 (ls.drop (fenceLen ls))
          rw [List.drop_drop] at this
          omega
        omega
      · obtain ⟨b, e1, e2⟩ := blocksF_other (ls := ls) h0 h1
        rw [e1, blockWs_cons]
        have e3 : blockW b = (joinP ((l :: ls.take (tailLen l ls)).map fun x => (lineM x).text)).length := by
          unfold blockW
          rw [e2]
          rfl
        have e4 := joinP_len1 l (ls.take (tailLen l ls))
        rw [LW_cons] at e4
        have e5 := LW_take_drop (tailLen l ls) ls
        have e6 := blocksF_w n (ls.drop (tailLen l ls)) (Nat.le_trans (drop_le _ _) hr)
        rw [LW_cons]
        omega
theorem leave_sz : ∀ o : Nat, sz (leave o) = 2 * o
  | 0 => rfl
  | o + 1 => by
    show sz ([ev 9, ev 7] ++ leave o) = _
    rw [sz_append, leave_sz o, sz_cons, sz_one]
    show 1 + 1 + 2 * o = _
    omega
theorem rows_sz : ∀ ls : List Bytes, sz (ls.map fun l => (⟨11, 0, l⟩ : Event)) = LW ls
  | [] => rfl
  | l :: ls => by
    rw [List.map_cons, sz_cons, rows_sz ls, LW_cons]
    rfl
theorem shown_sz : ∀ (bs : List Block) (o : Nat), sz (shown o bs) ≤ 2 * o + 4 * blockWs bs
  | [], o => by
    show sz (leave o) ≤ _
    rw [leave_sz]
    omega
  | .item d t :: r, o => by
    have ih := shown_sz r (min d o + 1)
    have e1 := running_sz t
    show sz ((if o ≤ d then [ev 6, ev 8] else leave (o - 1 - d) ++ [ev 9, ev 8]) ++ running t ++ shown (min d o + 1) r) ≤ _
    rw [sz_append, sz_append, blockWs_cons]
    have e2 : blockW (.item d t) = t.length := rfl
    rw [e2]
    split
    · have e3 : sz [ev 6, ev 8] = 2 := rfl
      rw [e3]
      omega
    · rw [sz_append, leave_sz]
      have e3 : sz [ev 9, ev 8] = 2 := rfl
      rw [e3]
      omega
  | .para t :: r, o => by
    have ih := shown_sz r 0
    have e1 := running_sz t
    show sz (leave o ++ [ev 2] ++ running t ++ [ev 3] ++ shown 0 r) ≤ _
    rw [sz_append, sz_append, sz_append, sz_append, leave_sz, blockWs_cons]
    have e2 : blockW (.para t) = t.length := rfl
    have e3 : sz [ev 2] = 1 := rfl
    have e4 : sz [ev 3] = 1 := rfl
    rw [e2, e3, e4]
    omega
  | .heading n t :: r, o => by
    have ih := shown_sz r 0
    have e1 := running_sz t
    show sz (leave o ++ [⟨4, n, []⟩] ++ running t ++ [⟨5, n, []⟩] ++ shown 0 r) ≤ _
    rw [sz_append, sz_append, sz_append, sz_append, leave_sz, blockWs_cons]
    have e2 : blockW (.heading n t) = t.length := rfl
    have e3 : sz [⟨4, n, []⟩] = 1 := rfl
    have e4 : sz [⟨5, n, []⟩] = 1 := rfl
    rw [e2, e3, e4]
    omega
  | .code label ls :: r, o => by
    have ih := shown_sz r 0
    show sz (leave o ++ [⟨10, 0, label⟩] ++ ls.map (fun l => ⟨11, 0, l⟩) ++ [ev 12] ++ shown 0 r) ≤ _
    rw [sz_append, sz_append, sz_append, sz_append, leave_sz, blockWs_cons, rows_sz]
    have e2 : blockW (.code label ls) = label.length + LW ls := rfl
    have e3 : sz [⟨10, 0, label⟩] = label.length + 1 := rfl
    have e4 : sz [ev 12] = 1 := rfl
    rw [e2, e3, e4]
    omega
theorem text_sz (t : Bytes) : sz (shown 0 (blocksF (lines t))) ≤ 4 * (t.length + 1) := by
  have h1 := shown_sz (blocksF (lines t)) 0
  have h2 := blocksF_w _ (lines t) (Nat.le_refl _)
  rw [LW_lines] at h2
  omega
theorem blockWs_mem {l : List Block} {b : Block} (h : b ∈ l) : blockW b + 1 ≤ blockWs l := by
  induction l with
  | nil => cases h
  | cons y l ih =>
    rw [blockWs_cons]
    rcases List.mem_cons.mp h with z | z
    · rw [z]
      omega
    · have := ih z
      omega
theorem text_w {t : Bytes} {b : Block} (h : b ∈ blocksF (lines t)) : blockW b ≤ t.length := by
  have h1 := blockWs_mem h
  have h2 := blocksF_w _ (lines t) (Nat.le_refl _)
  rw [LW_lines] at h2
  omega
/-! ### blocks' events, one at a time -/
theorem leave_snoc : ∀ n : Nat, leave n ++ [ev 9, ev 7] = leave (n + 1)
  | 0 => rfl
  | n + 1 => by
    show [ev 9, ev 7] ++ leave n ++ [ev 9, ev 7] = [ev 9, ev 7] ++ leave (n + 1)
    rw [List.append_assoc, leave_snoc n]
def itemE (o d : Nat) (t : Bytes) : List Event := (if o ≤ d then [ev 6, ev 8] else leave (o - 1 - d) ++ [ev 9, ev 8]) ++ running t
def blockE : Block → List Event
  | .para t => ev 2 :: (running t ++ [ev 3])
  | .heading n t => ⟨4, n, []⟩ :: (running t ++ [⟨5, n, []⟩])
  | .item _ t => running t
  | .code label ls => ⟨10, 0, label⟩ :: (ls.map (fun l => ⟨11, 0, l⟩) ++ [ev 12])
def isItem : Block → Bool
  | .item _ _ => true
  | _ => false
theorem shown_nil (o : Nat) : shown o [] = leave o := rfl
theorem shown_item (o d : Nat) (t : Bytes) (r : List Block) : shown o (.item d t :: r) = itemE o d t ++ shown (min d o + 1) r := rfl
theorem shown_block {b : Block} (h : isItem b = false) (o : Nat) (r : List Block) : shown o (b :: r) = leave o ++ (blockE b ++ shown 0 r) := by
  cases b with
  | item d t => cases h
  | para t =>
    show leave o ++ [ev 2] ++ running t ++ [ev 3] ++ shown 0 r = leave o ++ (ev 2 :: (running t ++ [ev 3]) ++ shown 0 r)
    simp only [List.append_assoc, List.cons_append, List.nil_append]
  | heading n t =>
    show leave o ++ [⟨4, n, []⟩] ++ running t ++ [⟨5, n, []⟩] ++ shown 0 r = leave o ++ (⟨4, n, []⟩ :: (running t ++ [⟨5, n, []⟩]) ++ shown 0 r)
    simp only [List.append_assoc, List.cons_append, List.nil_append]
  | code label ls =>
    show leave o ++ [⟨10, 0, label⟩] ++ ls.map (fun l => ⟨11, 0, l⟩) ++ [ev 12] ++ shown 0 r = leave o ++ (⟨10, 0, label⟩ :: (ls.map (fun l => ⟨11, 0, l⟩) ++ [ev 12]) ++ shown 0 r)
    simp only [List.append_assoc, List.cons_append, List.nil_append]
theorem item_kind (b : Block) : decide (((blockM b).kind : Int) = 3) = isItem b := by
  cases b <;> rfl
end Mk
namespace Mk
open Ml

/-! ### a line of calls as one list of whole numbers -/
def byteInts (b : Bytes) : List Int := b.map fun (c : UInt8) => (c.toNat : Int)
def flatM : Mark.Call → List Int
  | .begin_ => [1]
  | .feed t => 2 :: (t.length : Int) :: byteInts t
  | .end_ => [3]
  | .event i => [4, (i : Int)]
  | .html => [5]
  | .all t => 6 :: (t.length : Int) :: byteInts t
  | .lines t => 7 :: (t.length : Int) :: byteInts t
def okM : Mark.Call → Prop
  | .feed t => t.length ≤ 17000
  | .all t => t.length ≤ 2200
  | .lines t => t.length ≤ 2200
  | _ => True
/-- the answers of calls one behind another -/
def playedM : Mark.State → List Mark.Call → List (List Int)
  | _, [] => []
  | s, c :: r => (Mark.step s c).2 :: playedM (Mark.step s c).1 r
theorem byteInts_text : ∀ l : List Int, l.all (PyInside.within 0 255) = true → byteInts (MarkNeutral.text l) = l
  | [], _ => rfl
  | z :: r, h => by
    rw [List.all_cons, Bool.and_eq_true] at h
    have ih := byteInts_text r h.2
    have h1 := h.1
    unfold PyInside.within at h1
    rw [Bool.and_eq_true, decide_eq_true_iff, decide_eq_true_iff] at h1
    show ((UInt8.ofNat z.toNat).toNat : Int) :: byteInts (MarkNeutral.text r) = z :: r
    rw [ih]
    congr 1
    rw [UInt8.toNat_ofNat']
    omega
theorem text_length (l : List Int) : (MarkNeutral.text l).length = l.length := by
  unfold MarkNeutral.text MarkNeutral.nats
  rw [List.length_map, List.length_map]
theorem row_inv {l r t : List Int} (h : PyFlat.row l = some (r, t)) : l = (r.length : Int) :: r ++ t := by
  cases l with
  | nil => cases h
  | cons n q =>
    unfold PyFlat.row at h
    dsimp only at h
    split at h
    · rename_i c
      cases h
      obtain ⟨c1, c2⟩ := c
      rw [List.cons_append, List.take_append_drop, List.length_take, Nat.min_eq_left c2]
      congr 1
      omega
    · cases h
theorem rows1_inv {l t : List Int} {xs : List (List Int)} (h : PyFlat.rows 1 l = some (xs, t)) : ∃ r, xs = [r] ∧ l = (r.length : Int) :: r ++ t := by
  unfold PyFlat.rows at h
  split at h
  · cases h
  · rename_i x s hr
    unfold PyFlat.rows at h
    dsimp only at h
    cases h
    exact ⟨x, rfl, row_inv hr⟩
theorem call_inv {l t : List Int} {c : List (List Int)} (h : PyFlat.call PyWqagaf.shape l = some (c, t)) (hb : PyInside.call PyWqagaf.bound c = true) : ∃ m, l = flatM m ++ t ∧ okM m ∧ MarkNeutral.callOf (PyWqagaf.whole c) = some m := by
  cases l with
  | nil => cases h
  | cons p r =>
    have lists1 : ∀ (lo hi : Int) (a b : Nat) (q : List Int), PyInside.lists [(lo, hi, a, b)] [q] = true → q.length ≤ b ∧ q.all (PyInside.within lo hi) = true := fun lo hi a b q z => by
      unfold PyInside.lists at z
      rw [Bool.and_eq_true, Bool.and_eq_true, Bool.and_eq_true] at z
      exact ⟨of_decide_eq_true z.1.1.2, z.1.2⟩
    have row : ∀ {xs : List (List Int)} {u : List Int}, PyFlat.rows 1 (r.drop 0) = some (xs, u) → ∃ q, xs = [q] ∧ r = (q.length : Int) :: q ++ u := fun z => rows1_inv z
    by_cases h1 : p = 1
    · subst h1
      unfold PyFlat.call at h
      cases h
      exact ⟨.begin_, rfl, trivial, rfl⟩
    by_cases h2 : p = 2
    · subst h2
      have e : PyFlat.call PyWqagaf.shape (2 :: r) = match PyFlat.rows 1 (r.drop 0) with
        | none => none
        | some (xs, t) => some ((2 :: r.take 0) :: xs, t) := rfl
      rw [e] at h
      split at h
      · cases h
      · rename_i xs u hr
        cases h
        obtain ⟨q, rfl, rfl⟩ := row hr
        have hb' : PyInside.lists [(0, 255, 0, 17000)] [q] = true := hb
        obtain ⟨b1, b2⟩ := lists1 _ _ _ _ _ hb'
        refine ⟨.feed (MarkNeutral.text q), ?_, by rw [← text_length] at b1; exact b1, rfl⟩
        show _ = 2 :: ((MarkNeutral.text q).length : Int) :: byteInts (MarkNeutral.text q) ++ t
        rw [byteInts_text q b2, text_length]
        rfl
    by_cases h3 : p = 3
    · subst h3
      unfold PyFlat.call at h
      cases h
      exact ⟨.end_, rfl, trivial, rfl⟩
    by_cases h4 : p = 4
    · subst h4
      have e : PyFlat.call PyWqagaf.shape (4 :: r) = if r.length < 1 then none else some ([4 :: r.take 1], r.drop 1) := rfl
      rw [e] at h
      split at h
      · cases h
      · rename_i hr
        cases h
        cases r with
        | nil => exact absurd Nat.zero_lt_one hr
        | cons i r =>
          have hb' : (PyInside.within 0 4294967295 i && true && true) = true := hb
          rw [Bool.and_true, Bool.and_true] at hb'
          unfold PyInside.within at hb'
          rw [Bool.and_eq_true, decide_eq_true_iff, decide_eq_true_iff] at hb'
          refine ⟨.event i.toNat, ?_, trivial, rfl⟩
          show _ = 4 :: (i.toNat : Int) :: ([] ++ r)
          rw [Int.toNat_of_nonneg hb'.1]
          rfl
    by_cases h5 : p = 5
    · subst h5
      unfold PyFlat.call at h
      cases h
      exact ⟨.html, rfl, trivial, rfl⟩
    by_cases h6 : p = 6
    · subst h6
      have e : PyFlat.call PyWqagaf.shape (6 :: r) = match PyFlat.rows 1 (r.drop 0) with
        | none => none
        | some (xs, t) => some ((6 :: r.take 0) :: xs, t) := rfl
      rw [e] at h
      split at h
      · cases h
      · rename_i xs u hr
        cases h
        obtain ⟨q, rfl, rfl⟩ := row hr
        have hb' : PyInside.lists [(0, 255, 0, 2200)] [q] = true := hb
        obtain ⟨b1, b2⟩ := lists1 _ _ _ _ _ hb'
        refine ⟨.all (MarkNeutral.text q), ?_, by rw [← text_length] at b1; exact b1, rfl⟩
        show _ = 6 :: ((MarkNeutral.text q).length : Int) :: byteInts (MarkNeutral.text q) ++ t
        rw [byteInts_text q b2, text_length]
        rfl
    by_cases h7 : p = 7
    · subst h7
      have e : PyFlat.call PyWqagaf.shape (7 :: r) = match PyFlat.rows 1 (r.drop 0) with
        | none => none
        | some (xs, t) => some ((7 :: r.take 0) :: xs, t) := rfl
      rw [e] at h
      split at h
      · cases h
      · rename_i xs u hr
        cases h
        obtain ⟨q, rfl, rfl⟩ := row hr
        have hb' : PyInside.lists [(0, 255, 0, 2200)] [q] = true := hb
        obtain ⟨b1, b2⟩ := lists1 _ _ _ _ _ hb'
        refine ⟨.lines (MarkNeutral.text q), ?_, by rw [← text_length] at b1; exact b1, rfl⟩
        show _ = 7 :: ((MarkNeutral.text q).length : Int) :: byteInts (MarkNeutral.text q) ++ t
        rw [byteInts_text q b2, text_length]
        rfl
    exfalso
    unfold PyFlat.call PyWqagaf.shape at h
    dsimp only at h
    rw [if_neg h1, if_neg h2, if_neg h3, if_neg h4, if_neg h5, if_neg h6, if_neg h7] at h
    cases h
theorem calls_inv : ∀ (f : Nat) (l : List Int) (raw : List (List (List Int))), PyFlat.calls PyWqagaf.shape f l = some raw → PyInside.calls PyWqagaf.bound raw = true →
    ∃ cs : List Mark.Call, l = cs.flatMap flatM ∧ (∀ c ∈ cs, okM c) ∧ ∀ s, PyFlat.played MarkNeutral.step s (raw.map PyWqagaf.whole) = playedM s cs
  | f, [], raw, h, _ => by
    have e : PyFlat.calls PyWqagaf.shape f [] = some [] := by cases f <;> rfl
    rw [e] at h
    cases h
    exact ⟨[], rfl, nofun, fun _ => rfl⟩
  | 0, _ :: _, _, h, _ => by cases h
  | f + 1, p :: r, raw, h, hb => by
    have e : PyFlat.calls PyWqagaf.shape (f + 1) (p :: r) = match PyFlat.call PyWqagaf.shape (p :: r) with
      | none => none
      | some (c, t) => match PyFlat.calls PyWqagaf.shape f t with
        | none => none
        | some cs => some (c :: cs) := rfl
    rw [e] at h
    split at h
    · cases h
    · rename_i c t hc
      split at h
      · cases h
      · rename_i cs hcs
        cases h
        have hb' : (PyInside.call PyWqagaf.bound c && PyInside.calls PyWqagaf.bound cs) = true := hb
        rw [Bool.and_eq_true] at hb'
        obtain ⟨m, e1, e2, e3⟩ := call_inv hc hb'.1
        obtain ⟨ms, f1, f2, f3⟩ := calls_inv f t cs hcs hb'.2
        refine ⟨m :: ms, ?_, fun x hx => ?_, fun s => ?_⟩
        · rw [List.flatMap_cons, ← f1]
          exact e1
        · rcases List.mem_cons.mp hx with z | z
          · rw [z]
            exact e2
          · exact f2 x z
        · have e4 : MarkNeutral.step s (PyWqagaf.whole c) = Mark.step s m := by
            unfold MarkNeutral.step
            rw [e3]
          show (MarkNeutral.step s (PyWqagaf.whole c)).2 :: PyFlat.played MarkNeutral.step (MarkNeutral.step s (PyWqagaf.whole c)).1 (cs.map PyWqagaf.whole) = _
          rw [e4, f3]
          rfl
/-- **what is asked, call by call** -/
theorem asked_inv {l : List Int} (h : PyWqagaf.answers_asked l = true) : ∃ cs : List Mark.Call, l = cs.flatMap flatM ∧ (∀ c ∈ cs, okM c) ∧ PyWqagaf.answers l = PyFlat.told (playedM Mark.start cs) ∧ (PyFlat.told (playedM Mark.start cs)).length ≤ 10000000 := by
  unfold PyWqagaf.answers_asked at h
  split at h
  · cases h
  · rename_i raw hr
    rw [Bool.and_eq_true, Bool.and_eq_true, Bool.and_eq_true, Bool.and_eq_true] at h
    obtain ⟨cs, e1, e2, e3⟩ := calls_inv _ _ _ hr h.1.1.2
    have e4 : PyWqagaf.answers l = PyFlat.told (playedM Mark.start cs) := by
      unfold PyWqagaf.answers PyWqagaf.calls
      rw [hr]
      dsimp only
      rw [e3]
      rfl
    refine ⟨cs, e1, e2, e4, ?_⟩
    rw [← e4]
    exact of_decide_eq_true h.2
theorem playedM_append : ∀ (a b : List Mark.Call) (s : Mark.State), playedM s (a ++ b) = playedM s a ++ playedM (a.foldl (fun s c => (Mark.step s c).1) s) b
  | [], _, _ => rfl
  | c :: a, b, s => by
    show (Mark.step s c).2 :: playedM (Mark.step s c).1 (a ++ b) = _
    rw [playedM_append a b]
    rfl
theorem told_append (a b : List (List Int)) : PyFlat.told (a ++ b) = PyFlat.told a ++ PyFlat.told b := List.flatMap_append
theorem told_one (a : List Int) : PyFlat.told [a] = (a.length : Int) :: a := by
  show ((a.length : Int) :: a) ++ [] = _
  rw [List.append_nil]
end Mk
namespace Mk
open Ml

/-! ### html, all, lines: how long their answers are -/
def esc1 (c : UInt8) : Bytes := if c = 38 then ascii "&amp;" else if c = 60 then ascii "&lt;" else if c = 62 then ascii "&gt;" else if c = 34 then ascii "&quot;" else [c]
theorem esc_cons (c : UInt8) (r : Bytes) : esc (c :: r) = esc1 c ++ esc r := rfl
theorem esc_append (a b : Bytes) : esc (a ++ b) = esc a ++ esc b := List.flatMap_append
theorem esc1_len (c : UInt8) : (esc1 c).length ≤ 6 := by
  unfold esc1
  split
  · decide +kernel
  · split
    · decide +kernel
    · split
      · decide +kernel
      · split
        · decide +kernel
        · exact Nat.le_add_left 1 5
theorem esc_len : ∀ b : Bytes, (esc b).length ≤ 6 * b.length
  | [] => Nat.le_refl _
  | c :: r => by
    have h1 := esc1_len c
    have h2 := esc_len r
    rw [esc_cons, List.length_append, List.length_cons]
    omega
theorem html1_len (e : Event) : e.html.length ≤ 32 * sz1 e := by
  have h := esc_len e.bytes
  have a1 : (ascii "<code>").length = 6 := by decide +kernel
  have a2 : (ascii "</code>").length = 7 := by decide +kernel
  have a3 : (ascii "<p>").length = 3 := by decide +kernel
  have a4 : (ascii "</p>\n").length = 5 := by decide +kernel
  have a5 : (ascii "<h").length = 2 := by decide +kernel
  have a6 : (ascii ">").length = 1 := by decide +kernel
  have a7 : (ascii "</h").length = 3 := by decide +kernel
  have a8 : (ascii ">\n").length = 2 := by decide +kernel
  have a9 : (ascii "<ul>\n").length = 5 := by decide +kernel
  have b1 : (ascii "</ul>\n").length = 6 := by decide +kernel
  have b2 : (ascii "<li>").length = 4 := by decide +kernel
  have b3 : (ascii "</li>\n").length = 6 := by decide +kernel
  have b4 : (ascii "<pre title=\"").length = 12 := by decide +kernel
  have b5 : (ascii "\">\n").length = 3 := by decide +kernel
  have b6 : (ascii "\n").length = 1 := by decide +kernel
  have b7 : (ascii "</pre>\n").length = 7 := by decide +kernel
  have b8 : (ascii "<em>").length = 4 := by decide +kernel
  have b9 : (ascii "</em>").length = 5 := by decide +kernel
  have c1 : (ascii "<a href=\"").length = 9 := by decide +kernel
  have c2 : (ascii "\">").length = 2 := by decide +kernel
  have c3 : (ascii "</a>").length = 4 := by decide +kernel
  have lv : ∀ n, (level n).length = 1 := fun _ => rfl
  unfold Event.html sz1
  split
  all_goals (try simp only [List.length_append, a1, a2, a3, a4, a5, a6, a7, a8, a9, b1, b2, b3, b4, b5, b6, b7, b8, b9, c1, c2, c3, lv])
  all_goals omega
theorem html_cons (e : Event) (l : List Event) : html (e :: l) = e.html ++ html l := rfl
theorem html_append (a b : List Event) : html (a ++ b) = html a ++ html b := List.flatMap_append
theorem html_len : ∀ l : List Event, (html l).length ≤ 32 * sz l
  | [] => Nat.le_refl _
  | e :: l => by
    have h1 := html1_len e
    have h2 := html_len l
    rw [html_cons, List.length_append, sz_cons]
    omega
theorem eventNums_len (e : Event) : (Mark.eventNums e).length ≤ 3 * sz1 e := by
  unfold Mark.eventNums Mark.bytes sz1
  rw [List.length_cons, List.length_cons, List.length_cons, List.length_map]
  omega
theorem allNums_len : ∀ l : List Event, (l.flatMap Mark.eventNums).length ≤ 3 * sz l
  | [] => Nat.le_refl _
  | e :: l => by
    have h1 := eventNums_len e
    have h2 := allNums_len l
    rw [List.flatMap_cons, List.length_append, sz_cons]
    omega
/-- a line's numbers, by the line as the program keeps it -/
def lineNumsM (m : LineM) : List Int := match m.kind with
  | 0 => [0]
  | 1 => 1 :: Mark.bytes m.text
  | 2 => 2 :: (m.number : Int) :: Mark.bytes m.text
  | 3 => 3 :: (m.number : Int) :: Mark.bytes m.text
  | _ => 4 :: Mark.bytes m.text
theorem lineNums_M (l : Bytes) : Mark.lineNums (lineOf l) = lineNumsM (lineM l) := by
  unfold lineM
  cases lineOf l <;> rfl
theorem lineNums_len (l : Bytes) : (Mark.lineNums (lineOf l)).length ≤ 3 * (l.length + 1) := by
  rw [lineNums_M]
  have h := lineM_text_len l
  unfold lineNumsM Mark.bytes
  split
  all_goals (try simp only [List.length_cons, List.length_nil, List.length_map])
  all_goals omega
theorem lines_nums_len : ∀ ls : List Bytes, (ls.flatMap fun l => Mark.lineNums (lineOf l)).length ≤ 3 * LW ls
  | [] => Nat.le_refl _
  | l :: ls => by
    have h1 := lineNums_len l
    have h2 := lines_nums_len ls
    rw [List.flatMap_cons, List.length_append, LW_cons]
    omega
end Mk
namespace Mk
open Ml

/-! ### the events of a text, as HTML asks them -/
def Fit (e : Event) : Prop := e.kind ≤ 16 ∧ ((e.kind = 4 ∨ e.kind = 5) → e.num ≤ 9) ∧ (e.kind = 0 ∨ e.kind = 1 ∨ e.kind = 10 ∨ e.kind = 11 ∨ e.kind = 15 ∨ e.bytes = [])
def Fits (l : List Event) : Prop := ∀ e ∈ l, Fit e
theorem Fits.nil : Fits [] := nofun
theorem Fits.cons {e : Event} {l : List Event} (h : Fit e) (r : Fits l) : Fits (e :: l) := fun x hx => by
  rcases List.mem_cons.mp hx with z | z
  · rw [z]
    exact h
  · exact r x z
theorem Fits.app {a b : List Event} (h : Fits a) (r : Fits b) : Fits (a ++ b) := fun x hx => by
  rcases List.mem_append.mp hx with z | z
  · exact h x z
  · exact r x z
theorem Fits.one {e : Event} (h : Fit e) : Fits [e] := .cons h .nil
theorem Fits.flat {α : Type} {f : α → List Event} (h : ∀ x, Fits (f x)) (l : List α) : Fits (l.flatMap f) := fun e he => by
  obtain ⟨x, _, hx⟩ := List.mem_flatMap.mp he
  exact h x e hx
theorem fit_ev {k : Nat} (h : k ≤ 16) : Fit (ev k) := ⟨h, fun _ => Nat.zero_le _, .inr (.inr (.inr (.inr (.inr rfl))))⟩
theorem fits_merge : ∀ {l : List Event}, Fits l → Fits (merge l)
  | [], h => h
  | e :: r, h => by
    have ih := fits_merge (l := r) fun x hx => h x (List.mem_cons_of_mem _ hx)
    have he := h e (List.mem_cons_self ..)
    unfold merge
    split
    · rename_i f q hm
      rw [hm] at ih
      have hf := ih f (List.mem_cons_self ..)
      have hq : Fits q := fun x hx => ih x (List.mem_cons_of_mem _ hx)
      split
      · exact .cons ⟨Nat.zero_le _, fun _ => Nat.zero_le _, .inl rfl⟩ hq
      · exact .cons he (.cons hf hq)
    · exact .one he
theorem fits_emph {α : Type} (star blank : α → Bool) (shown : α → List Event) (h : ∀ x, Fits (shown x)) : ∀ (n : Nat) (l : List α), Fits (emph star blank shown n l)
  | 0, _ => .nil
  | _ + 1, [] => .nil
  | n + 1, x :: r => by
    unfold emph
    split
    · split
      · exact h x
      · rename_i y q
        split
        · exact .app (.app (.app (.one (fit_ev (by decide))) (Fits.flat h _)) (.one (fit_ev (by decide)))) (fits_emph star blank shown h n _)
        · exact .app (h x) (fits_emph star blank shown h n _)
    · exact .app (h x) (fits_emph star blank shown h n _)
theorem fits_tok (t : Tok) : Fits t.events := by
  have f0 : ∀ b : Bytes, Fit ⟨0, 0, b⟩ := fun b => ⟨Nat.zero_le _, fun _ => Nat.zero_le _, .inl rfl⟩
  have f1 : ∀ b : Bytes, Fit ⟨1, 0, b⟩ := fun b => ⟨by show 1 ≤ 16; decide, fun _ => Nat.zero_le _, .inr (.inl rfl)⟩
  cases t
  · exact .one (f0 _)
  · exact .one (f0 _)
  · exact .one (f1 _)
  · exact .one (f0 _)
  · exact .one (f0 _)
  · exact .one (f0 _)
theorem fits_piece (p : Piece) : Fits p.events := by
  cases p with
  | tok t => exact fits_tok t
  | link l u => exact .app (.app (.one ⟨by show 15 ≤ 16; decide, fun _ => Nat.zero_le _, .inr (.inr (.inr (.inr (.inl rfl))))⟩) (fits_emph _ _ _ fits_tok _ _)) (.one (fit_ev (by decide)))
theorem fits_running (t : Bytes) : Fits (running t) := fits_emph _ _ _ fits_piece _ _
theorem fits_leave : ∀ o : Nat, Fits (leave o)
  | 0 => .nil
  | o + 1 => .cons (fit_ev (by decide)) (.cons (fit_ev (by decide)) (fits_leave o))
/-- a heading's level -/
def headOk : Block → Prop
  | .heading n _ => n ≤ 6
  | _ => True
theorem lineOf_level {l t : Bytes} {n : Nat} (h : lineOf l = .heading n t) : n ≤ 6 := by
  unfold lineOf at h
  dsimp only at h
  split at h
  · cases h
  · split at h
    · cases h
    · split at h
      · rename_i c
        cases h
        exact c.2.1
      · split at h
        · cases h
        · cases h
theorem blocks_head : ∀ (n : Nat) (ls : List Bytes), ∀ b ∈ blocks n ls, headOk b
  | 0, _, b, h => by cases h
  | _ + 1, [], b, h => by cases h
  | n + 1, l :: ls, b, h => by
    unfold blocks at h
    split at h
    · exact blocks_head n _ b h
    · rcases List.mem_cons.mp h with z | z
      · rw [z]
        trivial
      · exact blocks_head n _ b z
    · rename_i hl
      rcases List.mem_cons.mp h with z | z
      · rw [z]
        exact lineOf_level hl
      · exact blocks_head n _ b z
    · rcases List.mem_cons.mp h with z | z
      · rw [z]
        trivial
      · exact blocks_head n _ b z
    · rcases List.mem_cons.mp h with z | z
      · rw [z]
        trivial
      · exact blocks_head n _ b z
theorem fits_shown : ∀ (bs : List Block) (o : Nat), (∀ b ∈ bs, headOk b) → Fits (shown o bs)
  | [], o, _ => fits_leave o
  | b :: r, o, h => by
    have hb := h b (List.mem_cons_self ..)
    have hr : ∀ o, Fits (shown o r) := fun o => fits_shown r o fun x hx => h x (List.mem_cons_of_mem _ hx)
    cases b with
    | item d t =>
      unfold shown
      refine .app (.app ?_ (fits_running t)) (hr _)
      split
      · exact .cons (fit_ev (by decide)) (.one (fit_ev (by decide)))
      · exact .app (fits_leave _) (.cons (fit_ev (by decide)) (.one (fit_ev (by decide))))
    | para t =>
      unfold shown
      exact .app (.app (.app (.app (fits_leave o) (.one (fit_ev (by decide)))) (fits_running t)) (.one (fit_ev (by decide)))) (hr 0)
    | heading n t =>
      unfold shown
      have hn : n ≤ 6 := hb
      refine .app (.app (.app (.app (fits_leave o) (.one ⟨by show 4 ≤ 16; decide, fun _ => by show n ≤ 9; omega, .inr (.inr (.inr (.inr (.inr rfl))))⟩)) (fits_running t)) (.one ⟨by show 5 ≤ 16; decide, fun _ => by show n ≤ 9; omega, .inr (.inr (.inr (.inr (.inr rfl))))⟩)) (hr 0)
    | code label ls =>
      unfold shown
      refine .app (.app (.app (.app (fits_leave o) (.one ⟨by show 10 ≤ 16; decide, fun _ => Nat.zero_le _, .inr (.inr (.inl rfl))⟩)) ?_) (.one (fit_ev (by decide)))) (hr 0)
      intro e he
      obtain ⟨x, _, hx⟩ := List.mem_map.mp he
      rw [← hx]
      exact ⟨by show 11 ≤ 16; decide, fun _ => Nat.zero_le _, .inr (.inr (.inr (.inl rfl)))⟩
theorem fits_events (t : Bytes) : Fits (events t) := fits_merge (fits_shown _ 0 (blocks_head _ _))
/-- what is written ahead of an event's bytes and behind them -/
def tagsA : List (Bytes × Bytes) := [([], []), (ascii "<code>", ascii "</code>"), (ascii "<p>", []), (ascii "</p>\n", []), (ascii "<h", ascii ">"), (ascii "</h", ascii ">\n"), (ascii "<ul>\n", []), (ascii "</ul>\n", []), (ascii "<li>", []), (ascii "</li>\n", []),
  (ascii "<pre title=\"", ascii "\">\n"), ([], ascii "\n"), (ascii "</pre>\n", []), (ascii "<em>", []), (ascii "</em>", []), (ascii "<a href=\"", ascii "\">"), (ascii "</a>", [])]
def levelA (e : Event) : Bytes := if e.kind = 4 ∨ e.kind = 5 then level e.num else []
theorem html_parts {e : Event} (h : Fit e) {a b : Bytes} (ht : tagsA[e.kind]? = some (a, b)) : a ++ levelA e ++ esc e.bytes ++ b = e.html := by
  obtain ⟨k, n, d⟩ := e
  obtain ⟨h1, h2, h3⟩ := h
  have h1 : k ≤ 16 := h1
  have h3 : k = 0 ∨ k = 1 ∨ k = 10 ∨ k = 11 ∨ k = 15 ∨ d = [] := h3
  have he : esc [] = [] := rfl
  have hk : k = 0 ∨ k = 1 ∨ k = 2 ∨ k = 3 ∨ k = 4 ∨ k = 5 ∨ k = 6 ∨ k = 7 ∨ k = 8 ∨ k = 9 ∨ k = 10 ∨ k = 11 ∨ k = 12 ∨ k = 13 ∨ k = 14 ∨ k = 15 ∨ k = 16 := by omega
  have lv : ∀ (k : Nat), k ≠ 4 → k ≠ 5 → levelA ⟨k, n, d⟩ = [] := fun k a b => if_neg fun z => z.elim a b
  have lv4 : levelA ⟨4, n, d⟩ = level n := rfl
  have lv5 : levelA ⟨5, n, d⟩ = level n := rfl
  have nil : ∀ {k : Nat}, k ≠ 0 → k ≠ 1 → k ≠ 10 → k ≠ 11 → k ≠ 15 → (k = 0 ∨ k = 1 ∨ k = 10 ∨ k = 11 ∨ k = 15 ∨ d = []) → d = [] := fun a b c d e z => by
    rcases z with z | z | z | z | z | z
    · exact absurd z a
    · exact absurd z b
    · exact absurd z c
    · exact absurd z d
    · exact absurd z e
    · exact z
  rcases hk with z | z | z | z | z | z | z | z | z | z | z | z | z | z | z | z | z <;> subst z <;> cases ht
  · rw [lv _ (by decide) (by decide)]
    show [] ++ [] ++ esc d ++ [] = esc d
    simp only [List.nil_append, List.append_nil]
  · rw [lv _ (by decide) (by decide)]
    show ascii "<code>" ++ [] ++ esc d ++ ascii "</code>" = ascii "<code>" ++ esc d ++ ascii "</code>"
    simp only [List.append_nil]
  all_goals first
    | (rw [lv4, nil (by decide) (by decide) (by decide) (by decide) (by decide) h3, he, List.append_nil]; rfl)
    | (rw [lv5, nil (by decide) (by decide) (by decide) (by decide) (by decide) h3, he, List.append_nil]; rfl)
    | (rw [lv _ (by decide) (by decide), nil (by decide) (by decide) (by decide) (by decide) (by decide) h3, he, List.append_nil, List.append_nil, List.append_nil]; rfl)
    | (rw [lv _ (by decide) (by decide), List.append_nil]; rfl)
    | skip
theorem tagsA_get {k : Nat} (h : k ≤ 16) : ∃ a b, tagsA[k]? = some (a, b) := ⟨_, _, List.getElem?_eq_getElem (show k < tagsA.length from Nat.lt_succ_of_le h)⟩
theorem html_snoc (l : List Event) (e : Event) : html (l ++ [e]) = html l ++ e.html := by
  rw [html_append, html_cons]
  show html l ++ (e.html ++ []) = _
  rw [List.append_nil]
theorem html_take_len (l : List Event) (i : Nat) : (html (l.take i)).length ≤ (html l).length := by
  conv => rhs; rw [← List.take_append_drop i l, html_append, List.length_append]
  omega
theorem esc_snoc (b : Bytes) (c : UInt8) : esc (b ++ [c]) = esc b ++ esc1 c := by
  rw [esc_append, esc_cons]
  show esc b ++ (esc1 c ++ []) = _
  rw [List.append_nil]
end Mk
namespace Mk
open PySem PySem.Spec PyProof.Rows L2
open Ml (Bytes Tok Piece Event Block)

/-! ### the text by places -/
def top (i : Nat) : Stmt := PySem.Challenge.pw_marklite_s01_answers.main.body.getD i (.Pass ⟨0, 0, 0, 0⟩)
/-! ### what the top has written -/
structure DefT (K : PySem.W.Frag) (mg : Str → Option Value) (x : Str) (st : Stmt) (ps : List Str) where
  f : Addr
  fd : FuncData
  F : Fun K x x st f fd
  b : Binds K fd ps []
  g : mg x = some (.ref f)
structure InitT (K : PySem.W.Frag) (qual : Str) (st : Stmt) (ps : List Str) where
  f : Addr
  fd : FuncData
  F : Fun K "__init__" qual st f fd
  b : Binds K fd ps []
structure ClsT (K : PySem.W.Frag) (mg : Str → Option Value) (x : Str) (fi : Addr) where
  C : Addr
  cl : Cls K C
  g : mg x = some (.ref C)
  made : Mk K C fi
structure MethT (K : PySem.W.Frag) (C : Addr) (x qual : Str) (st : Stmt) (ps : List Str) where
  f : Addr
  fd : FuncData
  F : Fun K x qual st f fd
  b : Binds K fd ps []
  m : Meth K C x f
structure TupT (K : PySem.W.Frag) (mg : Str → Option Value) (x : Str) (xs : List V) where
  a : Addr
  g : mg x = some (.ref a)
  q : ∀ H : Hp, SqT K H a xs
abbrev IntT (mg : Str → Option Value) (x : Str) (n : Int) : Prop := ∃ t, mg x = some (.int n t)
section
variable {X : Cx}
theorem pe_k {x : Str} {n : Int} {pos : Pos} (hg : Gl X x) (h : IntT X.mg x n) (hd : (x == ("__debug__" : Str)) = false := by decide) : PE X (.Name x pos) (tC (.int n)) := by
  obtain ⟨t, h⟩ := h
  exact pe_glob hg h ⟨_, rfl⟩ hd
/-- e.f, the written part named -/
theorem pe_fldK {K : PySem.W.Frag} {e : Expr} {f : Str} {pos : Pos} {ta : TE} (hk : X.K = K) (he : PE X e ta) (hb : attributeBase e f X.env (eval e X.env) = eval e X.env) : PE X (.Attribute e f pos) (tFld K ta f) := by
  subst hk
  exact pe_fld he hb
theorem pe_kt {x : Str} {xs : List V} {pos : Pos} (hg : Gl X x) (h : TupT X.K X.mg x xs) (hd : (x == ("__debug__" : Str)) = false := by decide) : PE X (.Name x pos) (tC (.ref h.a)) :=
  pe_glob hg h.g rfl hd
end
/-! ### heaps -/
theorem same_upd {H : Hp} {p : Addr} {o : HO} (h : H p = none) : Same H (upd H p o) := fun b x e => by
  rw [upd_ne (ne_of_none e h)]
  exact e
theorem Same.upd {H H' : Hp} {p : Addr} {o : HO} (s : Same H H') (h : H p = none) : Same H (upd H' p o) := fun b x e => by
  rw [upd_ne (ne_of_none e h)]
  exact s b x e
theorem Same.none {H H' : Hp} {p : Addr} (s : Same H H') (h : H' p = none) : H p = none := by
  cases e : H p with
  | none => rfl
  | some o =>
    rw [s p o e] at h
    cases h
theorem ne_none {H : Hp} {a p : Addr} {o : HO} (h : H a = some o) (n : H p = none) : a ≠ p := ne_of_none h n
/-! ### values that leave the heap as it is -/
def rLen (K : PySem.W.Frag) : List V → Hp → VK → Prop := fun xs H Q => ∃ p ys, xs = [.ref p] ∧ (SqL K H p ys ∨ SqT K H p ys) ∧ Q (.int ys.length) H
section
variable {K : PySem.W.Frag} {σ : L2.St} {H : Hp} {ta tb tc te : TE} {t u : TT} {x y z v w : V} {D : Ends} {t1 t2 : TS}
theorem v_to (h : Val te σ H v) (e : v = w) : Val te σ H w := e ▸ h
theorem v_var {i : Nat} (h : σ[i]? = some (some v)) : Val (tVar i) σ H v := fun _ q => ⟨v, h, q⟩
theorem v_c : Val (tC v) σ H v := fun _ q => q
theorem v_op {g : Int → Int → V} {i j : Int} (ha : Val ta σ H (.int i)) (hb : Val tb σ H (.int j)) : Val (tOp (rI0 g) ta tb) σ H (g i j) :=
  fun _ q => ha _ (hb _ ⟨i, j, rfl, rfl, q⟩)
theorem v_opC {C : Int → Int → Prop} {g : Int → Int → V} {i j : Int} (ha : Val ta σ H (.int i)) (hb : Val tb σ H (.int j)) (hc : C i j) : Val (tOp (rI C g) ta tb) σ H (g i j) :=
  fun _ q => ha _ (hb _ ⟨i, j, rfl, rfl, hc, q⟩)
theorem v_add {i j : Int} (ha : Val ta σ H (.int i)) (hb : Val tb σ H (.int j)) : Val (tOp (rI0 fun i j => .int (i + j)) ta tb) σ H (.int (i + j)) := v_op ha hb
theorem v_sub {i j : Int} (ha : Val ta σ H (.int i)) (hb : Val tb σ H (.int j)) : Val (tOp (rI0 fun i j => .int (i - j)) ta tb) σ H (.int (i - j)) := v_op ha hb
theorem v_lt {i j : Int} (ha : Val ta σ H (.int i)) (hb : Val tb σ H (.int j)) : Val (tOp (rI0 fun i j => .bl (decide (i < j))) ta tb) σ H (.bl (decide (i < j))) := v_op ha hb
theorem v_le {i j : Int} (ha : Val ta σ H (.int i)) (hb : Val tb σ H (.int j)) : Val (tOp (rI0 fun i j => .bl (decide (i ≤ j))) ta tb) σ H (.bl (decide (i ≤ j))) := v_op ha hb
theorem v_gt {i j : Int} (ha : Val ta σ H (.int i)) (hb : Val tb σ H (.int j)) : Val (tOp (rI0 fun i j => .bl (decide (j < i))) ta tb) σ H (.bl (decide (j < i))) := v_op ha hb
theorem v_ge {i j : Int} (ha : Val ta σ H (.int i)) (hb : Val tb σ H (.int j)) : Val (tOp (rI0 fun i j => .bl (decide (j ≤ i))) ta tb) σ H (.bl (decide (j ≤ i))) := v_op ha hb
theorem v_neg {i : Int} (ha : Val ta σ H (.int i)) : Val (tUn (rU fun i => .int (-i)) ta) σ H (.int (-i)) := fun _ q => ha _ ⟨i, rfl, q⟩
theorem v_eq {i j : Int} (ha : Val ta σ H (.int i)) (hb : Val tb σ H (.int j)) : Val (tOp rEq ta tb) σ H (.bl (decide (i = j))) := fun Q q => ha _ (hb _ ⟨rfl, by
  have e : decide (V.int i = V.int j) = decide (i = j) := by
    by_cases h : i = j
    · rw [decide_eq_true h, h]
      exact decide_eq_true rfl
    · rw [decide_eq_false h]
      exact decide_eq_false fun z => h (V.int.inj z)
  rw [e]
  exact q⟩)
theorem v_ne {i j : Int} (ha : Val ta σ H (.int i)) (hb : Val tb σ H (.int j)) : Val (tOp rNe ta tb) σ H (.bl (!decide (i = j))) := fun Q q => ha _ (hb _ ⟨rfl, by
  have e : decide (V.int i = V.int j) = decide (i = j) := by
    by_cases h : i = j
    · rw [decide_eq_true h, h]
      exact decide_eq_true rfl
    · rw [decide_eq_false h]
      exact decide_eq_false fun z => h (V.int.inj z)
  rw [e]
  exact q⟩)
theorem v_ix {p : Addr} {xs : List V} {k : Int} {n : Nat} (ha : Val ta σ H (.ref p)) (hb : Val tb σ H (.int k)) (hs : SqL K H p xs) (e : k = (n : Int)) (h : xs[n]? = some v) : Val (tOp (rIxL K) ta tb) σ H v :=
  fun _ q => ha _ (hb _ ⟨p, xs, k, v, rfl, rfl, hs, by rw [e]; exact atI_nat h, q⟩)
theorem v_ixI {p : Addr} {xs : List V} {k : Int} (ha : Val ta σ H (.ref p)) (hb : Val tb σ H (.int k)) (hs : SqL K H p xs) (h : atI xs k = some v) : Val (tOp (rIxL K) ta tb) σ H v :=
  fun _ q => ha _ (hb _ ⟨p, xs, k, v, rfl, rfl, hs, h, q⟩)
theorem v_len {p : Addr} {xs : List V} (ha : Val ta σ H (.ref p)) (hs : SqL K H p xs) : Val (tCB (rLen K) (tCons ta tNil)) σ H (.int (xs.length : Int)) :=
  fun _ q => ha _ ⟨p, xs, rfl, .inl hs, q⟩
theorem v_in {p : Addr} {xs : List V} {i : Int} (ha : Val ta σ H (.int i)) (hb : Val tb σ H (.ref p)) (hs : SqT K H p xs) (hf : xs.all flatV = true) : Val (tOp (rIn K false) ta tb) σ H (.bl (inV (.int i) xs)) :=
  fun _ q => ha _ (hb _ ⟨p, xs, rfl, .inr hs, rfl, hf, q⟩)
theorem v_chain {g g' : Int → Int → Bool} {i j k : Int} (ha : Val ta σ H (.int i)) (hb : Val tb σ H (.int j)) (hc : Val tc σ H (.int k)) :
    Val (tChain (rI0 fun i j => .bl (g i j)) (rI0 fun i j => .bl (g' i j)) ta tb tc) σ H (.bl (g i j && g' j k)) := fun Q q => ha _ (hb _ ⟨i, j, rfl, rfl, g i j, rfl, by
  cases h : g i j with
  | false =>
    rw [h] at q
    exact q
  | true =>
    rw [h] at q
    exact hc _ ⟨j, k, rfl, rfl, q⟩⟩)
theorem v_and {a b : Bool} (h1 : Val ta σ H (.bl a)) (h2 : a = true → Val tb σ H (.bl b)) : Val (tAndV ta tb) σ H (.bl (a && b)) := fun Q q => h1 _ ⟨a, rfl, by
  cases a with
  | false => exact q
  | true => exact h2 rfl _ q⟩
theorem v_or {a b : Bool} (h1 : Val ta σ H (.bl a)) (h2 : a = false → Val tb σ H (.bl b)) : Val (tOrV ta tb) σ H (.bl (a || b)) := fun Q q => h1 _ ⟨a, rfl, by
  cases a with
  | true => exact q
  | false => exact h2 rfl _ q⟩
theorem v_not {a : Bool} (h1 : Val ta σ H (.bl a)) : Val (tNotV ta) σ H (.bl (!a)) := fun Q q => h1 _ ⟨a, rfl, q⟩
theorem v_if {b : Bool} (h : Ans t σ H b) (h1 : b = true → Val ta σ H v) (h2 : b = false → Val tb σ H v) : Val (tIf t ta tb) σ H v := fun Q q => h _ (by
  cases b with
  | false => exact (by rw [if_neg Bool.false_ne_true]; exact h2 rfl _ q)
  | true => exact (by rw [if_pos rfl]; exact h1 rfl _ q))
theorem v_fld {a C dx : Addr} {fs : List (Str × V)} {f : Str} (h : Val ta σ H (.ref a)) (ho : H a = some (.ins C dx fs)) (hc : Cls K C) (hn : NoAttr K C f) (hl : fs.lookup f = some v) : Val (tFld K ta f) σ H v :=
  val_fld h ho hc hn hl
theorem a_t {b : Bool} (h : Val te σ H (.bl b)) : Ans (tTest te) σ H b := fun Q q => h _ ⟨b, rfl, q⟩
theorem a_b {b : Bool} (h : Val te σ H (.bl b)) : Ans (tB te) σ H b := fun Q q => h _ ⟨b, rfl, q⟩
theorem a_and {a b : Bool} (h1 : Ans t σ H a) (h2 : a = true → Ans u σ H b) : Ans (tAnd t u) σ H (a && b) := fun Q q => h1 _ (by
  cases a with
  | false => exact (by rw [if_neg Bool.false_ne_true]; exact q)
  | true => exact (by rw [if_pos rfl]; exact h2 rfl _ q))
theorem a_or {a b : Bool} (h1 : Ans t σ H a) (h2 : a = false → Ans u σ H b) : Ans (tOr t u) σ H (a || b) := fun Q q => h1 _ (by
  cases a with
  | true => exact (by rw [if_pos rfl]; exact q)
  | false => exact (by rw [if_neg Bool.false_ne_true]; exact h2 rfl _ q))
theorem a_not {a : Bool} (h1 : Ans t σ H a) : Ans (tNot t) σ H (!a) := fun Q q => h1 _ q
theorem a_to {a b : Bool} (h : Ans t σ H a) (e : a = b) : Ans t σ H b := e ▸ h
/-- a def that only looks -/
def SpV (sp : Sp) (vs : List V) (H : Hp) (v : V) : Prop := ∀ (Q : VK) (E : XK), Q v H → sp vs H Q E
def VA (t : TA) (σ : L2.St) (H : Hp) (vs : List V) : Prop := ∀ Q : List V → Hp → Prop, Q vs H → t σ H Q
theorem va_nil : VA tNil σ H [] := fun _ q => q
theorem va_cons {tr : TA} {vs : List V} (h : Val te σ H v) (hr : VA tr σ H vs) : VA (tCons te tr) σ H (v :: vs) := fun _ q => h _ (hr _ q)
theorem va1 (h : Val te σ H v) : VA (tCons te tNil) σ H [v] := va_cons h va_nil
theorem v_call {sp : Sp} {E : XK} {ta : TA} {vs : List V} (h : VA ta σ H vs) (hs : SpV sp vs H v) : Val (tCall sp [] E ta) σ H v := fun Q q => h _ (by
  rw [List.append_nil]
  exact hs Q E q)
/-! ### statements -/
theorem s_set {i : Nat} (h : Val te σ H v) (q : D.nx (σ.set i (some v)) H) : tAsg te (gName i) D σ H := h _ q
theorem s_ret (h : Val te σ H v) (q : D.rt v H) : tRet te D σ H := h _ q
theorem s_if {b : Bool} {tc : TT} (h : Ans tc σ H b) (h1 : b = true → t1 D σ H) (h2 : b = false → t2 D σ H) : tIfS tc t1 t2 D σ H := h _ (by
  cases b with
  | false => exact (by rw [if_neg Bool.false_ne_true]; exact h2 rfl)
  | true => exact (by rw [if_pos rfl]; exact h1 rfl))
theorem s_aug {i : Nat} {f : Int → Int → Int} {a b : Int} (hx : σ[i]? = some (some (.int a))) (h : Val te σ H (.int b)) (k : D.nx (σ.set i (some (.int (f a b)))) H) : tAug i te (ipI f) D σ H :=
  ⟨_, hx, h _ ⟨a, b, rfl, rfl, k⟩⟩
theorem s_while {tc : TT} (W : Nat → L2.St → Hp → Prop) (m0 : Nat) (h0 : W m0 σ H)
    (hs : ∀ m σ' H', W m σ' H' → ∃ b, Ans tc σ' H' b ∧ (b = true → t1 { D with nx := fun σ2 H2 => ∃ m', m' < m ∧ W m' σ2 H2, ct := fun σ2 H2 => ∃ m', m' < m ∧ W m' σ2 H2, bk := D.nx } σ' H') ∧ (b = false → D.nx σ' H')) : tWhile tc t1 D σ H := by
  refine ⟨W, ⟨m0, h0⟩, fun m σ' H' hW => ?_⟩
  obtain ⟨b, ha, h1, h2⟩ := hs m σ' H' hW
  refine ha _ ?_
  cases b with
  | false => exact (by rw [if_neg Bool.false_ne_true]; exact h2 rfl)
  | true => exact (by rw [if_pos rfl]; exact ⟨_, fun _ _ z => z, h1 rfl⟩)
/-- what makes one new list -/
def New (te : TE) (σ : L2.St) (H : Hp) (xs : List V) : Prop := ∀ Q : VK, (∀ p, H p = none → Q (.ref p) (upd H p (.lst xs))) → te σ H Q
theorem n_cut {a : Addr} {xs : List V} {tl th : TO} {lo hi : Option Int} (ha : Val te σ H (.ref a)) (hl : ∀ Q : Option Int → Hp → Prop, Q lo H → tl σ H Q) (hh : ∀ Q : Option Int → Hp → Prop, Q hi H → th σ H Q) (hs : SqL K H a xs) :
    New (tSl (rSlL K) te tl th) σ H (cutV xs lo hi) := fun Q q => ha _ (hl _ (hh _ ⟨a, xs, rfl, hs, q⟩))
theorem o_none : ∀ Q : Option Int → Hp → Prop, Q none H → tNoPart σ H Q := fun _ q => q
theorem o_some {i : Int} (h : Val te σ H (.int i)) : ∀ Q : Option Int → Hp → Prop, Q (some i) H → tPart te σ H Q := fun _ q => h _ ⟨i, rfl, q⟩
theorem n_lst {ta : TA} {vs : List V} (h : VA ta σ H vs) (hz : vs.length ≤ sizeLine) : New (tLst ta) σ H vs := fun Q q => h _ ⟨hz, q⟩
def SpN (sp : Sp) (vs : List V) (H : Hp) (xs : List V) : Prop := ∀ (Q : VK) (E : XK), (∀ p, H p = none → Q (.ref p) (upd H p (.lst xs))) → sp vs H Q E
theorem n_call {sp : Sp} {E : XK} {ta : TA} {vs xs : List V} (h : VA ta σ H vs) (hs : SpN sp vs H xs) : New (tCall sp [] E ta) σ H xs := fun Q q => h _ (by
  rw [List.append_nil]
  exact hs Q E q)
theorem New.to {xs ys : List V} (h : New te σ H xs) (e : xs = ys) : New te σ H ys := e ▸ h
end
/-- a slice's items, by places -/
theorem cut_nn (xs : List V) (i j : Nat) (h : i ≤ j) (hj : j ≤ xs.length) : cutV xs (some (i : Int)) (some (j : Int)) = (xs.drop i).take (j - i) := by
  unfold cutV
  rw [HT.sIx_nat, HT.sIx_nat, Nat.min_eq_left hj, Nat.min_eq_left (Nat.le_trans h hj)]
theorem cut_n (xs : List V) (i : Nat) (h : i ≤ xs.length) : cutV xs (some (i : Int)) none = xs.drop i := by
  unfold cutV
  rw [HT.sIx_nat, HT.sIx_none, Nat.min_eq_left h]
  exact List.take_of_length_le (by rw [List.length_drop]; exact Nat.le_refl _)
/-! ### bytes as values -/
def bv (c : UInt8) : V := .int (c.toNat : Int)
def bs (l : Bytes) : List V := l.map bv
theorem bs_len (l : Bytes) : (bs l).length = l.length := List.length_map _
theorem bs_get {l : Bytes} {i : Nat} {c : UInt8} (h : l[i]? = some c) : (bs l)[i]? = some (.int (c.toNat : Int)) := by
  unfold bs
  rw [List.getElem?_map, h]
  rfl
theorem bs_drop (l : Bytes) (i : Nat) : (bs l).drop i = bs (l.drop i) := (List.map_drop).symm
theorem bs_take (l : Bytes) (i : Nat) : (bs l).take i = bs (l.take i) := (List.map_take).symm
theorem bs_cut (l : Bytes) (i j : Nat) (h : i ≤ j) (hj : j ≤ l.length) : cutV (bs l) (some (i : Int)) (some (j : Int)) = bs ((l.drop i).take (j - i)) := by
  rw [cut_nn _ _ _ h (by rw [bs_len]; exact hj), bs_drop, bs_take]
theorem bs_cutn (l : Bytes) (i : Nat) (h : i ≤ l.length) : cutV (bs l) (some (i : Int)) none = bs (l.drop i) := by
  rw [cut_n _ _ (by rw [bs_len]; exact h), bs_drop]
theorem bs_append (a b : Bytes) : bs (a ++ b) = bs a ++ bs b := List.map_append
theorem u8i (c k : UInt8) : ((c.toNat : Int) = (k.toNat : Int)) ↔ c = k := by
  constructor
  · intro h
    exact UInt8.toNat_inj.mp (Int.ofNat.inj h)
  · intro h
    rw [h]
theorem u8d (c k : UInt8) : decide ((c.toNat : Int) = (k.toNat : Int)) = (c == k) := by
  by_cases h : c = k
  · rw [h, beq_self_eq_true]
    exact decide_eq_true rfl
  · rw [decide_eq_false (fun z => h ((u8i c k).mp z))]
    exact (beq_eq_false_iff_ne.mpr h).symm
theorem in_cons (i k : Int) (xs : List V) : inV (.int i) (.int k :: xs) = (k == i || inV (.int i) xs) := rfl
theorem in_nil (i : Int) : inV (.int i) [] = false := rfl
theorem u8b (k c : UInt8) : ((k.toNat : Int) == (c.toNat : Int)) = (c == k) := by
  by_cases h : c = k
  · rw [h, beq_self_eq_true, beq_self_eq_true]
  · rw [beq_eq_false_iff_ne.mpr h]
    exact beq_eq_false_iff_ne.mpr fun z => h ((u8i c k).mp z.symm)
theorem in_blanks (c : UInt8) : inV (.int (c.toNat : Int)) [.int 9, .int 13, .int 32] = Ml.blank c := by
  have e : inV (.int (c.toNat : Int)) [.int 9, .int 13, .int 32] = (((9 : UInt8).toNat : Int) == (c.toNat : Int) || (((13 : UInt8).toNat : Int) == (c.toNat : Int) || (((32 : UInt8).toNat : Int) == (c.toNat : Int) || false))) := rfl
  rw [e, u8b, u8b, u8b]
  unfold Ml.blank
  cases c == 9 <;> cases c == 13 <;> cases c == 32 <;> rfl
theorem in_spaces (c : UInt8) : inV (.int (c.toNat : Int)) [.int 9, .int 10, .int 13, .int 32] = Ml.space c := by
  have e : inV (.int (c.toNat : Int)) [.int 9, .int 10, .int 13, .int 32] = (((9 : UInt8).toNat : Int) == (c.toNat : Int) || (((10 : UInt8).toNat : Int) == (c.toNat : Int) || (((13 : UInt8).toNat : Int) == (c.toNat : Int) || (((32 : UInt8).toNat : Int) == (c.toNat : Int) || false)))) := rfl
  rw [e, u8b, u8b, u8b, u8b]
  unfold Ml.space Ml.blank
  cases c == 9 <;> cases c == 10 <;> cases c == 13 <;> cases c == 32 <;> rfl
end Mk
namespace Mk
open PySem PySem.Spec PyProof.Rows L2
open Ml (Bytes Tok Piece Event Block)
abbrev s_is_sign : Stmt := top 14
theorem sc_is_sign : FnScope ["byte"] ["byte"] (defScope s_is_sign) := ⟨rfl, rfl, rfl, by decide +kernel, rfl, by decide +kernel, by decide +kernel⟩
abbrev s_trimmed : Stmt := top 15
theorem sc_trimmed : FnScope ["row", "begin", "end"] ["row"] (defScope s_trimmed) := ⟨rfl, rfl, rfl, by decide +kernel, rfl, by decide +kernel, by decide +kernel⟩
structure TxtSigns (K : PySem.W.Frag) (mg : Str → Option Value) where
  d_is_sign : DefT K mg "is_sign" s_is_sign ["byte"]
  d_trimmed : DefT K mg "trimmed" s_trimmed ["row"]
  b_len : mg "len" = none
  c_BLANKS : TupT K mg "BLANKS" [.int 9, .int 13, .int 32]
  c_WIDE_SPACES : TupT K mg "WIDE_SPACES" [.int 9, .int 10, .int 13, .int 32]
  c_NEWLINE : IntT mg "NEWLINE" 10
  c_SPACE : IntT mg "SPACE" 32
  c_NUMBER_SIGN : IntT mg "NUMBER_SIGN" 35
  c_OPENING_PARENTHESIS : IntT mg "OPENING_PARENTHESIS" 40
  c_CLOSING_PARENTHESIS : IntT mg "CLOSING_PARENTHESIS" 41
  c_STAR_SIGN : IntT mg "STAR_SIGN" 42
  c_HYPHEN : IntT mg "HYPHEN" 45
  c_OPENING_BRACKET : IntT mg "OPENING_BRACKET" 91
  c_BACKSLASH : IntT mg "BACKSLASH" 92
  c_CLOSING_BRACKET : IntT mg "CLOSING_BRACKET" 93
  c_BACKQUOTE : IntT mg "BACKQUOTE" 96
section
variable {P : Program} {w : World} {K : PySem.W.Frag} {mg : Str → Option Value} {base : Heap}
/-! ### is_sign -/
def sp_is_sign : Sp := fun vs H Q _ => ∃ c : UInt8, vs = [bv c] ∧ Q (.bl (Ml.sign c)) H
theorem u8le (k c : UInt8) : decide ((k.toNat : Int) ≤ (c.toNat : Int)) = decide (k ≤ c) := by
  by_cases h : k ≤ c
  · rw [decide_eq_true h]
    exact decide_eq_true (by have := UInt8.le_iff_toNat_le.mp h; omega)
  · rw [decide_eq_false h]
    exact decide_eq_false fun z => h (UInt8.le_iff_toNat_le.mpr (by omega))
theorem sign_eq (c : UInt8) : (decide ((33 : Int) ≤ (c.toNat : Int)) && decide ((c.toNat : Int) ≤ 47) || (decide ((58 : Int) ≤ (c.toNat : Int)) && decide ((c.toNat : Int) ≤ 64) || (decide ((91 : Int) ≤ (c.toNat : Int)) && decide ((c.toNat : Int) ≤ 96) ||
    (decide ((123 : Int) ≤ (c.toNat : Int)) && decide ((c.toNat : Int) ≤ 126))))) = Ml.sign c := by
  have e : ∀ k : UInt8, decide ((k.toNat : Int) ≤ (c.toNat : Int)) = decide (k ≤ c) := fun k => u8le k c
  have f : ∀ k : UInt8, decide ((c.toNat : Int) ≤ (k.toNat : Int)) = decide (c ≤ k) := fun k => u8le c k
  have e1 := e 33; have e2 := e 58; have e3 := e 91; have e4 := e 123
  have f1 := f 47; have f2 := f 64; have f3 := f 96; have f4 := f 126
  unfold Ml.sign
  rw [← e1, ← e2, ← e3, ← e4, ← f1, ← f2, ← f3, ← f4, Bool.or_assoc, Bool.or_assoc]
  rfl
theorem ok_is_sign (T : TxtSigns K mg) : FnOk P w K mg base CX0 1 T.d_is_sign.f T.d_is_sign.fd ["byte"] sp_is_sign := by
  refine T.d_is_sign.F.ok sc_is_sign (fun vs H Q E h => ?_) (fun cdv A outer s H vs Q E hr h => ?_)
  · obtain ⟨c, rfl, _⟩ := h
    rfl
  · obtain ⟨c, rfl, q⟩ := h
    refine ⟨_, pss_one (ps_ret (pe_or (pe_chain op_le op_le pe_int (pv 0) pe_int) (pe_or (pe_chain op_le op_le pe_int (pv 0) pe_int) (pe_or (pe_chain op_le op_le pe_int (pv 0) pe_int) (pe_one (pe_chain op_le op_le pe_int (pv 0) pe_int)))))), ?_⟩
    refine s_ret (v_or (v_chain v_c (v_var rfl) v_c) fun _ => v_or (v_chain v_c (v_var rfl) v_c) fun _ => v_or (v_chain v_c (v_var rfl) v_c) fun _ => v_chain v_c (v_var rfl) v_c) ?_
    show Q _ H
    rw [sign_eq]
    exact q
/-! ### trimmed -/
def sp_trimmed (K : PySem.W.Frag) : Sp := fun vs H Q _ => ∃ (a : Addr) (l : Bytes), vs = [.ref a] ∧ SqL K H a (bs l) ∧ ∀ p, H p = none → Q (.ref p) (upd H p (.lst (bs (Ml.trim l))))
theorem ok_trimmed (T : TxtSigns K mg) : FnOk P w K mg base CX0 1 T.d_trimmed.f T.d_trimmed.fd ["row"] (sp_trimmed K) := by
  refine T.d_trimmed.F.ok sc_trimmed (fun vs H Q E h => ?_) (fun cdv A outer s H vs Q E hr h => ?_)
  · obtain ⟨a, l, rfl, _⟩ := h
    rfl
  · obtain ⟨a, l, rfl, hS, q⟩ := h
    refine ⟨_, pss_cons (ps_set (i := 1) sc_trimmed.nd rfl (.inl rfl) pe_int) (pss_cons (ps_set (i := 2) sc_trimmed.nd rfl (.inl rfl) (pe_callB call_len_seq (by rfl) T.b_len PySem.boot_len (pa_cons (pv 0) pa_nil))) (pss_cons (ps_while PassesOwn.never (pw_and (pt_cmpR op_lt (pv 1) (pv 2) (nomark _)) (pw_and1 (pt_cmpR op_in_seq (pe_ix ix_list (pv 0) (pv 1) (fun _ _ => rfl)) (pe_kt (by rfl) T.c_BLANKS) (by with_unfolding_all rfl)))).pt (pss_one (ps_aug (i := 1) sc_trimmed.nd rfl (.inl rfl) pe_int ip_add))) (pss_cons (ps_while PassesOwn.never (pw_and (pt_cmpR op_gt (pv 2) (pv 1) (nomark _)) (pw_and1 (pt_cmpR op_in_seq (pe_ix ix_list (pv 0) (pe_op op_sub (pv 2) pe_int) (fun _ _ => rfl)) (pe_kt (by rfl) T.c_BLANKS) (by with_unfolding_all rfl)))).pt (pss_one (ps_aug (i := 2) sc_trimmed.nd rfl (.inl rfl) pe_int ip_sub))) (pss_one (ps_ret (pe_slice sl_list (pv 0) (po_some (pv 1)) (po_some (pv 2)))))))), ?_⟩
    refine s_set v_c ?_
    refine s_set (v_len (v_var rfl) hS) ?_
    -- the blanks at the beginning
    refine s_while (fun m σ H' => ∃ i : Nat, σ = [some (.ref a), some (.int (i : Int)), some (.int (l.length : Int))] ∧ H = H' ∧ i ≤ lead l ∧ m = l.length - i) l.length ⟨0, by rw [bs_len]; rfl, rfl, Nat.zero_le _, rfl⟩ ?_
    rintro m _ _ ⟨i, rfl, rfl, hi, rfl⟩
    by_cases c : i < l.length ∧ ∃ x, l[i]? = some x ∧ Ml.blank x = true
    · obtain ⟨c1, x, hx, hb⟩ := c
      refine ⟨true, a_to (a_and (a_t (v_op (v_var rfl) (v_var rfl))) fun _ => a_t (v_in (v_ix (v_var rfl) (v_var rfl) hS rfl (bs_get hx)) v_c (T.c_BLANKS.q _) rfl)) ?_, fun _ => ?_, nofun⟩
      · rw [in_blanks, hb, Bool.and_true]
        exact decide_eq_true (by omega)
      · refine s_aug rfl v_c ?_
        exact ⟨l.length - (i + 1), by omega, i + 1, rfl, rfl, lead_lt hi hx hb, rfl⟩
    · have ei : i = lead l := lead_eq hi fun x hx => by
        cases hb : Ml.blank x with
        | false => rfl
        | true => exact absurd ⟨(List.getElem?_eq_some_iff.mp hx).1, x, hx, hb⟩ c
      refine ⟨false, ?_, nofun, fun _ => ?_⟩
      · by_cases c1 : i < l.length
        · have hx := List.getElem?_eq_getElem c1
          refine a_to (a_and (a_t (v_op (v_var rfl) (v_var rfl))) fun _ => a_t (v_in (v_ix (v_var rfl) (v_var rfl) hS rfl (bs_get hx)) v_c (T.c_BLANKS.q _) rfl)) ?_
          have hb : Ml.blank l[i] = false := by
            cases hb : Ml.blank l[i] with
            | false => rfl
            | true => exact absurd ⟨c1, _, hx, hb⟩ c
          rw [in_blanks, hb, Bool.and_false]
        · refine a_to (a_and (b := false) (a_t (v_op (v_var rfl) (v_var rfl))) fun z => ?_) (Bool.and_false _)
          exact absurd (of_decide_eq_true z) (by omega)
      · -- the blanks at the end
        have hl := lead_le l
        refine s_while (fun m σ H' => ∃ k : Nat, σ = [some (.ref a), some (.int (lead l : Int)), some (.int ((lead l + k : Nat) : Int))] ∧ H = H' ∧ k ≤ (l.drop (lead l)).length ∧ Ml.trim l = rtrim ((l.drop (lead l)).take k) ∧ m = k) (l.length - lead l) ?_ ?_
        · refine ⟨l.length - lead l, ?_, rfl, by rw [List.length_drop]; exact Nat.le_refl _, ?_, rfl⟩
          · rw [ei, Nat.add_sub_cancel' hl]
          · rw [trim_eq, List.take_of_length_le (by rw [List.length_drop]; exact Nat.le_refl _)]
        rintro m _ _ ⟨k, rfl, rfl, hk, ht, rfl⟩
        have hk' : lead l + m ≤ l.length := by
          rw [List.length_drop] at hk
          omega
        have done : Ml.trim l = (l.drop (lead l)).take m → (tRet (tSl (rSlL K) (tVar 0) (tPart (tVar 1)) (tPart (tVar 2)))) { nx := fun _ H' => Q .non H', rt := Q } [some (.ref a), some (.int (lead l : Int)), some (.int ((lead l + m : Nat) : Int))] H := fun e => by
          refine (n_cut (v_var rfl) (o_some (v_var rfl)) (o_some (v_var rfl)) hS).to ?_ _ q
          rw [bs_cut l _ _ (Nat.le_add_right _ _) hk', e, Nat.add_sub_cancel_left]
        by_cases k0 : m = 0
        · subst k0
          refine ⟨false, a_to (a_and (b := false) (a_t (v_op (v_var rfl) (v_var rfl))) fun z => ?_) (Bool.and_false _), nofun, fun _ => ?_⟩
          · exact absurd (of_decide_eq_true z) (by omega)
          · exact done (by rw [ht]; rfl)
        · obtain ⟨j, rfl⟩ : ∃ j, m = j + 1 := ⟨m - 1, by omega⟩
          have hj : j < (l.drop (lead l)).length := hk
          have hx := List.getElem?_eq_getElem hj
          have hx' : l[lead l + j]? = some (l.drop (lead l))[j] := by
            rw [← hx, List.getElem?_drop]
          have test : Ans _ _ H _ := a_and (a_t (v_op (g := fun i j => .bl (decide (j < i))) (i := ((lead l + (j + 1) : Nat) : Int)) (j := (lead l : Int)) (σ := [some (.ref a), some (.int (lead l : Int)), some (.int ((lead l + (j + 1) : Nat) : Int))]) (v_var (i := 2) rfl) (v_var (i := 1) rfl))) fun _ => a_t (v_in (v_ix (v_var (i := 0) rfl) (v_op (g := fun i j => .int (i - j)) (v_var (i := 2) rfl) (v_c (v := .int 1))) hS (n := lead l + j) (by omega) (bs_get hx')) v_c (T.c_BLANKS.q _) rfl)
          have e1 : decide ((lead l : Int) < ((lead l + (j + 1) : Nat) : Int)) = true := decide_eq_true (by omega)
          cases hb : Ml.blank (l.drop (lead l))[j] with
          | true =>
            refine ⟨true, a_to test (by rw [in_blanks, hb, e1]; rfl), fun _ => ?_, nofun⟩
            refine s_aug rfl v_c ?_
            refine ⟨j, Nat.lt_succ_self _, j, ?_, rfl, Nat.le_of_lt hj, by rw [ht, rtrim_less hx hb], rfl⟩
            have e2 : ((lead l + (j + 1) : Nat) : Int) - 1 = ((lead l + j : Nat) : Int) := by omega
            rw [← e2]
            rfl
          | false =>
            refine ⟨false, a_to test (by rw [in_blanks, hb, Bool.and_false]), nofun, fun _ => ?_⟩
            exact done (by rw [ht, rtrim_done hx hb])
end
end Mk
namespace Mk
open PySem PySem.Spec PyProof.Rows L2
open Ml (Bytes Tok Piece Event Block)
/-! ### an instance's attributes, by the class's names -/
theorem lk_zip : ∀ {ns : List Str} {vs : List V} {i : Nat} {f : Str} {v : V}, ns.Nodup → ns[i]? = some f → vs[i]? = some v → (ns.zip vs).lookup f = some v
  | [], _, _, _, _, _, h, _ => by simp at h
  | _ :: _, [], _, _, _, _, _, h => by simp at h
  | n :: ns, w :: vs, 0, f, v, _, h, h' => by
    have e1 : n = f := Option.some.inj h
    have e2 : w = v := Option.some.inj h'
    subst e1 e2
    show List.lookup n ((n, w) :: ns.zip vs) = _
    simp only [List.lookup, beq_self_eq_true]
  | n :: ns, w :: vs, i + 1, f, v, nd, h, h' => by
    have hm : f ∈ ns := List.mem_of_getElem? (show ns[i]? = some f from h)
    have hne : (f == n) = false := beq_eq_false_iff_ne.mpr fun e => (List.nodup_cons.mp nd).1 (e ▸ hm)
    show List.lookup f ((n, w) :: ns.zip vs) = _
    simp only [List.lookup, hne]
    exact lk_zip (List.nodup_cons.mp nd).2 h h'
theorem lk_no : ∀ {ns : List Str} {vs : List V} {f : Str}, f ∉ ns → (ns.zip vs).lookup f = none
  | [], _, _, _ => rfl
  | _ :: _, [], _, _ => rfl
  | n :: ns, w :: vs, f, h => by
    have hne : (f == n) = false := beq_eq_false_iff_ne.mpr fun e => h (e ▸ List.mem_cons_self ..)
    show List.lookup f ((n, w) :: ns.zip vs) = _
    simp only [List.lookup, hne]
    exact lk_no fun z => h (List.mem_cons_of_mem _ z)
theorem put_no : ∀ {ns : List Str} {vs : List V} {f : Str} {v : V}, f ∉ ns → ns.length = vs.length → putF f v (ns.zip vs) = (ns ++ [f]).zip (vs ++ [v])
  | [], [], _, _, _, _ => rfl
  | [], _ :: _, _, _, _, h => by cases h
  | _ :: _, [], _, _, _, h => by cases h
  | n :: ns, w :: vs, f, v, h, hl => by
    have hne : ¬ n = f := fun e => h (e ▸ List.mem_cons_self ..)
    show (if n = f then (n, v) :: ns.zip vs else (n, w) :: putF f v (ns.zip vs)) = _
    rw [if_neg hne, put_no (fun z => h (List.mem_cons_of_mem _ z)) (Nat.succ.inj hl)]
    rfl
theorem put_zip : ∀ {ns : List Str} {vs : List V} {i : Nat} {f : Str} {v : V}, ns.Nodup → ns.length = vs.length → ns[i]? = some f → putF f v (ns.zip vs) = ns.zip (vs.set i v)
  | [], _, _, _, _, _, _, h => by simp at h
  | _ :: _, [], _, _, _, _, h, _ => by cases h
  | n :: ns, w :: vs, 0, f, v, _, _, h => by
    have e1 : n = f := Option.some.inj h
    show (if n = f then (n, v) :: ns.zip vs else _) = _
    rw [if_pos e1]
    rfl
  | n :: ns, w :: vs, i + 1, f, v, nd, hl, h => by
    have hm : f ∈ ns := List.mem_of_getElem? (show ns[i]? = some f from h)
    have hne : ¬ n = f := fun e => (List.nodup_cons.mp nd).1 (e ▸ hm)
    show (if n = f then _ else (n, w) :: putF f v (ns.zip vs)) = _
    rw [if_neg hne, put_zip (List.nodup_cons.mp nd).2 (Nat.succ.inj hl) h]
    rfl
/-- a new instance with its attributes -/
def obj (H : Hp) (x dx C : Addr) (fs : List (Str × V)) : Hp := upd (upd H dx (.own x)) x (.ins C dx fs)
theorem obj_at {H : Hp} {x dx C : Addr} {fs : List (Str × V)} : obj H x dx C fs x = some (.ins C dx fs) := upd_same
theorem obj_same {H : Hp} {x dx C : Addr} {fs : List (Str × V)} (nx : H x = none) (nd : H dx = none) : Same H (obj H x dx C fs) := fun b o e => by
  unfold obj
  rw [upd_ne (ne_of_none e nx), upd_ne (ne_of_none e nd)]
  exact e
/-- where a store of an attribute is, of one whose attributes are told by names -/
theorem fl_len {ns : List Str} {vs : List V} {n : Nat} (h : vs.length < n) : (ns.zip vs).length < n := by
  rw [List.length_zip]
  omega
/-! ### the heap without some of its objects (those that are written later) -/
open Classical in
noncomputable def hide (H : Hp) (S : Addr → Prop) : Hp := fun b => if S b then none else H b
/-- they are there -/
def Tr (S : Addr → Prop) (H : Hp) : Prop := ∀ b, S b → ∃ o, H b = some o
section
variable {H H' : Hp} {S S' : Addr → Prop} {p : Addr} {o : HO}
theorem hide_not (h : ¬ S p) : hide H S p = H p := if_neg h
theorem hide_is (h : S p) : hide H S p = none := if_pos h
theorem hide_of (h : hide H S p = some o) : ¬ S p ∧ H p = some o := by
  by_cases c : S p
  · rw [hide_is c] at h
    cases h
  · rw [hide_not c] at h
    exact ⟨c, h⟩
theorem hide_same : Same (hide H S) H := fun b o e => (hide_of e).2
theorem hide_at (h : H p = some o) (n : ¬ S p) : hide H S p = some o := (hide_not n).trans h
theorem hide_mono (s : Same H H') : Same (hide H S) (hide H' S) := fun b o e => hide_at (s _ _ (hide_of e).2) (hide_of e).1
theorem hide_sub (k : ∀ b, S' b → S b) : Same (hide H S) (hide H S') := fun b o e => hide_at (hide_of e).2 fun z => (hide_of e).1 (k _ z)
theorem Tr.not (t : Tr S H) (n : H p = none) : ¬ S p := fun z => by
  obtain ⟨o, e⟩ := t p z
  rw [e] at n
  cases n
theorem Tr.mono (t : Tr S H) (s : Same H H') : Tr S H' := fun b z => by
  obtain ⟨o, e⟩ := t b z
  exact ⟨o, s _ _ e⟩
theorem hide_new (t : Tr S H) (n : H p = none) : hide (upd H p o) S p = some o := hide_at upd_same (t.not n)
/-- a hidden object is written -/
theorem hide_write (h : S p) : hide (upd H p o) S = hide H S := by
  funext b
  by_cases c : S b
  · rw [hide_is c, hide_is c]
  · rw [hide_not c, hide_not c, upd_ne (fun (e : b = p) => c (by rw [e]; exact h))]
theorem tr_none : Tr (fun _ => False) H := fun _ z => z.elim
theorem hide_none : hide H (fun _ => False) = H := funext fun b => hide_not id
/-- one more hidden -/
def wi (S : Addr → Prop) (D : Addr) : Addr → Prop := fun b => S b ∨ b = D
theorem wi_same {D : Addr} (s : Same H H') (n : H D = none) : Same (hide H S) (hide H' (wi S D)) := fun b o e => hide_at (s _ _ (hide_of e).2) fun z => z.elim (hide_of e).1 fun z => by
  have e2 := (hide_of e).2
  rw [z, n] at e2
  cases e2
theorem wi_tr {D : Addr} (t : Tr S H) (h : H D = some o) : Tr (wi S D) H := fun b z => z.elim (t b) fun z => ⟨o, z ▸ h⟩
theorem wi_sub {D : Addr} : Same (hide H (wi S D)) (hide H S) := hide_sub fun _ z => .inl z
theorem wi_write {D : Addr} : hide (upd H D o) (wi S D) = hide H (wi S D) := hide_write (.inr rfl)
end
/-! ### lists of things at addresses -/
def AllAt {α : Type} (R : Addr → α → Prop) (ps : List Addr) (xs : List α) : Prop := ps.length = xs.length ∧ ∀ (i : Nat) (p : Addr) (x : α), ps[i]? = some p → xs[i]? = some x → R p x
section
variable {α : Type} {R R' : Addr → α → Prop} {ps : List Addr} {xs : List α}
theorem AllAt.nil : AllAt R [] [] := ⟨rfl, fun i p x h _ => by simp at h⟩
theorem AllAt.mono (h : AllAt R ps xs) (k : ∀ p x, R p x → R' p x) : AllAt R' ps xs := ⟨h.1, fun i p x hp hx => k _ _ (h.2 i p x hp hx)⟩
theorem AllAt.snoc (h : AllAt R ps xs) {p : Addr} {x : α} (r : R p x) : AllAt R (ps ++ [p]) (xs ++ [x]) := by
  refine ⟨by rw [List.length_append, List.length_append, h.1]; rfl, fun i q y hq hy => ?_⟩
  rcases Nat.lt_trichotomy i ps.length with c | c | c
  · rw [List.getElem?_append_left c] at hq
    rw [List.getElem?_append_left (by rw [← h.1]; exact c)] at hy
    exact h.2 i q y hq hy
  · subst c
    rw [List.getElem?_append_right (Nat.le_refl _), Nat.sub_self] at hq
    rw [h.1, List.getElem?_append_right (Nat.le_refl _), Nat.sub_self] at hy
    have e1 : p = q := Option.some.inj hq
    have e2 : x = y := Option.some.inj hy
    subst e1 e2
    exact r
  · rw [List.getElem?_eq_none (by rw [List.length_append]; exact c)] at hq
    cases hq
theorem AllAt.get (h : AllAt R ps xs) {i : Nat} {x : α} (hx : xs[i]? = some x) : ∃ p, ps[i]? = some p ∧ R p x := by
  have hl : i < ps.length := by
    rw [h.1]
    exact (List.getElem?_eq_some_iff.mp hx).1
  exact ⟨ps[i], List.getElem?_eq_getElem hl, h.2 i _ x (List.getElem?_eq_getElem hl) hx⟩
theorem AllAt.getP (h : AllAt R ps xs) {i : Nat} {p : Addr} (hp : ps[i]? = some p) : ∃ x, xs[i]? = some x ∧ R p x := by
  have hl : i < xs.length := by
    rw [← h.1]
    exact (List.getElem?_eq_some_iff.mp hp).1
  exact ⟨xs[i], List.getElem?_eq_getElem hl, h.2 i p _ hp (List.getElem?_eq_getElem hl)⟩
theorem AllAt.drop (h : AllAt R ps xs) (n : Nat) : AllAt R (ps.drop n) (xs.drop n) := by
  refine ⟨by rw [List.length_drop, List.length_drop, h.1], fun i p x hp hx => ?_⟩
  rw [List.getElem?_drop] at hp hx
  exact h.2 _ _ _ hp hx
theorem AllAt.take (h : AllAt R ps xs) (n : Nat) : AllAt R (ps.take n) (xs.take n) := by
  refine ⟨by rw [List.length_take, List.length_take, h.1], fun i p x hp hx => ?_⟩
  rw [List.getElem?_take] at hp hx
  split at hp
  · rename_i c
    rw [if_pos c] at hx
    exact h.2 _ _ _ hp hx
  · cases hp
end
def refs (ps : List Addr) : List V := ps.map V.ref
theorem refs_get {ps : List Addr} {i : Nat} {p : Addr} (h : ps[i]? = some p) : (refs ps)[i]? = some (.ref p) := by
  unfold refs
  rw [List.getElem?_map, h]
  rfl
theorem refs_of {ps : List Addr} {i : Nat} {v : V} (h : (refs ps)[i]? = some v) : ∃ p, ps[i]? = some p ∧ v = .ref p := by
  unfold refs at h
  rw [List.getElem?_map] at h
  cases e : ps[i]? with
  | none =>
    rw [e] at h
    cases h
  | some p =>
    rw [e] at h
    exact ⟨p, rfl, (Option.some.inj h).symm⟩
theorem refs_len (ps : List Addr) : (refs ps).length = ps.length := List.length_map _
theorem refs_snoc (ps : List Addr) (p : Addr) : refs ps ++ [.ref p] = refs (ps ++ [p]) := by
  unfold refs
  rw [List.map_append]
  rfl
theorem refs_cut (ps : List Addr) (i j : Nat) (h : i ≤ j) (hj : j ≤ ps.length) : cutV (refs ps) (some (i : Int)) (some (j : Int)) = refs ((ps.drop i).take (j - i)) := by
  rw [cut_nn _ _ _ h (by rw [refs_len]; exact hj)]
  unfold refs
  rw [List.map_take, List.map_drop]
theorem bs_of {l : Bytes} {i : Nat} {v : V} (h : (bs l)[i]? = some v) : ∃ c, l[i]? = some c ∧ v = bv c := by
  unfold bs at h
  rw [List.getElem?_map] at h
  cases e : l[i]? with
  | none =>
    rw [e] at h
    cases h
  | some p =>
    rw [e] at h
    exact ⟨p, rfl, (Option.some.inj h).symm⟩
/-! ### statements with objects and loops -/
section
variable {K : PySem.W.Frag} {σ : L2.St} {H : Hp} {ta tb tc te tl : TE} {x y z v w : V} {D : Ends} {t1 t2 tbd : TS}
/-- C(..), the arguments evaluated -/
theorem k_make {C : Addr} {sp : Sp} {E : XK} {ta : TA} {vs : List V} {Q : VK} (ha : VA ta σ H vs)
    (k : ∀ x dx, H x = none → H dx = none → dx ≠ x → sp (.ref x :: vs) (upd (upd H dx (.own x)) x (.ins C dx [])) (fun v H2 => v = .non ∧ Q (.ref x) H2) E) : tMake C sp [] E ta σ H Q :=
  ha _ (by rw [List.append_nil]; exact k)
/-- the same, step by step -/
theorem k_ret (h : te σ H D.rt) : tRet te D σ H := h
theorem k_set {i : Nat} (h : te σ H fun v H1 => D.nx (σ.set i (some v)) H1) : tAsg te (gName i) D σ H := h
theorem k_op {r : R2} {Q : VK} (h : ta σ H fun x H1 => tb σ H1 fun y H2 => r x y H2 Q) : tOp r ta tb σ H Q := h
theorem k_v {Q : VK} (h : Val te σ H v) (k : Q v H) : te σ H Q := h Q k
theorem k_n {xs : List V} {Q : VK} (h : New te σ H xs) (k : ∀ p, H p = none → Q (.ref p) (upd H p (.lst xs))) : te σ H Q := h Q k
theorem k_asg {g : TG} (h : te σ H fun x H1 => g x σ H1 D.nx) : tAsg te g D σ H := h
theorem k_drop (h : te σ H fun _ H1 => D.nx σ H1) : tDrop te D σ H := h
theorem k_mk {C : Addr} {sp : Sp} {E : XK} {ta : TA} {Q : VK} (h : ta σ H fun vs H1 => ∀ x dx, H1 x = none → H1 dx = none → dx ≠ x → sp (.ref x :: vs) (upd (upd H1 dx (.own x)) x (.ins C dx [])) (fun v H2 => v = .non ∧ Q (.ref x) H2) E) :
    tMake C sp [] E ta σ H Q := by
  have e : ∀ vs : List V, vs ++ [] = vs := List.append_nil
  unfold tMake
  simp only [e]
  exact h
theorem k_call {sp : Sp} {E : XK} {ta : TA} {Q : VK} (h : ta σ H fun vs H1 => sp vs H1 Q E) : tCall sp [] E ta σ H Q := by
  have e : ∀ vs : List V, vs ++ [] = vs := List.append_nil
  unfold tCall
  simp only [e]
  exact h
theorem k_meth {C dx a : Addr} {m : Str} {sp : Sp} {E : XK} {ta : TA} {fs : List (Str × V)} {Q : VK} (hv : Val te σ H (.ref a)) (hi : H a = some (.ins C dx fs)) (hl : fs.lookup m = none) (h : ta σ H fun vs H1 => sp (.ref a :: vs) H1 Q E) : tMeth C m sp [] E te ta σ H Q := by
  have e : ∀ vs : List V, vs ++ [] = vs := List.append_nil
  refine hv _ ⟨a, dx, fs, rfl, hi, hl, ?_⟩
  simp only [e]
  exact h
theorem ka_v {tr : TA} {Q : List V → Hp → Prop} (h : Val te σ H v) (k : tr σ H fun xs H2 => Q (v :: xs) H2) : tCons te tr σ H Q := h _ k
theorem ka_n {tr : TA} {xs : List V} {Q : List V → Hp → Prop} (h : New te σ H xs) (k : ∀ p, H p = none → tr σ (upd H p (.lst xs)) fun ys H2 => Q (.ref p :: ys) H2) : tCons te tr σ H Q := h _ k
theorem ka {tr : TA} {Q : List V → Hp → Prop} (h : te σ H fun x H1 => tr σ H1 fun xs H2 => Q (x :: xs) H2) : tCons te tr σ H Q := h
theorem k_yes {A B : Hp → Prop} (h : A H) : tYes σ H fun b H3 => if b = true then A H3 else B H3 := by
  show if true = true then A H else B H
  rw [if_pos rfl]
  exact h
theorem ka_nil {Q : List V → Hp → Prop} (k : Q [] H) : tNil σ H Q := k
theorem k_if {tc : TT} (h : tc σ H fun b H1 => if b = true then t1 D σ H1 else t2 D σ H1) : tIfS tc t1 t2 D σ H := h
theorem k_and {t u : TT} {a : Bool} {Q : Bool → Hp → Prop} (h1 : Ans t σ H a) (h2 : a = true → u σ H Q) (h3 : a = false → Q false H) : tAnd t u σ H Q := h1 _ (by
  cases a with
  | false => exact (by rw [if_neg Bool.false_ne_true]; exact h3 rfl)
  | true => exact (by rw [if_pos rfl]; exact h2 rfl))
theorem k_not {t : TT} {Q : Bool → Hp → Prop} (h : t σ H fun c H1 => Q (!c) H1) : tNot t σ H Q := h
theorem k_b {Q : Bool → Hp → Prop} (h : te σ H fun x H1 => ∃ c, x = .bl c ∧ Q c H1) : tB te σ H Q := h
theorem if_b {c : Bool} {A B : Prop} (h1 : c = true → A) (h2 : c = false → B) : if c = true then A else B := by
  cases c with
  | false => exact (by rw [if_neg Bool.false_ne_true]; exact h2 rfl)
  | true => exact (by rw [if_pos rfl]; exact h1 rfl)
/-- a while whose test may make objects -/
theorem s_whileH {tc : TT} (W : Nat → L2.St → Hp → Prop) (m0 : Nat) (h0 : W m0 σ H)
    (hs : ∀ m σ' H', W m σ' H' → tc σ' H' fun b H1 => if b = true then ∃ N : L2.St → Hp → Prop, (∀ σ2 H2, N σ2 H2 → ∃ m', m' < m ∧ W m' σ2 H2) ∧ t1 { D with nx := N, ct := N, bk := D.nx } σ' H1 else D.nx σ' H1) : tWhile tc t1 D σ H :=
  ⟨W, ⟨m0, h0⟩, hs⟩
theorem s_setN {i : Nat} {xs : List V} (h : New te σ H xs) (q : ∀ p, H p = none → D.nx (σ.set i (some (.ref p))) (upd H p (.lst xs))) : tAsg te (gName i) D σ H := h _ q
theorem s_retN {xs : List V} (h : New te σ H xs) (q : ∀ p, H p = none → D.rt (.ref p) (upd H p (.lst xs))) : tRet te D σ H := h _ q
theorem s_drop (h : Val te σ H v) (q : D.nx σ H) : tDrop te D σ H := h _ q
/-- xs.append(e) -/
theorem s_append {l : Addr} {xs : List V} (ha : Val ta σ H (.ref l)) (h : Val te σ H v) (hl : H l = some (.lst xs)) (hz : xs.length < sizeLine) (k : D.nx σ (upd H l (.lst (xs ++ [v])))) : tDrop (tBM K "list" rAppend ta (tCons te tNil)) D σ H :=
  ha _ ⟨.inl ⟨rfl, xs, SqL.of hl⟩, h _ ⟨l, xs, v, rfl, rfl, hl, hz, k⟩⟩
/-- xs.append(e), e's value comes with another heap -/
theorem s_appendH {l : Addr} {xs0 : List V} (ha : Val ta σ H (.ref l)) (hl0 : H l = some (.lst xs0)) (h : te σ H fun v H1 => rAppend (.ref l) [v] H1 fun _ H2 => D.nx σ H2) : tDrop (tBM K "list" rAppend ta (tCons te tNil)) D σ H :=
  ha _ ⟨.inl ⟨rfl, xs0, SqL.of hl0⟩, h⟩
/-- xs.extend(ys) -/
theorem s_extend {l b : Addr} {xs zs : List V} (ha : Val ta σ H (.ref l)) (h : Val te σ H (.ref b)) (hl : H l = some (.lst xs)) (hb : H b = some (.lst zs)) (hz : xs.length + zs.length ≤ sizeLine) (k : D.nx σ (upd H l (.lst (xs ++ zs)))) : tDrop (tBM K "list" rExtend ta (tCons te tNil)) D σ H :=
  ha _ ⟨.inl ⟨rfl, xs, SqL.of hl⟩, h _ ⟨l, b, xs, zs, rfl, rfl, hl, hb, hz, k⟩⟩
/-- for x in xs -/
theorem s_forL {a : Addr} {xs : List V} {j : Nat} (h : Val tl σ H (.ref a)) (hx : SqL K H a xs) (Pv : Nat → L2.St → Hp → Prop) (h0 : Pv 0 σ H) (hl : ∀ i σ' H', i ≤ xs.length → Pv i σ' H' → SqL K H' a xs)
    (hs : ∀ i x σ' H', xs[i]? = some x → Pv i σ' H' → tbd { D with nx := Pv (i + 1), ct := Pv (i + 1), bk := D.nx } (σ'.set j (some x)) H') (hd : ∀ σ' H', Pv xs.length σ' H' → D.nx σ' H') : tFor (iList K tl) (gName j) tbd D σ H :=
  h _ ⟨a, rfl, ⟨xs, hx⟩, for_list Pv h0 hl (fun i x σ' H' e p => hs i x σ' H' e p) hd⟩
/-- what a for asks of the list at v -/
def ForAt (K : PySem.W.Frag) (j : Nat) (tbd : TS) (D : Ends) (σ : L2.St) : VK := fun v H1 => ∃ a, v = .ref a ∧ (∃ xs, SqL K H1 a xs) ∧ ∃ W : Nat → Nat → L2.St → Hp → Prop, (∃ m, W 0 m σ H1) ∧ ∀ i m σ H, W i m σ H →
  ((Itl K a).stop i H ∧ D.nx σ H) ∨ ((Itl K a).go i H ∧ ∃ N : L2.St → Hp → Prop, (∀ σ' H', N σ' H' → ∃ m', m' < m ∧ W (i + 1) m' σ' H') ∧ ∀ x H', (Itl K a).yld i H x H' → gName j x σ H' fun σ2 H2 => tbd { D with nx := N, ct := N, bk := D.nx } σ2 H2)
theorem k_for {j : Nat} (h : tl σ H (ForAt K j tbd D σ)) : tFor (iList K tl) (gName j) tbd D σ H := h
theorem for_at {a : Addr} {xs : List V} {j : Nat} (hx : SqL K H a xs) (Pv : Nat → L2.St → Hp → Prop) (h0 : Pv 0 σ H) (hl : ∀ i σ' H', i ≤ xs.length → Pv i σ' H' → SqL K H' a xs)
    (hs : ∀ i x σ' H', xs[i]? = some x → Pv i σ' H' → tbd { D with nx := Pv (i + 1), ct := Pv (i + 1), bk := D.nx } (σ'.set j (some x)) H') (hd : ∀ σ' H', Pv xs.length σ' H' → D.nx σ' H') : ForAt K j tbd D σ (.ref a) H :=
  ⟨a, rfl, ⟨xs, hx⟩, for_list Pv h0 hl (fun i x σ' H' e p => hs i x σ' H' e p) hd⟩
/-- .. over a list that is new -/
theorem s_forN {xs : List V} {j : Nat} (h : New tl σ H xs) (Pv : Addr → Nat → L2.St → Hp → Prop) (h0 : ∀ p, H p = none → Pv p 0 σ (upd H p (.lst xs))) (hl : ∀ p i σ' H', i ≤ xs.length → Pv p i σ' H' → SqL K H' p xs)
    (hs : ∀ p i x σ' H', xs[i]? = some x → Pv p i σ' H' → tbd { D with nx := Pv p (i + 1), ct := Pv p (i + 1), bk := D.nx } (σ'.set j (some x)) H') (hd : ∀ p σ' H', Pv p xs.length σ' H' → D.nx σ' H') : tFor (iList K tl) (gName j) tbd D σ H :=
  h _ fun p hp => ⟨p, rfl, ⟨xs, SqL.of upd_same⟩, for_list (Pv p) (h0 p hp) (hl p) (fun i x σ' H' e q => hs p i x σ' H' e q) (hd p)⟩
/-- for i, x in enumerate(xs): the pair is new at T -/
theorem s_forE {a : Addr} {xs : List V} {j1 j2 : Nat} (h : Val tl σ H (.ref a)) (hx : SqL K H a xs) (Pv : Nat → L2.St → Hp → Prop) (h0 : Pv 0 σ H) (hl : ∀ i σ' H', i ≤ xs.length → Pv i σ' H' → SqL K H' a xs)
    (hs : ∀ i x σ' H' T, xs[i]? = some x → Pv i σ' H' → H' T = none → tbd { D with nx := Pv (i + 1), ct := Pv (i + 1), bk := D.nx } ((σ'.set j1 (some (.int (i : Int)))).set j2 (some x)) (upd H' T (.tup [.int (i : Int), x])))
    (hd : ∀ σ' H', Pv xs.length σ' H' → D.nx σ' H') : tFor (iEnum K (tCons tl tNil)) (gTup K 2 (gCons (gName j1) (gCons (gName j2) gNil))) tbd D σ H := by
  refine h _ ⟨a, xs, rfl, hx, fun i m σ' H' => m = xs.length - i ∧ i ≤ xs.length ∧ Pv i σ' H', ⟨xs.length, by simp, Nat.zero_le _, h0⟩, ?_⟩
  rintro i m σ' H' ⟨rfl, hi, p⟩
  have q := hl i σ' H' hi p
  by_cases hlt : i < xs.length
  · have hxi := List.getElem?_eq_getElem hlt
    refine .inr ⟨⟨xs, xs[i], q, hxi⟩, Pv (i + 1), fun σ2 H2 p' => ⟨xs.length - (i + 1), by omega, rfl, hlt, p'⟩, fun v H2 y => ?_⟩
    obtain ⟨T, x, rfl, nT, rfl, f⟩ := y
    have e := f xs q
    refine ⟨T, [.int (i : Int), x], rfl, SqT.of upd_same, rfl, _, _, rfl, _, _, rfl, rfl, ?_⟩
    exact hs i x σ' H' T e p nT
  · have e : i = xs.length := by omega
    refine .inl ⟨⟨xs, q, by omega⟩, ?_⟩
    rw [e] at p
    exact hd σ' H' p
/-- for i in range(lo, 0, -1) -/
theorem s_forR3 {j : Nat} {lo : Int} {n : Nat} {tr : TA} (h : VA tr σ H [.int lo, .int 0, .int (-1)]) (hlo : -1 ≤ lo ∧ lo < 1000000000) (en : n = lo.toNat) (Pv : Nat → L2.St → Hp → Prop) (h0 : Pv 0 σ H)
    (hs : ∀ (i : Nat) σ' H', i < n → Pv i σ' H' → tbd { D with nx := Pv (i + 1), ct := Pv (i + 1), bk := D.nx } (σ'.set j (some (.int (lo + (i : Int) * (-1))))) H') (hd : ∀ σ' H', Pv n σ' H' → D.nx σ' H') : tFor (iRng3 tr) (gName j) tbd D σ H := by
  refine h _ ⟨lo, 0, -1, (lo - 0).toNat, rfl, RgC.neg (by omega) (by omega) (by decide) (by decide), ?_⟩
  have e : (lo - 0).toNat = n := by omega
  rw [e]
  exact for_rangeC Pv h0 (fun i σ' H' hi p => hs i σ' H' hi p) hd
/-- for i in range(n) -/
theorem s_forR {j : Nat} {n : Nat} {tr : TA} (h : VA tr σ H [.int (n : Int)]) (hn : n < 1000000000) (Pv : Nat → L2.St → Hp → Prop) (h0 : Pv 0 σ H)
    (hs : ∀ (i : Nat) σ' H', i < n → Pv i σ' H' → tbd { D with nx := Pv (i + 1), ct := Pv (i + 1), bk := D.nx } (σ'.set j (some (.int (i : Int)))) H') (hd : ∀ σ' H', Pv n σ' H' → D.nx σ' H') : tFor (iRng1 tr) (gName j) tbd D σ H := by
  refine h _ ⟨(n : Int), rfl, by omega, by omega, ?_⟩
  have e : (n : Int).toNat = n := rfl
  rw [e]
  refine for_range Pv h0 (fun i σ' H' hi p => ?_) hd
  have e : (0 : Int) + (i : Int) = (i : Int) := by omega
  show tbd _ (σ'.set j (some (.int (0 + (i : Int))))) H'
  rw [e]
  exact hs i σ' H' hi p
/-- o.f = e -/
theorem s_fld {a C dx : Addr} {fs : List (Str × V)} {f : Str} (hv : Val te σ H v) (ho : Val ta σ H (.ref a)) (hi : H a = some (.ins C dx fs)) (hc : Cls K C) (hn : NoAttr K C f) (hl : fs.length < 1000) (k : D.nx σ (upd H a (.ins C dx (putF f v fs)))) : sFld K ta te f D σ H :=
  hv _ (ho _ ⟨a, C, dx, fs, rfl, hi, hc, hn, hl, k⟩)
theorem s_fldN {a C dx : Addr} {fs : List (Str × V)} {f : Str} {xs : List V} (hv : New te σ H xs) (ho : ∀ H', Same H H' → Val ta σ H' (.ref a)) (hi : H a = some (.ins C dx fs)) (hc : Cls K C) (hn : NoAttr K C f) (hl : fs.length < 1000)
    (k : ∀ p, H p = none → D.nx σ (upd (upd H p (.lst xs)) a (.ins C dx (putF f (.ref p) fs)))) : sFld K ta te f D σ H :=
  hv _ fun p np => ho _ (same_upd np) _ ⟨a, C, dx, fs, rfl, same_upd np _ _ hi, hc, hn, hl, k p np⟩
theorem k_fld {f : Str} (h : te σ H fun y H1 => ta σ H1 fun x H2 => ∃ a C dx fs, x = .ref a ∧ H2 a = some (.ins C dx fs) ∧ Cls K C ∧ NoAttr K C f ∧ fs.length < 1000 ∧ D.nx σ (upd H2 a (.ins C dx (putF f y fs)))) : sFld K ta te f D σ H := h
/-- xs + ys -/
theorem k_cat {Q : VK} (h : ta σ H fun x H1 => tb σ H1 fun y H2 => rCat x y H2 Q) : tOp rCat ta tb σ H Q := h
end
end Mk
namespace Mk
open PySem PySem.Spec PyProof.Rows L2
open Ml (Bytes)
/-! ### a written dict: whole numbers for keys, texts for values -/
inductive Ents : List (Int × Str) → List DictEntry → Prop where
  | nil : Ents [] []
  | cons {k : Int} {z : Str} {e : DictEntry} {r : List (Int × Str)} {es : List DictEntry} (h : e.hash = hashInt k) (a : ∃ t, e.key = .int k t) (b : ∃ t, e.val = .str z t) (c : Ents r es) : Ents ((k, z) :: r) (e :: es)
structure DctT (K : PySem.W.Frag) (mg : Str → Option Value) (x : Str) (kvs : List (Int × Str)) where
  a : Addr
  g : mg x = some (.ref a)
  es : Array DictEntry
  n : Nat
  at_ : K.lookup a = some ⟨.type "dict", none, .dict es n, #[]⟩
  rel : Ents kvs es.toList
  low : (a == sysModules) = false
theorem Ents.keys {kvs : List (Int × Str)} {l : List DictEntry} (h : Ents kvs l) : ∀ e ∈ l, ∃ k t, e.key = .int k t ∧ e.hash = hashInt k := by
  induction h with
  | nil => exact nofun
  | @cons k z e r es h a b c ih =>
    intro x hx
    rcases List.mem_cons.mp hx with y | y
    · obtain ⟨t, a⟩ := a
      rw [y]
      exact ⟨k, t, a, h⟩
    · exact ih x y
theorem Ents.find {kvs : List (Int × Str)} {l : List DictEntry} (h : Ents kvs l) (i : Int) : (kvs.lookup i = none ∧ (l.find? fun e => Value.isInt i e.key).map (·.val) = none) ∨ ∃ z t, kvs.lookup i = some z ∧ (l.find? fun e => Value.isInt i e.key).map (·.val) = some (.str z t) := by
  induction h with
  | nil => exact .inl ⟨rfl, rfl⟩
  | @cons k z e r es h a b c ih =>
    obtain ⟨t, a⟩ := a
    obtain ⟨t', b⟩ := b
    by_cases hk : i = k
    · subst hk
      have e1 : Value.isInt i e.key = true := by
        rw [a]
        simp [Value.isInt]
      refine .inr ⟨z, t', ?_, ?_⟩
      · show List.lookup i ((i, z) :: r) = some z
        simp only [List.lookup, beq_self_eq_true]
      · rw [List.find?_cons_of_pos (p := fun e : DictEntry => Value.isInt i e.key) e1, Option.map_some, b]
    · have e1 : ¬ Value.isInt i e.key = true := by
        rw [a]
        simp only [Value.isInt, beq_iff_eq]
        intro y
        first
          | exact hk y
          | exact hk y.symm
      have e2 : (i == k) = false := beq_eq_false_iff_ne.mpr hk
      have e3 : List.lookup i ((k, z) :: r) = List.lookup i r := by simp only [List.lookup, e2]
      rw [e3, List.find?_cons_of_neg (p := fun e : DictEntry => Value.isInt i e.key) e1]
      exact ih
section
variable {X : Cx} {kvs : List (Int × Str)} {x : Str}
theorem mapOf_I {P : Program} {w : World} {K : PySem.W.Frag} {h : Heap} {mg : Str → Option Value} (Y : K.In h) (D : DctT K mg x kvs) : h.MapOf (PySem.intKind P w) D.a (fun k => findBy Value.isInt D.es k) :=
  ⟨_, D.es, D.n, Y _ _ D.at_, ⟨rfl, rfl, rfl⟩, rfl, fun e he => by
    obtain ⟨k, t, e1, e2⟩ := D.rel.keys e (Array.mem_toList_iff.mpr he)
    exact ⟨k, by rw [e1]; exact PySem.intKind_is P w k t, e2⟩, fun _ => rfl⟩
theorem dct_find {K : PySem.W.Frag} {mg : Str → Option Value} (D : DctT K mg x kvs) (i : Int) : (kvs.lookup i = none ∧ findBy Value.isInt D.es i = none) ∨ ∃ z t, kvs.lookup i = some z ∧ findBy Value.isInt D.es i = some (.str z t) := by
  have e : findBy Value.isInt D.es i = (D.es.toList.find? fun e => Value.isInt i e.key).map (·.val) := by
    unfold findBy
    rw [Array.find?_toList]
  rw [e]
  exact D.rel.find i
def rInI (a : Addr) (kvs : List (Int × Str)) : R2 := fun x y H Q => ∃ i : Int, x = .int i ∧ y = .ref a ∧ Q (.bl (kvs.lookup i).isSome) H
def rIxI (a : Addr) (kvs : List (Int × Str)) : R2 := fun x y H Q => ∃ (i : Int) (z : Str), x = .ref a ∧ y = .int i ∧ kvs.lookup i = some z ∧ Q (.str z) H
theorem op_inI (D : DctT X.K X.mg x kvs) : OpR X (compareOp .In) (rInI D.a kvs) := by
  intro pins s σ H x y v u Q I rx ry h
  obtain ⟨i, rfl, rfl, q⟩ := h
  obtain ⟨t, rfl⟩ := rx
  cases ry
  refine wpAny_in_of (PySem.intKind_is X.prog X.w i t) D.low (mapOf_I (P := X.prog) (w := X.w) I.kIn D) ?_
  rcases dct_find D i with ⟨h1, h2⟩ | ⟨z, t', h1, h2⟩
  · rw [h1] at q
    rw [h2]
    exact ⟨.bl false, H, I.tok _, rfl, q⟩
  · rw [h1] at q
    rw [h2]
    exact ⟨.bl true, H, I.tok _, rfl, q⟩
theorem ix_I (D : DctT X.K X.mg x kvs) : IxR X (rIxI D.a kvs) := by
  intro value slice pins s σ H x y v u Q I rx ry h hs
  obtain ⟨i, z, rfl, rfl, hz, q⟩ := h
  cases rx
  obtain ⟨t, rfl⟩ := ry
  have hm := mapOf_I (P := X.prog) (w := X.w) I.kIn D
  rcases dct_find D i with ⟨h1, h2⟩ | ⟨z', t', h1, h2⟩
  · rw [hz] at h1
    cases h1
  · rw [hz] at h1
    cases h1
    exact tail_any hm.typeIs slot_dict_getitem.lookup (wpAny_getItem_of (PySem.intKind_is X.prog X.w i t) hm h2 ⟨.str z, H, I.tok _, ⟨t', rfl⟩, q⟩) hs
theorem pe_kd {pos : Pos} (hg : Gl X x) (h : DctT X.K X.mg x kvs) (hd : (x == ("__debug__" : Str)) = false := by decide) : PE X (.Name x pos) (tC (.ref h.a)) :=
  pe_glob hg h.g rfl hd
end
/-! ### a written tuple of pairs of texts -/
inductive PairsAt (K : PySem.W.Frag) : List Addr → List (Str × Str) → Prop where
  | nil : PairsAt K [] []
  | cons {p : Addr} {a b : Str} {ps : List Addr} {ts : List (Str × Str)} (h : ∀ H : Hp, SqT K H p [.str a, .str b]) (r : PairsAt K ps ts) : PairsAt K (p :: ps) ((a, b) :: ts)
structure PairsT (K : PySem.W.Frag) (mg : Str → Option Value) (x : Str) (ts : List (Str × Str)) where
  a : Addr
  g : mg x = some (.ref a)
  ps : List Addr
  q : ∀ H : Hp, SqT K H a (refs ps)
  rows : PairsAt K ps ts
theorem PairsAt.get {K : PySem.W.Frag} {ps : List Addr} {ts : List (Str × Str)} (h : PairsAt K ps ts) : ∀ {i : Nat} {t : Str × Str}, ts[i]? = some t → ∃ p, ps[i]? = some p ∧ ∀ H : Hp, SqT K H p [.str t.1, .str t.2] := by
  induction h with
  | nil => intro i t e; simp at e
  | @cons p a b ps ts h r ih =>
    intro i t e
    cases i with
    | zero =>
      cases e
      exact ⟨p, rfl, h⟩
    | succ i => exact ih e
theorem pe_kp {X : Cx} {x : Str} {ts : List (Str × Str)} {pos : Pos} (hg : Gl X x) (h : PairsT X.K X.mg x ts) (hd : (x == ("__debug__" : Str)) = false := by decide) : PE X (.Name x pos) (tC (.ref h.a)) :=
  pe_glob hg h.g rfl hd
section
variable {K : PySem.W.Frag} {σ : L2.St} {H : Hp} {ta tb te ts : TE} {v : V} {D : Ends}
theorem v_ixT {p : Addr} {xs : List V} {k : Int} {n : Nat} (ha : Val ta σ H (.ref p)) (hb : Val tb σ H (.int k)) (hs : SqT K H p xs) (e : k = (n : Int)) (h : xs[n]? = some v) : Val (tOp (rIxT K) ta tb) σ H v :=
  fun _ q => ha _ (hb _ ⟨p, xs, k, v, rfl, rfl, hs, by rw [e]; exact atI_nat h, q⟩)
theorem v_inI {a : Addr} {kvs : List (Int × Str)} {i : Int} (ha : Val ta σ H (.int i)) (hb : Val tb σ H (.ref a)) : Val (tOp (rInI a kvs) ta tb) σ H (.bl (kvs.lookup i).isSome) :=
  fun _ q => ha _ (hb _ ⟨i, rfl, rfl, q⟩)
theorem v_ixI2 {a : Addr} {kvs : List (Int × Str)} {i : Int} {z : Str} (ha : Val ta σ H (.ref a)) (hb : Val tb σ H (.int i)) (h : kvs.lookup i = some z) : Val (tOp (rIxI a kvs) ta tb) σ H (.str z) :=
  fun _ q => ha _ (hb _ ⟨i, z, rfl, rfl, h, q⟩)
/-- str(i), ord(c) -/
theorem v_str {i : Int} (ha : Val ta σ H (.int i)) (hi : i.natAbs.log2 < 1920) : Val (tCB (fun xs H Q => ∃ i, xs = [.int i] ∧ i.natAbs.log2 < 1920 ∧ Q (.str (toString i)) H) (tCons ta tNil)) σ H (.str (toString i)) :=
  fun _ q => ha _ ⟨i, rfl, hi, q⟩
theorem v_ord {c : Nat} (ha : Val ta σ H (.str ⟨#[c]⟩)) : Val (tCB (fun xs H Q => ∃ x, xs = [.str x] ∧ x.length = 1 ∧ Q (.int (x.cps.getD 0 0 : Nat)) H) (tCons ta tNil)) σ H (.int (c : Int)) :=
  fun _ q => ha _ ⟨⟨#[c]⟩, rfl, rfl, q⟩
/-- what makes one new list, and maybe more -/
def NewS (te : TE) (σ : L2.St) (H : Hp) (xs : List V) : Prop := ∀ Q : VK, (∀ p H', Same H H' → H p = none → H' p = some (.lst xs) → Q (.ref p) H') → te σ H Q
theorem NewS.to {xs ys : List V} (h : NewS te σ H xs) (e : xs = ys) : NewS te σ H ys := e ▸ h
/-- page.extend(..) of a new list -/
theorem k_ext {H0 : Hp} {o : Addr} {acc b : Bytes} (no : H0 o = none) (sm : Same H0 H) (ho : H o = some (.lst (bs acc))) (ha : Val ta σ H (.ref o)) (hz : acc.length + b.length ≤ 16000000) (h : NewS te σ H (bs b))
    (k : ∀ H', Same H0 H' → H' o = some (.lst (bs (acc ++ b))) → D.nx σ H') : tDrop (tBM K "list" rExtend ta (tCons te tNil)) D σ H := by
  refine ha _ ⟨.inl ⟨rfl, bs acc, SqL.of ho⟩, h _ fun p H' s1 np hp => ?_⟩
  have hz2 : (16000000 : Nat) ≤ sizeLine := by decide
  refine ⟨o, p, bs acc, bs b, rfl, rfl, s1 _ _ ho, hp, by rw [bs_len, bs_len]; omega, ?_⟩
  rw [← bs_append]
  refine k _ (fun z u hu => ?_) upd_same
  rw [upd_ne (ne_none hu no)]
  exact s1 _ _ (sm _ _ hu)
/-- [f(c) for c in a text] -/
theorem s_lcS {z : Str} {j : Nat} {vs : List Nat} {Q : VK} {f : Nat → V} (h : Val ts σ H (.str z)) (hz : z.cps.size < sizeLine) (hw : ∀ v, wipe ((wipe σ vs).set j (some v)) vs = wipe σ vs)
    (he : ∀ c H', Val te ((wipe σ vs).set j (some (.str ⟨#[c]⟩))) H' (f c)) (q : ∀ p H', Same H H' → H p = none → H' p = some (.lst (z.cps.toList.map f)) → Q (.ref p) H') : tLc (iStr ts) (gName j) tYes te vs σ H Q := by
  refine h _ ⟨z, rfl, fun p np => ?_⟩
  refine ⟨fun i m H' => m = z.cps.size - i ∧ i ≤ z.cps.size ∧ Same H H' ∧ H' p = some (.lst ((z.cps.toList.take i).map f)), ⟨z.cps.size, by omega, Nat.zero_le _, same_upd np, upd_same⟩, ?_⟩
  rintro i m H' ⟨rfl, hi, sm, hp⟩
  by_cases c : i < z.cps.size
  · refine .inr ⟨c, fun H2 => i + 1 ≤ z.cps.size ∧ Same H H2 ∧ H2 p = some (.lst ((z.cps.toList.take (i + 1)).map f)), fun H2 y => ⟨z.cps.size - (i + 1), by omega, rfl, y.1, y.2.1, y.2.2⟩, fun x H2 y => ?_⟩
    obtain ⟨rfl, n, hn, rfl⟩ := y
    refine ⟨hw _, k_yes (he n H2 _ ⟨_, hp, ?_, c, fun b u hu => ?_, ?_⟩)⟩
    · rw [List.length_map, List.length_take]
      omega
    · rw [upd_ne (ne_none hu np)]
      exact sm _ _ hu
    · have e : z.cps.toList[i]? = some n := by
        rw [Array.getElem?_toList]
        exact hn
      rw [upd_same, take_more e, List.map_append]
      rfl
  · refine .inl ⟨Nat.le_of_not_lt c, ?_⟩
    have e : i = z.cps.toList.length := by
      rw [Array.length_toList]
      omega
    rw [e, List.take_length] at hp
    exact q p H' sm np hp
/-- a list of whole numbers stands at p -/
def IntsAt (H : Hp) (p : Addr) (l : List Int) : Prop := H p = some (.lst (l.map V.int))
/-- [f(x) for x in ..]: each f(x) a new list of whole numbers; from the list on -/
def LcAt (K : PySem.W.Frag) (j : Nat) (te : TE) (vs : List Nat) (σ : L2.St) (Q : VK) : VK := fun v H1 => tLc (iList K (tC v)) (gName j) tYes te vs σ H1 Q
theorem k_lc {j : Nat} {vs : List Nat} {Q : VK} (h : ts σ H (LcAt K j te vs σ Q)) : tLc (iList K ts) (gName j) tYes te vs σ H Q := h
theorem lc_nums {α : Type} {R : Hp → Addr → α → Prop} {F : α → List Int} {a : Addr} {ps : List Addr} {xs : List α} {j : Nat} {vs : List Nat} {Q : VK} (hR : ∀ H H' p x, Same H H' → R H p x → R H' p x) (ha : H a = some (.lst (refs ps))) (hA : AllAt (R H) ps xs) (hz : xs.length < sizeLine)
    (hw : ∀ v, wipe ((wipe σ vs).set j (some v)) vs = wipe σ vs) (he : ∀ p x H', R H' p x → x ∈ xs → NewS te ((wipe σ vs).set j (some (.ref p))) H' ((F x).map V.int))
    (q : ∀ D H' qs, Same H H' → H D = none → H' D = some (.lst (refs qs)) → AllAt (IntsAt H') qs (xs.map F) → Q (.ref D) H') : LcAt K j te vs σ Q (.ref a) H := by
  refine ⟨a, rfl, ⟨_, SqL.of ha⟩, fun D nD => ?_⟩
  refine lc_list (K := K) (a := a) (xs := refs ps) (fun i H' => ∃ qs, Same H H' ∧ H' D = some (.lst (refs qs)) ∧ qs.length = i ∧ AllAt (fun p l => p ≠ D ∧ IntsAt H' p l) qs ((xs.take i).map F))
    ⟨[], same_upd nD, upd_same, rfl, by rw [List.take_zero]; exact AllAt.nil⟩ (fun i H' _ ⟨_, s2, _⟩ => SqL.of (s2 _ _ ha)) ?_ ?_
  · rintro i v H' hv ⟨qs, s2, hD, hq, hQ⟩
    obtain ⟨r, hr', rfl⟩ := refs_of hv
    obtain ⟨x, hx, hRx⟩ := hA.getP hr'
    have hil : i < xs.length := (List.getElem?_eq_some_iff.mp hx).1
    refine ⟨hw _, k_yes (he r x H' (hR _ _ _ _ s2 hRx) (List.mem_of_getElem? hx) _ fun y H2 s3 ny hy => ?_)⟩
    have nyD : y ≠ D := fun z => by
      rw [z, hD] at ny
      cases ny
    refine ⟨refs qs, s3 _ _ hD, by rw [refs_len]; omega, qs ++ [y], fun z u hu => ?_, ?_, by rw [List.length_append, hq]; rfl, ?_⟩
    · rw [upd_ne (ne_none hu nD)]
      exact s3 _ _ (s2 _ _ hu)
    · rw [upd_same, refs_snoc]
    · rw [take_more hx, List.map_append]
      refine AllAt.snoc (hQ.mono fun p l hp => ⟨hp.1, (upd_ne hp.1).trans (s3 _ _ hp.2)⟩) ⟨nyD, (upd_ne nyD).trans hy⟩
  · rintro H' ⟨qs, s2, hD, hq, hQ⟩
    rw [refs_len, hA.1, List.take_length] at hQ
    exact q D H' qs s2 nD hD (hQ.mono fun _ _ z => z.2)
end
end Mk
namespace Mk
open PySem PySem.Spec PyProof.Rows L2
open Ml (Bytes Tok Piece Event Block)
abbrev s_Line_init__ : Stmt := inClass (top 24) 0
theorem sc_Line_init__ : FnScope ["self", "kind", "number", "text", "row"] ["self", "kind", "number", "text", "row"] (defScope s_Line_init__) := ⟨rfl, rfl, rfl, by decide +kernel, rfl, by decide +kernel, by decide +kernel⟩
abbrev s_read_lines : Stmt := top 25
theorem sc_read_lines : FnScope ["text", "row"] ["text"] (defScope s_read_lines) := ⟨rfl, rfl, rfl, by decide +kernel, rfl, by decide +kernel, by decide +kernel⟩
abbrev s_split_rows : Stmt := top 26
theorem sc_split_rows : FnScope ["text", "rows", "begin", "at", "byte"] ["text"] (defScope s_split_rows) := ⟨rfl, rfl, rfl, by decide +kernel, rfl, by decide +kernel, by decide +kernel⟩
abbrev s_read_line : Stmt := top 27
theorem sc_read_line : FnScope ["row", "text", "level", "spaces"] ["row"] (defScope s_read_line) := ⟨rfl, rfl, rfl, by decide +kernel, rfl, by decide +kernel, by decide +kernel⟩
abbrev s_run_length : Stmt := top 28
theorem sc_run_length : FnScope ["row", "begin", "byte", "at"] ["row", "begin", "byte"] (defScope s_run_length) := ⟨rfl, rfl, rfl, by decide +kernel, rfl, by decide +kernel, by decide +kernel⟩
abbrev s_is_blank_or_end : Stmt := top 29
theorem sc_is_blank_or_end : FnScope ["row", "at"] ["row", "at"] (defScope s_is_blank_or_end) := ⟨rfl, rfl, rfl, by decide +kernel, rfl, by decide +kernel, by decide +kernel⟩
structure TxtLines (K : PySem.W.Frag) (mg : Str → Option Value) extends TxtSigns K mg where
  b_enumerate : mg "enumerate" = none
  m_Line_init__ : InitT K "Line.__init__" s_Line_init__ ["self", "kind", "number", "text", "row"]
  k_Line : ClsT K mg "Line" m_Line_init__.f
  n_Line : ∀ f ∈ (["kind", "number", "text", "row"] : List Str), NoAttr K k_Line.C f
  d_read_lines : DefT K mg "read_lines" s_read_lines ["text"]
  d_split_rows : DefT K mg "split_rows" s_split_rows ["text"]
  d_read_line : DefT K mg "read_line" s_read_line ["row"]
  d_run_length : DefT K mg "run_length" s_run_length ["row", "begin", "byte"]
  d_is_blank_or_end : DefT K mg "is_blank_or_end" s_is_blank_or_end ["row", "at"]
  c_BLANK : IntT mg "BLANK" 0
  c_FENCE : IntT mg "FENCE" 1
  c_HEADING : IntT mg "HEADING" 2
  c_ITEM : IntT mg "ITEM" 3
  c_PLAIN : IntT mg "PLAIN" 4
  c_FENCE_LENGTH : IntT mg "FENCE_LENGTH" 3
  c_DEEPEST_HEADING : IntT mg "DEEPEST_HEADING" 6
def lineN : List Str := ["kind", "number", "text", "row"]
theorem lineN_nd : lineN.Nodup := by decide +kernel
/-- a line stands at p -/
def LineAt (C : Addr) (H : Hp) (p : Addr) (m : LineM) : Prop := ∃ dx t r : Addr, H p = some (.ins C dx (lineN.zip [.int (m.kind : Int), .int (m.number : Int), .ref t, .ref r])) ∧ H t = some (.lst (bs m.text)) ∧ H r = some (.lst (bs m.row))
theorem LineAt.mono {C : Addr} {H H' : Hp} (s : Same H H') {p : Addr} {m : LineM} (h : LineAt C H p m) : LineAt C H' p m := by
  obtain ⟨dx, t, r, a, b, c⟩ := h
  exact ⟨dx, t, r, s _ _ a, s _ _ b, s _ _ c⟩
def RowAt (H : Hp) (p : Addr) (l : Bytes) : Prop := H p = some (.lst (bs l))
theorem RowAt.mono {H H' : Hp} (s : Same H H') {p : Addr} {l : Bytes} (h : RowAt H p l) : RowAt H' p l := s _ _ h
section
variable {P : Program} {w : World} {K : PySem.W.Frag} {mg : Str → Option Value} {base : Heap}
/-! ### Line -/
def sp_Line_init__ (C : Addr) : Sp := fun vs H Q _ => ∃ (p dx : Addr) (k n t r : V), vs = [.ref p, k, n, t, r] ∧ H p = some (.ins C dx []) ∧ Q .non (upd H p (.ins C dx (lineN.zip [k, n, t, r])))
theorem ok_Line_init__ (T : TxtLines K mg) : FnOk P w K mg base CX0 1 T.m_Line_init__.f T.m_Line_init__.fd ["self", "kind", "number", "text", "row"] (sp_Line_init__ T.k_Line.C) := by
  refine T.m_Line_init__.F.ok sc_Line_init__ (fun vs H Q E h => ?_) (fun cdv A outer s H vs Q E hr h => ?_)
  · obtain ⟨p, dx, k, n, t, r, rfl, _⟩ := h
    rfl
  · obtain ⟨p, dx, k, n, t, r, rfl, hp, q⟩ := h
    refine ⟨_, pss_cons (ps_fld (pv 0) (pv 1) rfl) (pss_cons (ps_fld (pv 0) (pv 2) rfl) (pss_cons (ps_fld (pv 0) (pv 3) rfl) (pss_one (ps_fld (pv 0) (pv 4) rfl)))), ?_⟩
    have e1 : putF "kind" k [] = (["kind"] : List Str).zip [k] := rfl
    have e2 : putF "number" n ((["kind"] : List Str).zip [k]) = (["kind", "number"] : List Str).zip [k, n] := put_no (by decide +kernel) rfl
    have e3 : putF "text" t ((["kind", "number"] : List Str).zip [k, n]) = (["kind", "number", "text"] : List Str).zip [k, n, t] := put_no (by decide +kernel) rfl
    have e4 : putF "row" r ((["kind", "number", "text"] : List Str).zip [k, n, t]) = lineN.zip [k, n, t, r] := put_no (by decide +kernel) rfl
    refine ⟨_, rfl, _, rfl, p, _, dx, _, rfl, hp, T.k_Line.cl, T.n_Line _ (by decide +kernel), (by show 0 < 1000; decide), ?_⟩
    refine ⟨_, rfl, _, rfl, p, _, dx, _, rfl, upd_same, T.k_Line.cl, T.n_Line _ (by decide +kernel), (by show 1 < 1000; decide), ?_⟩
    refine ⟨_, rfl, _, rfl, p, _, dx, _, rfl, upd_same, T.k_Line.cl, T.n_Line _ (by decide +kernel), (by rw [e1, e2]; show 2 < 1000; decide), ?_⟩
    refine ⟨_, rfl, _, rfl, p, _, dx, _, rfl, upd_same, T.k_Line.cl, T.n_Line _ (by decide +kernel), (by rw [e1, e2, e3]; show 3 < 1000; decide), ?_⟩
    show Q .non _
    rw [e1, e2, e3, e4, upd_upd, upd_upd, upd_upd]
    exact q
/-! ### run_length -/
def sp_run_length (K : PySem.W.Frag) : Sp := fun vs H Q _ => ∃ (a : Addr) (l : Bytes) (b : Nat) (k : UInt8), vs = [.ref a, .int (b : Int), bv k] ∧ SqL K H a (bs l) ∧ b ≤ l.length ∧ Q (.int (runLen (l.drop b) k : Int)) H
theorem run_at {l : Bytes} {k c : UInt8} {i : Nat} (h : i ≤ runLen l k) (hc : l[i]? = some c) (e : c = k) : i + 1 ≤ runLen l k := tw_at _ l i c h hc (beq_iff_eq.mpr e)
theorem run_stop {l : Bytes} {k : UInt8} {i : Nat} (h : i ≤ runLen l k) (hc : ∀ c, l[i]? = some c → c ≠ k) : i = runLen l k := tw_stop _ l i h fun c z => beq_eq_false_iff_ne.mpr (hc c z)
theorem ok_run_length (T : TxtLines K mg) : FnOk P w K mg base CX0 1 T.d_run_length.f T.d_run_length.fd ["row", "begin", "byte"] (sp_run_length K) := by
  refine T.d_run_length.F.ok sc_run_length (fun vs H Q E h => ?_) (fun cdv A outer s H vs Q E hr h => ?_)
  · obtain ⟨a, l, b, k, rfl, _⟩ := h
    rfl
  · obtain ⟨a, l, b, k, rfl, hS, hb, q⟩ := h
    refine ⟨_, pss_cons (ps_set (i := 3) sc_run_length.nd rfl (.inl rfl) (pv 1)) (pss_cons (ps_while PassesOwn.never (pw_and (pt_cmpR op_lt (pv 3) (pe_callB call_len_seq (by rfl) T.b_len PySem.boot_len (pa_cons (pv 0) pa_nil)) (nomark _)) (pw_and1 (pt_cmpR op_eq (pe_ix ix_list (pv 0) (pv 3) (fun _ _ => rfl)) (pv 2) (nomark _)))).pt (pss_one (ps_aug (i := 3) sc_run_length.nd rfl (.inl rfl) pe_int ip_add))) (pss_one (ps_ret (pe_op op_sub (pv 3) (pv 1))))), ?_⟩
    refine s_set (v_var rfl) ?_
    refine s_while (fun m σ H' => ∃ i : Nat, σ = [some (.ref a), some (.int (b : Int)), some (bv k), some (.int ((b + i : Nat) : Int))] ∧ H = H' ∧ i ≤ runLen (l.drop b) k ∧ m = l.length - (b + i)) (l.length - b) ⟨0, rfl, rfl, Nat.zero_le _, rfl⟩ ?_
    rintro m _ _ ⟨i, rfl, rfl, hi, rfl⟩
    have hlen := runLen_le (l.drop b) k
    rw [List.length_drop] at hlen
    have gd : ∀ {c}, l[b + i]? = some c → (l.drop b)[i]? = some c := fun h => by rw [List.getElem?_drop]; exact h
    by_cases c1 : b + i < l.length
    · have hx := List.getElem?_eq_getElem c1
      have test : Ans _ _ H _ := a_and (a_t (v_op (g := fun i j => .bl (decide (i < j))) (σ := [some (.ref a), some (.int (b : Int)), some (bv k), some (.int ((b + i : Nat) : Int))]) (v_var (i := 3) rfl) (v_len (v_var (i := 0) rfl) hS))) fun _ => a_t (v_eq (v_ix (v_var (i := 0) rfl) (v_var (i := 3) rfl) hS rfl (bs_get hx)) (v_var (i := 2) rfl))
      have e1 : decide (((b + i : Nat) : Int) < ((bs l).length : Int)) = true := decide_eq_true (by rw [bs_len]; omega)
      have e2 : decide ((l[b + i].toNat : Int) = (k.toNat : Int)) = (l[b + i] == k) := u8d _ _
      by_cases c2 : l[b + i] = k
      · refine ⟨true, a_to test (by rw [e1, e2, Bool.true_and]; exact beq_iff_eq.mpr c2), fun _ => ?_, nofun⟩
        refine s_aug rfl v_c ?_
        exact ⟨l.length - (b + (i + 1)), by omega, i + 1, rfl, rfl, run_at hi (gd hx) c2, rfl⟩
      · refine ⟨false, a_to test (by rw [e2, beq_eq_false_iff_ne.mpr c2, Bool.and_false]), nofun, fun _ => ?_⟩
        have ei : i = runLen (l.drop b) k := run_stop hi fun c hc => by
          rw [gd hx] at hc
          exact Option.some.inj hc ▸ c2
        refine s_ret (v_op (v_var rfl) (v_var rfl)) ?_
        have e3 : ((b + i : Nat) : Int) - (b : Int) = (runLen (l.drop b) k : Int) := by omega
        show Q (.int (((b + i : Nat) : Int) - (b : Int))) H
        rw [e3]
        exact q
    · refine ⟨false, a_to (a_and (b := false) (a_t (v_op (v_var rfl) (v_len (v_var rfl) hS))) fun z => absurd (of_decide_eq_true z) (by rw [bs_len]; omega)) (Bool.and_false _), nofun, fun _ => ?_⟩
      have ei : i = runLen (l.drop b) k := run_stop hi fun c hc => by
        rw [List.getElem?_drop] at hc
        exact absurd (List.getElem?_eq_some_iff.mp hc).1 c1
      refine s_ret (v_op (v_var rfl) (v_var rfl)) ?_
      have e3 : ((b + i : Nat) : Int) - (b : Int) = (runLen (l.drop b) k : Int) := by omega
      show Q (.int (((b + i : Nat) : Int) - (b : Int))) H
      rw [e3]
      exact q
theorem v_run {σ : L2.St} {H : Hp} {a : Addr} {l : Bytes} {b : Nat} {k : UInt8} (hS : SqL K H a (bs l)) (hb : b ≤ l.length) : SpV (sp_run_length K) [.ref a, .int (b : Int), bv k] H (.int (runLen (l.drop b) k : Int)) :=
  fun Q E q => ⟨a, l, b, k, rfl, hS, hb, q⟩
/-! ### is_blank_or_end -/
def sp_is_blank_or_end (K : PySem.W.Frag) : Sp := fun vs H Q _ => ∃ (a : Addr) (l : Bytes) (b : Nat), vs = [.ref a, .int (b : Int)] ∧ SqL K H a (bs l) ∧ b ≤ l.length ∧ Q (.bl (Ml.breaks (l.drop b))) H
theorem ok_is_blank_or_end (T : TxtLines K mg) : FnOk P w K mg base CX0 1 T.d_is_blank_or_end.f T.d_is_blank_or_end.fd ["row", "at"] (sp_is_blank_or_end K) := by
  refine T.d_is_blank_or_end.F.ok sc_is_blank_or_end (fun vs H Q E h => ?_) (fun cdv A outer s H vs Q E hr h => ?_)
  · obtain ⟨a, l, b, rfl, _⟩ := h
    rfl
  · obtain ⟨a, l, b, rfl, hS, hb, q⟩ := h
    refine ⟨_, pss_one (ps_ret (pe_or (pe_cmpR op_eq (pv 1) (pe_callB call_len_seq (by rfl) T.b_len PySem.boot_len (pa_cons (pv 0) pa_nil)) (nomark _)) (pe_one (pe_cmpR op_in_seq (pe_ix ix_list (pv 0) (pv 1) (fun _ _ => rfl)) (pe_kt (by rfl) T.c_BLANKS) (by with_unfolding_all rfl))))), ?_⟩
    by_cases c : b = l.length
    · refine s_ret (v_to (v_or (b := true) (v_eq (v_var rfl) (v_len (v_var rfl) hS)) fun z => absurd (show (b : Int) = ((bs l).length : Int) by rw [bs_len, c]) (of_decide_eq_false z)) (congrArg V.bl (Bool.or_true _))) ?_
      rw [List.drop_eq_nil_of_le (by omega)] at q
      exact q
    · obtain ⟨x, hx, hd⟩ := drop_lt (show b < l.length by omega)
      have e1 : decide ((b : Int) = ((bs l).length : Int)) = false := decide_eq_false (by rw [bs_len]; omega)
      refine s_ret (v_to (w := V.bl (Ml.breaks (l.drop b))) (v_or (v_eq (v_var rfl) (v_len (v_var rfl) hS)) fun z => v_in (v_ix (v_var rfl) (v_var rfl) hS rfl (bs_get hx)) v_c (T.c_BLANKS.q _) rfl) ?_) q
      rw [e1, Bool.false_or, in_blanks, hd]
      rfl
theorem v_brk {H : Hp} {a : Addr} {l : Bytes} {b : Nat} (hS : SqL K H a (bs l)) (hb : b ≤ l.length) : SpV (sp_is_blank_or_end K) [.ref a, .int (b : Int)] H (.bl (Ml.breaks (l.drop b))) :=
  fun Q E q => ⟨a, l, b, rfl, hS, hb, q⟩
theorem n_trim {H : Hp} {a : Addr} {l : Bytes} (hS : SqL K H a (bs l)) : SpN (sp_trimmed K) [.ref a] H (bs (Ml.trim l)) := fun Q E q => ⟨a, l, rfl, hS, q⟩
/-! ### read_line -/
def sp_read_line (C : Addr) : Sp := fun vs H Q _ => ∃ (a : Addr) (l : Bytes) (S : Addr → Prop), vs = [.ref a] ∧ Tr S H ∧ RowAt (hide H S) a l ∧ ∀ p H', Same H H' → H p = none → LineAt C (hide H' S) p (lineM l) → Q (.ref p) H'
theorem ok_read_line (T : TxtLines K mg) : FnOk P w K mg base CX0 3 T.d_read_line.f T.d_read_line.fd ["row"] (sp_read_line T.k_Line.C) := by
  refine T.d_read_line.F.ok sc_read_line (fun vs H Q E h => ?_) (fun cdv A outer s H vs Q E hr h => ?_)
  · obtain ⟨a, l, S, rfl, _⟩ := h
    rfl
  · obtain ⟨a, l, S, rfl, hTr, hRS, q⟩ := h
    have hR : RowAt H a l := hide_same _ _ hRS
    refine ⟨_, pss_cons (ps_set (i := 1) sc_read_line.nd rfl (.inl rfl) (pe_call (ok_trimmed T.toTxtSigns) (hr.mono (by decide)) (by rfl) T.d_trimmed.g T.d_trimmed.F.kp T.d_trimmed.b .nil pass0 (pa_cons (pv 0) pa_nil))) (pss_cons (ps_if (pt_cmpR op_eq (pe_callB call_len_seq (by rfl) T.b_len PySem.boot_len (pa_cons (pv 1) pa_nil)) pe_int (nomark _)) (pss_one (ps_ret (pe_make T.k_Line.made (ok_Line_init__ T) (hr.mono (by decide)) (by rfl) T.k_Line.g T.m_Line_init__.b .nil pass0 (pa_cons (pe_k (by rfl) T.c_BLANK) (pa_cons pe_int (pa_cons (pv 1) (pa_cons (pv 0) pa_nil))))))) pss_nil) (pss_cons (ps_if (pt_cmpR op_ge (pe_call (ok_run_length T) (hr.mono (by decide)) (by rfl) T.d_run_length.g T.d_run_length.F.kp T.d_run_length.b .nil pass0 (pa_cons (pv 0) (pa_cons pe_int (pa_cons (pe_k (by rfl) T.c_BACKQUOTE) pa_nil)))) (pe_k (by rfl) T.c_FENCE_LENGTH) (nomark _)) (pss_one (ps_ret (pe_make T.k_Line.made (ok_Line_init__ T) (hr.mono (by decide)) (by rfl) T.k_Line.g T.m_Line_init__.b .nil pass0 (pa_cons (pe_k (by rfl) T.c_FENCE) (pa_cons pe_int (pa_cons (pe_call (ok_trimmed T.toTxtSigns) (hr.mono (by decide)) (by rfl) T.d_trimmed.g T.d_trimmed.F.kp T.d_trimmed.b .nil pass0 (pa_cons (pe_slice sl_list (pv 0) (po_some (pe_k (by rfl) T.c_FENCE_LENGTH)) po_none) pa_nil)) (pa_cons (pv 0) pa_nil))))))) pss_nil) (pss_cons (ps_set (i := 2) sc_read_line.nd rfl (.inl rfl) (pe_call (ok_run_length T) (hr.mono (by decide)) (by rfl) T.d_run_length.g T.d_run_length.F.kp T.d_run_length.b .nil pass0 (pa_cons (pv 0) (pa_cons pe_int (pa_cons (pe_k (by rfl) T.c_NUMBER_SIGN) pa_nil))))) (pss_cons (ps_if (pw_and (pt_chain op_le op_le pe_int (pv 2) (pe_k (by rfl) T.c_DEEPEST_HEADING)) (pw_and1 (pt_val (pe_call (ok_is_blank_or_end T) (hr.mono (by decide)) (by rfl) T.d_is_blank_or_end.g T.d_is_blank_or_end.F.kp T.d_is_blank_or_end.b .nil pass0 (pa_cons (pv 0) (pa_cons (pv 2) pa_nil)))))).pt (pss_one (ps_ret (pe_make T.k_Line.made (ok_Line_init__ T) (hr.mono (by decide)) (by rfl) T.k_Line.g T.m_Line_init__.b .nil pass0 (pa_cons (pe_k (by rfl) T.c_HEADING) (pa_cons (pv 2) (pa_cons (pe_call (ok_trimmed T.toTxtSigns) (hr.mono (by decide)) (by rfl) T.d_trimmed.g T.d_trimmed.F.kp T.d_trimmed.b .nil pass0 (pa_cons (pe_slice sl_list (pv 0) (po_some (pv 2)) po_none) pa_nil)) (pa_cons (pv 0) pa_nil))))))) pss_nil) (pss_cons (ps_set (i := 3) sc_read_line.nd rfl (.inl rfl) (pe_call (ok_run_length T) (hr.mono (by decide)) (by rfl) T.d_run_length.g T.d_run_length.F.kp T.d_run_length.b .nil pass0 (pa_cons (pv 0) (pa_cons pe_int (pa_cons (pe_k (by rfl) T.c_SPACE) pa_nil))))) (pss_cons (ps_if (pw_and (pt_cmpR op_eq (pe_call (ok_run_length T) (hr.mono (by decide)) (by rfl) T.d_run_length.g T.d_run_length.F.kp T.d_run_length.b .nil pass0 (pa_cons (pv 0) (pa_cons (pv 3) (pa_cons (pe_k (by rfl) T.c_HYPHEN) pa_nil)))) pe_int (nomark _)) (pw_and1 (pt_val (pe_call (ok_is_blank_or_end T) (hr.mono (by decide)) (by rfl) T.d_is_blank_or_end.g T.d_is_blank_or_end.F.kp T.d_is_blank_or_end.b .nil pass0 (pa_cons (pv 0) (pa_cons (pe_op op_add (pv 3) pe_int) pa_nil)))))).pt (pss_one (ps_ret (pe_make T.k_Line.made (ok_Line_init__ T) (hr.mono (by decide)) (by rfl) T.k_Line.g T.m_Line_init__.b .nil pass0 (pa_cons (pe_k (by rfl) T.c_ITEM) (pa_cons (pe_op op_fdiv (pv 3) pe_int) (pa_cons (pe_call (ok_trimmed T.toTxtSigns) (hr.mono (by decide)) (by rfl) T.d_trimmed.g T.d_trimmed.F.kp T.d_trimmed.b .nil pass0 (pa_cons (pe_slice sl_list (pv 0) (po_some (pe_op op_add (pv 3) pe_int)) po_none) pa_nil)) (pa_cons (pv 0) pa_nil))))))) pss_nil) (pss_one (ps_ret (pe_make T.k_Line.made (ok_Line_init__ T) (hr.mono (by decide)) (by rfl) T.k_Line.g T.m_Line_init__.b .nil pass0 (pa_cons (pe_k (by rfl) T.c_PLAIN) (pa_cons pe_int (pa_cons (pv 1) (pa_cons (pv 0) pa_nil))))))))))))), ?_⟩
    -- a line made
    have fin : ∀ (H1 : Hp) (t : Addr) (k n : Nat) (txt : Bytes) (E' : XK), Same H H1 → RowAt (hide H1 S) t txt → lineM l = ⟨k, n, txt, l⟩ → ∀ x dx, H1 x = none → H1 dx = none → dx ≠ x →
        sp_Line_init__ T.k_Line.C [.ref x, .int (k : Int), .int (n : Int), .ref t, .ref a] (upd (upd H1 dx (.own x)) x (.ins T.k_Line.C dx [])) (fun v H2 => v = .non ∧ Q (.ref x) H2) E' := by
      intro H1 t k n txt E' sm ht hm x dx nx nd ne
      refine ⟨x, dx, _, _, _, _, rfl, upd_same, rfl, ?_⟩
      rw [upd_upd]
      have so : Same H1 (obj H1 x dx T.k_Line.C (lineN.zip [.int (k : Int), .int (n : Int), .ref t, .ref a])) := obj_same nx nd
      refine q x _ (sm.trans so) (Same.none sm nx) ?_
      rw [hm]
      have tr1 := hTr.mono sm
      exact ⟨dx, t, a, hide_at obj_at (tr1.not nx), hide_mono so _ _ ht, hide_mono (sm.trans so) _ _ hRS⟩
    -- trimmed(row)
    refine s_setN (n_call (va1 (v_var rfl)) (n_trim (SqL.of hR))) fun t ht => ?_
    have s1 : Same H (upd H t (.lst (bs (Ml.trim l)))) := same_upd ht
    have hTS : RowAt (hide (upd H t (.lst (bs (Ml.trim l)))) S) t (Ml.trim l) := hide_new hTr ht
    have hT : RowAt (upd H t (.lst (bs (Ml.trim l)))) t (Ml.trim l) := upd_same
    have hA : SqL K (upd H t (.lst (bs (Ml.trim l)))) a (bs l) := SqL.of (s1 _ _ hR)
    generalize upd H t (.lst (bs (Ml.trim l))) = H1 at s1 hT hTS hA ⊢
    refine s_if (a_t (v_eq (v_len (v_var rfl) (SqL.of hT)) v_c)) (fun c => ?_) fun c => ?_
    · have hb : Ml.trim l = [] := List.length_eq_zero_iff.mp (by have := of_decide_eq_true c; rw [bs_len] at this; omega)
      refine k_make (va_cons v_c (va_cons v_c (va_cons (v_var rfl) (va1 (v_var rfl))))) ?_
      exact fin H1 t 0 0 _ _ s1 hTS (lineM_blank hb)
    have hb : Ml.trim l ≠ [] := fun e => of_decide_eq_false c (by rw [bs_len, e]; rfl)
    -- a line whose text is the trimmed rest
    have cut : ∀ (n k num : Nat) (E' E2 : XK) (Q2 : VK), n ≤ l.length → lineM l = ⟨k, num, Ml.trim (l.drop n), l⟩ → ∀ s, H1 s = none → (∀ v H2, (∀ x dx, H2 x = none → H2 dx = none → dx ≠ x →
          sp_Line_init__ T.k_Line.C [.ref x, .int (k : Int), .int (num : Int), v, .ref a] (upd (upd H2 dx (.own x)) x (.ins T.k_Line.C dx [])) (fun v H2 => v = .non ∧ Q (.ref x) H2) E') → Q2 v H2) →
        sp_trimmed K [.ref s] (upd H1 s (.lst (cutV (bs l) (some (n : Int)) none))) Q2 E2 := by
      intro n k num E' E2 Q2 hn hm s hs hq
      refine n_trim (l := l.drop n) (SqL.of (by rw [upd_same, bs_cutn l n hn])) _ _ fun t2 ht2 => hq _ _ ?_
      exact fin _ t2 k num _ _ ((s1.trans (same_upd hs)).trans (same_upd ht2)) (hide_new (hTr.mono (s1.trans (same_upd hs))) ht2) hm
    refine s_if (a_t (v_ge (v_call (va_cons (v_var rfl) (va_cons v_c (va1 v_c))) (v_run (σ := []) (k := 96) (b := 0) hA (Nat.zero_le _))) v_c)) (fun c1 => ?_) fun c1 => ?_
    · have h1 : 3 ≤ runLen l 96 := by have := of_decide_eq_true c1; rw [List.drop_zero] at this; omega
      have h3 : 3 ≤ l.length := Nat.le_trans h1 (runLen_le _ _)
      refine k_ret (k_mk (ka_v v_c (ka_v v_c (ka (k_call (ka_n (n_cut (v_var rfl) (o_some v_c) o_none hA) fun s hs => ka_nil ?_))))))
      exact cut 3 1 0 _ _ _ h3 (lineM_fence hb h1) s hs fun v H2 z => ka_v (v_var rfl) (ka_nil z)
    have h1 : ¬ 3 ≤ runLen l 96 := fun z => of_decide_eq_false c1 (by rw [List.drop_zero]; omega)
    refine s_set (v_call (va_cons (v_var rfl) (va_cons v_c (va1 v_c))) (v_run (σ := []) (k := 35) (b := 0) hA (Nat.zero_le _))) ?_
    rw [List.drop_zero]
    have hl35 := runLen_le l 35
    have hl32 := runLen_le l 32
    have t2 : Ans _ [some (.ref a), some (.ref t), some (.int (runLen l 35 : Int)), none] H1 (decide (1 ≤ runLen l 35 ∧ runLen l 35 ≤ 6 ∧ Ml.breaks (l.drop (runLen l 35)) = true)) :=
      a_to (a_and (a_t (v_chain (g := fun i j => decide (i ≤ j)) (g' := fun i j => decide (i ≤ j)) v_c (v_var (i := 2) rfl) v_c)) fun _ => a_b (v_call (E := E0) (va_cons (v_var (i := 0) rfl) (va1 (v_var (i := 2) rfl))) (v_brk hA hl35)))
        (by
          by_cases c2 : 1 ≤ runLen l 35
          · by_cases c3 : runLen l 35 ≤ 6
            · rw [decide_eq_true (show (1 : Int) ≤ (runLen l 35 : Int) by omega), decide_eq_true (show (runLen l 35 : Int) ≤ 6 by omega)]
              cases hbr : Ml.breaks (l.drop (runLen l 35)) with
              | true => exact (decide_eq_true ⟨c2, c3, rfl⟩).symm
              | false => exact (decide_eq_false (fun z => by cases z.2.2)).symm
            · rw [decide_eq_false (show ¬ (runLen l 35 : Int) ≤ 6 by omega), Bool.and_false, Bool.false_and]
              exact (decide_eq_false (fun z => c3 z.2.1)).symm
          · rw [decide_eq_false (show ¬ (1 : Int) ≤ (runLen l 35 : Int) by omega), Bool.false_and, Bool.false_and]
            exact (decide_eq_false (fun z => c2 z.1)).symm)
    refine s_if t2 (fun c2 => ?_) fun c2 => ?_
    · have h2 := of_decide_eq_true c2
      refine k_ret (k_mk (ka_v v_c (ka_v (v_var rfl) (ka (k_call (ka_n (n_cut (v_var rfl) (o_some (v_var rfl)) o_none hA) fun s hs => ka_nil ?_))))))
      exact cut (runLen l 35) 2 (runLen l 35) _ _ _ hl35 (lineM_heading hb h1 h2) s hs fun v H2 z => ka_v (v_var rfl) (ka_nil z)
    have h2 := of_decide_eq_false c2
    refine s_set (v_call (va_cons (v_var rfl) (va_cons v_c (va1 v_c))) (v_run (σ := []) (k := 32) (b := 0) hA (Nat.zero_le _))) ?_
    rw [List.drop_zero]
    by_cases c3 : runLen (l.drop (runLen l 32)) 45 = 1 ∧ Ml.breaks (l.drop (runLen l 32 + 1)) = true
    · have hlen : runLen l 32 + 1 ≤ l.length := by
        have := runLen_le (l.drop (runLen l 32)) 45
        rw [List.length_drop] at this
        omega
      refine s_if (b := true) (a_to (a_and (a_t (v_eq (v_call (va_cons (v_var rfl) (va_cons (v_var rfl) (va1 v_c))) (v_run (σ := []) (k := 45) hA hl32)) v_c)) fun _ => a_b (v_call (va_cons (v_var rfl) (va1 (v_add (v_var rfl) v_c))) (v_brk (b := runLen l 32 + 1) hA hlen))) ?_) (fun _ => ?_) nofun
      · rw [c3.1, c3.2]
        rfl
      · refine k_ret (k_mk (ka_v v_c (ka_v (v_opC (v_var rfl) v_c ⟨by decide, by decide⟩) (ka (k_call (ka_n (n_cut (v_var rfl) (o_some (v_add (v_var rfl) v_c)) o_none hA) fun s hs => ka_nil ?_))))))
        exact cut (runLen l 32 + 1) 3 (runLen l 32 / 2) _ _ _ hlen (lineM_item hb h1 h2 c3) s hs fun v H2 z => ka_v (v_var rfl) (ka_nil z)
    · have t3 : ∃ b, b = false ∧ Ans (tAnd (tTest (tOp rEq (tCall (sp_run_length K) [] E0 (tCons (tVar 0) (tCons (tVar 3) (tCons (tC (.int 45)) tNil)))) (tC (.int 1)))) (tB (tCall (sp_is_blank_or_end K) [] E0 (tCons (tVar 0) (tCons (tOp (rI0 fun i j => .int (i + j)) (tVar 3) (tC (.int 1))) tNil)))))
          [some (.ref a), some (.ref t), some (.int (runLen l 35 : Int)), some (.int (runLen l 32 : Int))] H1 b := by
        by_cases c4 : runLen (l.drop (runLen l 32)) 45 = 1
        · have hlen : runLen l 32 + 1 ≤ l.length := by
            have := runLen_le (l.drop (runLen l 32)) 45
            rw [List.length_drop] at this
            omega
          refine ⟨_, ?_, a_and (a_t (v_eq (v_call (va_cons (v_var rfl) (va_cons (v_var rfl) (va1 v_c))) (v_run (σ := []) (k := 45) hA hl32)) v_c)) fun _ => a_b (v_call (va_cons (v_var rfl) (va1 (v_add (v_var rfl) v_c))) (v_brk (b := runLen l 32 + 1) hA hlen))⟩
          cases hbr : Ml.breaks (l.drop (runLen l 32 + 1)) with
          | true => exact absurd ⟨c4, hbr⟩ c3
          | false => exact Bool.and_false _
        · refine ⟨_, ?_, a_and (b := false) (a_t (v_eq (v_call (va_cons (v_var rfl) (va_cons (v_var rfl) (va1 v_c))) (v_run (σ := []) (k := 45) hA hl32)) v_c)) fun z => absurd (of_decide_eq_true z) (by omega)⟩
          exact Bool.and_false _
      obtain ⟨b, rfl, t3⟩ := t3
      refine s_if t3 nofun fun _ => ?_
      refine k_make (va_cons v_c (va_cons v_c (va_cons (v_var rfl) (va1 (v_var rfl))))) ?_
      exact fin H1 t 4 0 _ _ s1 hTS (lineM_plain hb h1 h2 c3)
/-! ### split_rows -/
def sp_split_rows (K : PySem.W.Frag) : Sp := fun vs H Q _ => ∃ (a : Addr) (t : Bytes) (S : Addr → Prop), vs = [.ref a] ∧ SqL K H a (bs t) ∧ t.length < 1000000 ∧ Tr S H ∧
  ∀ p ps H', Same H H' → H p = none → H' p = some (.lst (refs ps)) → AllAt (RowAt (hide H' S)) ps (Ml.lines t) → Q (.ref p) H'
theorem lines_at {t : Bytes} {b i : Nat} {rows : List Bytes} (h : Ml.lines t = rows ++ Ml.lines (t.drop b)) (hb : b ≤ i) (hn : ∀ c ∈ (t.drop b).take (i - b), c ≠ 10) (hi : t[i]? = some 10) :
    Ml.lines t = (rows ++ [(t.drop b).take (i - b)]) ++ Ml.lines (t.drop (i + 1)) := by
  have e1 : (t.drop b)[i - b]? = some 10 := by
    rw [List.getElem?_drop, Nat.add_sub_cancel' hb]
    exact hi
  have e2 : t.drop b = (t.drop b).take (i - b) ++ 10 :: t.drop (i + 1) := by
    have e3 := drop_cons_of e1
    have e4 : (t.drop b).drop (i - b + 1) = t.drop (i + 1) := by
      rw [List.drop_drop]
      congr 1
      omega
    rw [e4] at e3
    conv => lhs; rw [← List.take_append_drop (i - b) (t.drop b)]
    rw [e3]
  rw [h]
  conv => lhs; rw [e2]
  rw [lines_seg _ _ hn, List.append_assoc]
  rfl
theorem lines_count : ∀ t : Bytes, (Ml.lines t).length ≤ t.length + 1 := fun t => by
  have := LW_len (Ml.lines t)
  rw [LW_lines] at this
  exact this
theorem ok_split_rows (T : TxtLines K mg) : FnOk P w K mg base CX0 1 T.d_split_rows.f T.d_split_rows.fd ["text"] (sp_split_rows K) := by
  refine T.d_split_rows.F.ok sc_split_rows (fun vs H Q E h => ?_) (fun cdv A outer s H vs Q E hr h => ?_)
  · obtain ⟨a, t, S, rfl, _⟩ := h
    rfl
  · obtain ⟨a, t, S, rfl, hS, hz, hTr, q⟩ := h
    refine ⟨_, pss_cons (ps_set (i := 1) sc_split_rows.nd rfl (.inl rfl) (pe_lst pa_nil)) (pss_cons (ps_set (i := 2) sc_split_rows.nd rfl (.inl rfl) pe_int) (pss_cons (ps_for PassesOwn.never rfl (pi_enum (by rfl) T.b_enumerate (pa_cons (pv 0) pa_nil)) (pg_tup rfl (pgs_cons (pg_name (i := 3) sc_split_rows.nd rfl (.inl rfl)) (pgs_cons (pg_name (i := 4) sc_split_rows.nd rfl (.inl rfl)) pgs_nil))) (pss_one (ps_if (pt_cmpR op_eq (pv 4) (pe_k (by rfl) T.c_NEWLINE) (nomark _)) (pss_cons (ps_expr (pe_bm PySem.F.plainAttrs_list PySem.F.slot_list_append PySem.F.type_list_append mt_append (pv 1) (pa_cons (pe_slice sl_list (pv 0) (po_some (pv 2)) (po_some (pv 3))) pa_nil))) (pss_one (ps_set (i := 2) sc_split_rows.nd rfl (.inl rfl) (pe_op op_add (pv 3) pe_int)))) pss_nil))) (pss_cons (ps_expr (pe_bm PySem.F.plainAttrs_list PySem.F.slot_list_append PySem.F.type_list_append mt_append (pv 1) (pa_cons (pe_slice sl_list (pv 0) (po_some (pv 2)) po_none) pa_nil))) (pss_one (ps_ret (pv 1)))))), ?_⟩
    refine s_setN (n_lst va_nil (Nat.zero_le _)) fun o no => ?_
    refine s_set v_c ?_
    have hz2 : (1000000 : Nat) < sizeLine := by decide
    have hlc := lines_count t
    refine s_forE (v_var rfl) ((same_upd no).seq hS) (fun i σ H' => ∃ (b : Nat) (ps : List Addr) (rows : List Bytes) (x y : Option V), σ = [some (.ref a), some (.ref o), some (.int (b : Int)), x, y] ∧ Same H H' ∧ H' o = some (.lst (refs ps)) ∧ AllAt (RowAt (hide H' (wi S o))) ps rows ∧
        b ≤ i ∧ Ml.lines t = rows ++ Ml.lines (t.drop b) ∧ ∀ c ∈ (t.drop b).take (i - b), c ≠ 10) ⟨0, [], [], none, none, rfl, same_upd no, upd_same, AllAt.nil, Nat.le_refl _, by rw [List.drop_zero]; rfl, fun c hc => by rw [Nat.sub_self, List.take_zero] at hc; cases hc⟩
      (fun i σ' H' _ ⟨_, _, _, _, _, _, s5, _⟩ => s5.seq hS) ?_ ?_
    · rintro i v σ' H' Tp hv ⟨b, ps, rows, x, y, rfl, sm, ho, hA, hbi, hl, hn⟩ nT
      obtain ⟨c, hc, rfl⟩ := bs_of hv
      have hit : i < t.length := (List.getElem?_eq_some_iff.mp hc).1
      have smT : Same H' (upd H' Tp (.tup [.int (i : Int), bv c])) := same_upd nT
      refine s_if (a_t (v_eq (v_var rfl) v_c)) (fun e => ?_) fun e => ?_
      · have e10 : c = 10 := (u8i c 10).mp (of_decide_eq_true e)
        subst e10
        have hl2 := lines_at hl hbi hn hc
        have hcnt : rows.length + 1 ≤ t.length + 1 := by
          have e5 : (Ml.lines t).length = rows.length + 1 + (Ml.lines (t.drop (i + 1))).length := by
            rw [hl2, List.length_append, List.length_append]
            rfl
          omega
        refine s_appendH (v_var rfl) (smT _ _ ho) ?_
        refine n_cut (v_var rfl) (o_some (v_var rfl)) (o_some (v_var rfl)) (smT.seq (sm.seq hS)) _ fun r hr => ?_
        have sr : Same H' (upd (upd H' Tp (.tup [.int (i : Int), bv 10])) r (.lst (cutV (bs t) (some (b : Int)) (some (i : Int))))) := smT.trans (same_upd hr)
        have nor : o ≠ r := ne_none (smT _ _ ho) hr
        refine ⟨o, refs ps, .ref r, rfl, rfl, sr _ _ ho, by rw [refs_len, hA.1]; omega, ?_⟩
        refine s_set (v_add (v_var rfl) v_c) ?_
        refine ⟨i + 1, ps ++ [r], rows ++ [(t.drop b).take (i - b)], _, _, rfl, ?_, ?_, ?_, Nat.le_refl _, hl2, fun c hc => by rw [Nat.sub_self, List.take_zero] at hc; cases hc⟩
        · intro z u hu
          rw [upd_ne (ne_none hu no)]
          exact sr _ _ (sm _ _ hu)
        · rw [upd_same, refs_snoc]
        · rw [wi_write]
          refine AllAt.snoc (hA.mono fun p l hp => hp.mono (hide_mono sr)) ?_
          have tr2 : Tr (wi S o) (upd H' Tp (.tup [.int (i : Int), bv 10])) := wi_tr (hTr.mono (sm.trans smT)) (smT _ _ ho)
          have := hide_new (o := .lst (cutV (bs t) (some (b : Int)) (some (i : Int)))) tr2 hr
          rw [bs_cut t b i hbi (Nat.le_of_lt hit)] at this ⊢
          exact this
      · refine ⟨b, ps, rows, _, _, rfl, sm.trans smT, smT _ _ ho, hA.mono fun p l hp => hp.mono (hide_mono smT), Nat.le_succ_of_le hbi, hl, fun x hx => ?_⟩
        have e1 : (t.drop b)[i - b]? = some c := by
          rw [List.getElem?_drop, Nat.add_sub_cancel' hbi]
          exact hc
        have e2 : i + 1 - b = i - b + 1 := by omega
        rw [e2, take_more e1] at hx
        rcases List.mem_append.mp hx with hx | hx
        · exact hn x hx
        · rw [List.mem_singleton.mp hx]
          exact fun z => of_decide_eq_false e ((u8i c 10).mpr z)
    · rintro σ' H' ⟨b, ps, rows, x, y, rfl, sm, ho, hA, hbi, hl, hn⟩
      rw [bs_len] at hbi hn
      have hn' : Ml.lines (t.drop b) = [t.drop b] := lines_last _ fun c hc => hn c (by rw [List.take_of_length_le (by rw [List.length_drop]; exact Nat.le_refl _)]; exact hc)
      rw [hn'] at hl
      have hcnt : rows.length + 1 ≤ t.length + 1 := by
        rw [hl, List.length_append] at hlc
        exact hlc
      refine s_appendH (v_var rfl) ho ?_
      refine n_cut (v_var rfl) (o_some (v_var rfl)) o_none (sm.seq hS) _ fun r hr => ?_
      have sr : Same H' (upd H' r (.lst (cutV (bs t) (some (b : Int)) none))) := same_upd hr
      have nor : o ≠ r := ne_none ho hr
      refine ⟨o, refs ps, .ref r, rfl, rfl, sr _ _ ho, by rw [refs_len, hA.1]; omega, ?_⟩
      refine s_ret (v_var rfl) ?_
      refine q o (ps ++ [r]) _ (fun z u hu => ?_) no ?_ ?_
      · rw [upd_ne (ne_none hu no)]
        exact sr _ _ (sm _ _ hu)
      · rw [upd_same, refs_snoc]
      · rw [hl]
        have tr2 : Tr (wi S o) H' := wi_tr (hTr.mono sm) ho
        have h2 := hide_new (o := .lst (cutV (bs t) (some (b : Int)) none)) tr2 hr
        rw [bs_cutn t b hbi] at h2 sr ⊢
        refine AllAt.mono (AllAt.snoc (hA.mono fun p l hp => hp.mono (hide_mono sr)) h2) fun p l hp => ?_
        refine RowAt.mono ?_ hp
        refine Same.trans ?_ (wi_sub (D := o))
        rw [wi_write]
        exact Same.refl _
/-! ### read_lines -/
def sp_read_lines (K : PySem.W.Frag) (C : Addr) : Sp := fun vs H Q _ => ∃ (a : Addr) (t : Bytes) (S : Addr → Prop), vs = [.ref a] ∧ SqL K H a (bs t) ∧ t.length < 1000000 ∧ Tr S H ∧
  ∀ p ps H', Same H H' → H p = none → H' p = some (.lst (refs ps)) → AllAt (LineAt C (hide H' S)) ps ((Ml.lines t).map lineM) → Q (.ref p) H'
theorem ok_read_lines (T : TxtLines K mg) : FnOk P w K mg base CX0 4 T.d_read_lines.f T.d_read_lines.fd ["text"] (sp_read_lines K T.k_Line.C) := by
  refine T.d_read_lines.F.ok sc_read_lines (fun vs H Q E h => ?_) (fun cdv A outer s H vs Q E hr h => ?_)
  · obtain ⟨a, t, S, rfl, _⟩ := h
    rfl
  · obtain ⟨a, t, S, rfl, hS, hz, hTr, q⟩ := h
    refine ⟨_, pss_one (ps_ret (pe_lc (own := [("row", 1)]) (g := gName 1) (tt := tYes) rfl sc_read_lines.nd (pi_list (pe_call (ok_split_rows T) (hr.mono (by decide)) (by rfl) T.d_split_rows.g T.d_split_rows.F.kp T.d_split_rows.b .nil pass0 (pa_cons (pv 0) pa_nil))) (blkOk_by (N := ["text", "row"]) (sc := defScope s_read_lines) (by decide +kernel)) (fun _ _ _ _ _ => pg_name (i := 1) sc_read_lines.nd rfl (Or.inl rfl)) (fun _ _ _ _ _ => pts_nil) (fun _ _ _ _ _ => (pe_call (ok_read_line T) (hr.mono (by decide)) (by rfl) T.d_read_line.g T.d_read_line.F.kp T.d_read_line.b .nil pass0 (pa_cons (pv 1) pa_nil))))), ?_⟩
    have hz2 : (1000001 : Nat) < sizeLine := by decide
    have hlc := lines_count t
    refine k_ret ?_
    refine k_call (ka_v (v_var rfl) (ka_nil ?_))
    refine ⟨a, t, S, rfl, hS, hz, hTr, fun p ps H1 s1 np hp hA => ?_⟩
    refine ⟨p, rfl, ⟨_, SqL.of hp⟩, fun D nD => ?_⟩
    have hlen : ps.length = (Ml.lines t).length := hA.1
    have tr1 := hTr.mono s1
    refine lc_list (K := K) (a := p) (xs := refs ps) (fun i H' => ∃ qs, Same H1 H' ∧ H' D = some (.lst (refs qs)) ∧ qs.length = i ∧ AllAt (LineAt T.k_Line.C (hide H' (wi S D))) qs (((Ml.lines t).take i).map lineM))
      ⟨[], same_upd nD, upd_same, rfl, by rw [List.take_zero]; exact AllAt.nil⟩ (fun i H' _ ⟨_, s2, _⟩ => s2.seq (SqL.of hp)) ?_ ?_
    · rintro i x H' hx ⟨qs, s2, hD, hq, hQ⟩
      obtain ⟨r, hr', rfl⟩ := refs_of hx
      obtain ⟨l, hl, hR⟩ := hA.getP hr'
      have hil : i < ps.length := (List.getElem?_eq_some_iff.mp hr').1
      refine ⟨rfl, k_yes (k_call (ka_v (v_var rfl) (ka_nil ?_)))⟩
      refine ⟨r, l, wi S D, rfl, wi_tr (tr1.mono s2) hD, hR.mono (wi_same s2 nD), fun y H2 s3 ny hy => ?_⟩
      refine ⟨refs qs, s3 _ _ hD, by rw [refs_len]; omega, qs ++ [y], fun z u hu => ?_, ?_, by rw [List.length_append, hq]; rfl, ?_⟩
      · rw [upd_ne (ne_none hu nD)]
        exact s3 _ _ (s2 _ _ hu)
      · rw [upd_same, refs_snoc]
      · rw [take_more hl, List.map_append, wi_write]
        exact AllAt.snoc (hQ.mono fun q m hq => hq.mono (hide_mono s3)) hy
    · rintro H' ⟨qs, s2, hD, hq, hQ⟩
      rw [refs_len, hlen, List.take_length] at hQ
      exact q D qs H' (s1.trans s2) (Same.none s1 nD) hD (hQ.mono fun _ _ z => z.mono wi_sub)
end
end Mk
namespace Mk
open PySem PySem.Spec PyProof.Rows L2
open Ml (Bytes Tok Piece Event Block)
abbrev s_Block_init__ : Stmt := inClass (top 31) 0
theorem sc_Block_init__ : FnScope ["self", "kind", "number", "text", "rows"] ["self", "kind", "number", "text", "rows"] (defScope s_Block_init__) := ⟨rfl, rfl, rfl, by decide +kernel, rfl, by decide +kernel, by decide +kernel⟩
abbrev s_read_blocks : Stmt := top 32
theorem sc_read_blocks : FnScope ["lines", "blocks", "at", "line", "end", "inner"] ["lines"] (defScope s_read_blocks) := ⟨rfl, rfl, rfl, by decide +kernel, rfl, by decide +kernel, by decide +kernel⟩
abbrev s_block_end : Stmt := top 33
theorem sc_block_end : FnScope ["lines", "at", "kind", "end"] ["lines", "at"] (defScope s_block_end) := ⟨rfl, rfl, rfl, by decide +kernel, rfl, by decide +kernel, by decide +kernel⟩
abbrev s_closes_code : Stmt := top 34
theorem sc_closes_code : FnScope ["line", "row"] ["line"] (defScope s_closes_code) := ⟨rfl, rfl, rfl, by decide +kernel, rfl, by decide +kernel, by decide +kernel⟩
abbrev s_joined_texts : Stmt := top 35
theorem sc_joined_texts : FnScope ["lines", "text", "line"] ["lines"] (defScope s_joined_texts) := ⟨rfl, rfl, rfl, by decide +kernel, rfl, by decide +kernel, by decide +kernel⟩
structure TxtBlocks (K : PySem.W.Frag) (mg : Str → Option Value) extends TxtLines K mg where
  m_Block_init__ : InitT K "Block.__init__" s_Block_init__ ["self", "kind", "number", "text", "rows"]
  k_Block : ClsT K mg "Block" m_Block_init__.f
  n_Block : ∀ f ∈ (["kind", "number", "text", "rows"] : List Str), NoAttr K k_Block.C f
  d_read_blocks : DefT K mg "read_blocks" s_read_blocks ["lines"]
  d_block_end : DefT K mg "block_end" s_block_end ["lines", "at"]
  d_closes_code : DefT K mg "closes_code" s_closes_code ["line"]
  d_joined_texts : DefT K mg "joined_texts" s_joined_texts ["lines"]
def blockN : List Str := ["kind", "number", "text", "rows"]
theorem blockN_nd : blockN.Nodup := by decide +kernel
/-- a block stands at p -/
def BlockAt (C : Addr) (H : Hp) (p : Addr) (m : BlockM) : Prop := ∃ (dx t r : Addr) (rs : List Addr), H p = some (.ins C dx (blockN.zip [.int (m.kind : Int), .int (m.number : Int), .ref t, .ref r])) ∧ H t = some (.lst (bs m.text)) ∧ H r = some (.lst (refs rs)) ∧ AllAt (RowAt H) rs m.rows
theorem BlockAt.mono {C : Addr} {H H' : Hp} (s : Same H H') {p : Addr} {m : BlockM} (h : BlockAt C H p m) : BlockAt C H' p m := by
  obtain ⟨dx, t, r, rs, a, b, c, d⟩ := h
  exact ⟨dx, t, r, rs, s _ _ a, s _ _ b, s _ _ c, d.mono fun _ _ z => z.mono s⟩
section
variable {P : Program} {w : World} {K : PySem.W.Frag} {mg : Str → Option Value} {base : Heap}
/-! ### Block -/
def sp_Block_init__ (C : Addr) : Sp := fun vs H Q _ => ∃ (p dx : Addr) (k n t r : V), vs = [.ref p, k, n, t, r] ∧ H p = some (.ins C dx []) ∧ Q .non (upd H p (.ins C dx (blockN.zip [k, n, t, r])))
theorem ok_Block_init__ (T : TxtBlocks K mg) : FnOk P w K mg base CX0 1 T.m_Block_init__.f T.m_Block_init__.fd ["self", "kind", "number", "text", "rows"] (sp_Block_init__ T.k_Block.C) := by
  refine T.m_Block_init__.F.ok sc_Block_init__ (fun vs H Q E h => ?_) (fun cdv A outer s H vs Q E hr h => ?_)
  · obtain ⟨p, dx, k, n, t, r, rfl, _⟩ := h
    rfl
  · obtain ⟨p, dx, k, n, t, r, rfl, hp, q⟩ := h
    refine ⟨_, pss_cons (ps_fld (pv 0) (pv 1) rfl) (pss_cons (ps_fld (pv 0) (pv 2) rfl) (pss_cons (ps_fld (pv 0) (pv 3) rfl) (pss_one (ps_fld (pv 0) (pv 4) rfl)))), ?_⟩
    have e1 : putF "kind" k [] = (["kind"] : List Str).zip [k] := rfl
    have e2 : putF "number" n ((["kind"] : List Str).zip [k]) = (["kind", "number"] : List Str).zip [k, n] := put_no (by decide +kernel) rfl
    have e3 : putF "text" t ((["kind", "number"] : List Str).zip [k, n]) = (["kind", "number", "text"] : List Str).zip [k, n, t] := put_no (by decide +kernel) rfl
    have e4 : putF "rows" r ((["kind", "number", "text"] : List Str).zip [k, n, t]) = blockN.zip [k, n, t, r] := put_no (by decide +kernel) rfl
    refine ⟨_, rfl, _, rfl, p, _, dx, _, rfl, hp, T.k_Block.cl, T.n_Block _ (by decide +kernel), (by show 0 < 1000; decide), ?_⟩
    refine ⟨_, rfl, _, rfl, p, _, dx, _, rfl, upd_same, T.k_Block.cl, T.n_Block _ (by decide +kernel), (by show 1 < 1000; decide), ?_⟩
    refine ⟨_, rfl, _, rfl, p, _, dx, _, rfl, upd_same, T.k_Block.cl, T.n_Block _ (by decide +kernel), (by rw [e1, e2]; show 2 < 1000; decide), ?_⟩
    refine ⟨_, rfl, _, rfl, p, _, dx, _, rfl, upd_same, T.k_Block.cl, T.n_Block _ (by decide +kernel), (by rw [e1, e2, e3]; show 3 < 1000; decide), ?_⟩
    show Q .non _
    rw [e1, e2, e3, e4, upd_upd, upd_upd, upd_upd]
    exact q
/-! ### reading a line's fields -/
section
variable {σ : L2.St} {H : Hp} {te : TE} {p dx t r : Addr} {k n : Int} {C : Addr}
theorem v_Lkind (T : TxtLines K mg) (h : Val te σ H (.ref p)) (ho : H p = some (.ins T.k_Line.C dx (lineN.zip [.int k, .int n, .ref t, .ref r]))) : Val (tFld K te "kind") σ H (.int k) :=
  v_fld h ho T.k_Line.cl (T.n_Line _ (by decide +kernel)) (lk_zip lineN_nd (i := 0) rfl rfl)
theorem v_Lnumber (T : TxtLines K mg) (h : Val te σ H (.ref p)) (ho : H p = some (.ins T.k_Line.C dx (lineN.zip [.int k, .int n, .ref t, .ref r]))) : Val (tFld K te "number") σ H (.int n) :=
  v_fld h ho T.k_Line.cl (T.n_Line _ (by decide +kernel)) (lk_zip lineN_nd (i := 1) rfl rfl)
theorem v_Ltext (T : TxtLines K mg) (h : Val te σ H (.ref p)) (ho : H p = some (.ins T.k_Line.C dx (lineN.zip [.int k, .int n, .ref t, .ref r]))) : Val (tFld K te "text") σ H (.ref t) :=
  v_fld h ho T.k_Line.cl (T.n_Line _ (by decide +kernel)) (lk_zip lineN_nd (i := 2) rfl rfl)
theorem v_Lrow (T : TxtLines K mg) (h : Val te σ H (.ref p)) (ho : H p = some (.ins T.k_Line.C dx (lineN.zip [.int k, .int n, .ref t, .ref r]))) : Val (tFld K te "row") σ H (.ref r) :=
  v_fld h ho T.k_Line.cl (T.n_Line _ (by decide +kernel)) (lk_zip lineN_nd (i := 3) rfl rfl)
end
/-! ### closes_code -/
def sp_closes_code (C : Addr) : Sp := fun vs H Q _ => ∃ (p : Addr) (m : LineM), vs = [.ref p] ∧ LineAt C H p m ∧ ∀ H', Same H H' → Q (.bl (decide (Ml.trim m.row = Ml.FENCE))) H'
theorem fence_iff (l : Bytes) : (l.length = 3 ∧ runLen l 96 = 3) ↔ l = Ml.FENCE := by
  constructor
  · rintro ⟨h1, h2⟩
    have h3 := (take3 l).mpr (by omega)
    rw [List.take_of_length_le (by omega)] at h3
    exact h3
  · rintro rfl
    exact ⟨rfl, rfl⟩
theorem ok_closes_code (T : TxtBlocks K mg) : FnOk P w K mg base CX0 2 T.d_closes_code.f T.d_closes_code.fd ["line"] (sp_closes_code T.k_Line.C) := by
  refine T.d_closes_code.F.ok sc_closes_code (fun vs H Q E h => ?_) (fun cdv A outer s H vs Q E hr h => ?_)
  · obtain ⟨p, m, rfl, _⟩ := h
    rfl
  · obtain ⟨p, m, rfl, ⟨dx, t, r, hp, ht, hrw⟩, q⟩ := h
    refine ⟨_, pss_cons (ps_set (i := 1) sc_closes_code.nd rfl (.inl rfl) (pe_call (ok_trimmed T.toTxtSigns) (hr.mono (by decide)) (by rfl) T.d_trimmed.g T.d_trimmed.F.kp T.d_trimmed.b .nil pass0 (pa_cons (pe_fld (pv 0) rfl) pa_nil))) (pss_one (ps_ret (pe_and (pe_cmpR op_eq (pe_callB call_len_seq (by rfl) T.b_len PySem.boot_len (pa_cons (pv 1) pa_nil)) (pe_k (by rfl) T.c_FENCE_LENGTH) (nomark _)) (pe_one (pe_cmpR op_eq (pe_call (ok_run_length T.toTxtLines) (hr.mono (by decide)) (by rfl) T.d_run_length.g T.d_run_length.F.kp T.d_run_length.b .nil pass0 (pa_cons (pv 1) (pa_cons pe_int (pa_cons (pe_k (by rfl) T.c_BACKQUOTE) pa_nil)))) (pe_k (by rfl) T.c_FENCE_LENGTH) (nomark _)))))), ?_⟩
    refine s_setN (n_call (va1 (v_Lrow T.toTxtLines (v_var rfl) hp)) (n_trim (SqL.of hrw))) fun u hu => ?_
    have s1 : Same H (upd H u (.lst (bs (Ml.trim m.row)))) := same_upd hu
    have hU : SqL K (upd H u (.lst (bs (Ml.trim m.row)))) u (bs (Ml.trim m.row)) := SqL.of upd_same
    refine s_ret (v_to (w := .bl (decide (Ml.trim m.row = Ml.FENCE))) (v_and (v_eq (v_len (v_var rfl) hU) v_c) fun _ => v_eq (v_call (va_cons (v_var rfl) (va_cons v_c (va1 v_c))) (v_run (σ := []) (k := 96) (b := 0) hU (Nat.zero_le _))) v_c) ?_) (q _ s1)
    rw [List.drop_zero, bs_len]
    by_cases c : Ml.trim m.row = Ml.FENCE
    · obtain ⟨a, b⟩ := (fence_iff _).mpr c
      rw [decide_eq_true c, a, b]
      rfl
    · rw [decide_eq_false c]
      by_cases a : (Ml.trim m.row).length = 3
      · have b : ¬ runLen (Ml.trim m.row) 96 = 3 := fun z => c ((fence_iff _).mp ⟨a, z⟩)
        rw [decide_eq_false (show ¬ ((runLen (Ml.trim m.row) 96 : Int) = 3) by omega), Bool.and_false]
      · rw [decide_eq_false (show ¬ (((Ml.trim m.row).length : Int) = 3) by omega), Bool.false_and]
/-! ### joined_texts -/
def texts (ls : List Bytes) : List Bytes := ls.map fun l => (lineM l).text
def sp_joined_texts (K : PySem.W.Frag) (C : Addr) : Sp := fun vs H Q _ => ∃ (a : Addr) (ps : List Addr) (ls : List Bytes) (S : Addr → Prop), vs = [.ref a] ∧ SqL K H a (refs ps) ∧ AllAt (LineAt C (hide H S)) ps (ls.map lineM) ∧ Tr S H ∧ LW ls < 1000002 ∧
  ∀ p H', Same H H' → H p = none → RowAt (hide H' S) p (joinP (texts ls)) → Q (.ref p) H'
theorem ok_joined_texts (T : TxtBlocks K mg) : FnOk P w K mg base CX0 1 T.d_joined_texts.f T.d_joined_texts.fd ["lines"] (sp_joined_texts K T.k_Line.C) := by
  refine T.d_joined_texts.F.ok sc_joined_texts (fun vs H Q E h => ?_) (fun cdv A outer s H vs Q E hr h => ?_)
  · obtain ⟨a, ps, ls, S, rfl, _⟩ := h
    rfl
  · obtain ⟨a, ps, ls, S, rfl, hS, hA, hTr, hz, q⟩ := h
    refine ⟨_, pss_cons (ps_set (i := 1) sc_joined_texts.nd rfl (.inl rfl) (pe_lst pa_nil)) (pss_cons (ps_for PassesOwn.never rfl (pi_list (pv 0)) (pg_name (i := 2) sc_joined_texts.nd rfl (.inl rfl)) (pss_cons (ps_if (pt_cmpR op_gt (pe_callB call_len_seq (by rfl) T.b_len PySem.boot_len (pa_cons (pv 1) pa_nil)) pe_int (nomark _)) (pss_one (ps_expr (pe_bm PySem.F.plainAttrs_list PySem.F.slot_list_append PySem.F.type_list_append mt_append (pv 1) (pa_cons (pe_k (by rfl) T.c_NEWLINE) pa_nil)))) pss_nil) (pss_one (ps_expr (pe_bm PySem.F.plainAttrs_list PySem.F.slot_list_extend PySem.F.type_list_extend mt_extend (pv 1) (pa_cons (pe_fld (pv 2) rfl) pa_nil)))))) (pss_one (ps_ret (pv 1)))), ?_⟩
    have hz2 : (1000003 : Nat) < sizeLine := by decide
    refine s_setN (n_lst va_nil (Nat.zero_le _)) fun o no => ?_
    refine s_forL (v_var rfl) ((same_upd no).seq hS) (fun i σ H' => ∃ x, σ = [some (.ref a), some (.ref o), x] ∧ Same H H' ∧ H' o = some (.lst (bs (joinP (texts (ls.take i)))))) ⟨none, rfl, same_upd no, upd_same⟩
      (fun i σ' H' _ ⟨_, _, s5, _⟩ => s5.seq hS) ?_ ?_
    · rintro i x σ' H' hx ⟨x0, rfl, sm, ho⟩
      obtain ⟨p, hp, rfl⟩ := refs_of hx
      obtain ⟨m, hm, hL⟩ := hA.getP hp
      rw [List.getElem?_map] at hm
      obtain ⟨l, hl, rfl⟩ : ∃ l, ls[i]? = some l ∧ m = lineM l := by
        cases e : ls[i]? with
        | none => rw [e] at hm; cases hm
        | some l => rw [e] at hm; exact ⟨l, rfl, (Option.some.inj hm).symm⟩
      have hw : (joinP (texts (ls.take (i + 1)))).length ≤ LW ls := Nat.le_trans (joinP_len _ _ lineM_text_len) (by have := LW_take_drop (i + 1) ls; omega)
      have hstep : joinP (texts (ls.take (i + 1))) = put (joinP (texts (ls.take i))) (lineM l).text := by
        rw [take_more hl]
        unfold texts
        rw [List.map_append]
        exact joinP_more _ _
      rw [hstep] at hw
      have hL1 := hL.mono (wi_same (S := S) sm no)
      have hL2 : ∀ v, LineAt T.k_Line.C (upd H' o v) p (lineM l) := fun v => by
        have : Same (hide H' (wi S o)) (upd H' o v) := by
          refine Same.trans ?_ (hide_same (S := wi S o))
          rw [wi_write]
          exact Same.refl _
        exact hL1.mono this
      have fin : ∀ (D : Ends) (acc : Bytes), (∀ σ H', (∃ x, σ = [some (.ref a), some (.ref o), x] ∧ Same H H' ∧ H' o = some (.lst (bs (joinP (texts (ls.take (i + 1))))))) → D.nx σ H') → acc.length + (lineM l).text.length ≤ LW ls → ∀ H2, H2 = upd H' o (.lst (bs acc)) →
          put (joinP (texts (ls.take i))) (lineM l).text = acc ++ (lineM l).text →
          tDrop (tBM K "list" rExtend (tVar 1) (tCons (tFld K (tVar 2) "text") tNil)) D [some (.ref a), some (.ref o), some (.ref p)] H2 := by
        intro D acc hD hacc H2 e2 e3
        obtain ⟨dx, t, r, h1, h2, h3⟩ := hL2 (.lst (bs acc))
        rw [← e2] at h1 h2
        refine s_extend (xs := bs acc) (v_var rfl) (v_Ltext T.toTxtLines (v_var rfl) h1) (by rw [e2]; exact upd_same) h2 (by rw [bs_len, bs_len]; omega) ?_
        refine hD _ _ ⟨_, rfl, fun z u hu => ?_, ?_⟩
        · rw [upd_ne (ne_none hu no), e2, upd_ne (ne_none hu no)]
          exact sm _ _ hu
        · rw [upd_same, hstep, e3, bs_append]
      have e0 : upd H' o (.lst (bs (joinP (texts (ls.take i))))) = H' := by
        funext b
        by_cases c : b = o
        · rw [c, upd_same, ho]
        · rw [upd_ne c]
      refine s_if (a_t (v_gt (v_len (v_var rfl) (SqL.of ho)) v_c)) (fun c => ?_) fun c => ?_
      · have c' : 0 < (joinP (texts (ls.take i))).length := by have := of_decide_eq_true c; rw [bs_len] at this; omega
        have ep : put (joinP (texts (ls.take i))) (lineM l).text = joinP (texts (ls.take i)) ++ 10 :: (lineM l).text := if_pos c'
        rw [ep] at hw
        simp only [List.length_append, List.length_cons] at hw
        refine s_append (v_var rfl) v_c ho (by rw [bs_len]; omega) ?_
        refine fin _ (joinP (texts (ls.take i)) ++ [10]) (fun _ _ z => z) (by simp only [List.length_append, List.length_cons, List.length_nil]; omega) _ ?_ (by rw [ep, List.append_assoc]; rfl)
        rw [bs_append]
        rfl
      · have c' : ¬ 0 < (joinP (texts (ls.take i))).length := fun z => of_decide_eq_false c (by rw [bs_len]; omega)
        have ep : put (joinP (texts (ls.take i))) (lineM l).text = joinP (texts (ls.take i)) ++ (lineM l).text := if_neg c'
        rw [ep, List.length_append] at hw
        exact fin _ _ (fun _ _ z => z) hw _ e0.symm ep
    · rintro σ' H' ⟨x0, rfl, sm, ho⟩
      refine s_ret (v_var rfl) ?_
      have hl : ls.length = ps.length := by rw [hA.1, List.length_map]
      rw [refs_len, ← hl, List.take_length] at ho
      exact q o H' sm no (hide_at ho (hTr.not no))
/-! ### block_end -/
def holdLen (l : Bytes) (r : List Bytes) : Nat := if (lineM l).kind = 1 then fenceLen r else if (lineM l).kind = 0 then 0 else tailLen l r
theorem holdLen_le (l : Bytes) (r : List Bytes) : holdLen l r ≤ r.length := by
  unfold holdLen
  split
  · exact takeWhile_len _ _
  · split
    · exact Nat.zero_le _
    · exact tailLen_le l r
def sp_block_end (K : PySem.W.Frag) (C : Addr) : Sp := fun vs H Q _ => ∃ (a : Addr) (ps : List Addr) (ls : List Bytes) (i : Nat) (l : Bytes), vs = [.ref a, .int (i : Int)] ∧ SqL K H a (refs ps) ∧ AllAt (LineAt C H) ps (ls.map lineM) ∧ ls[i]? = some l ∧
  ∀ H', Same H H' → Q (.int ((i + 1 + holdLen l (ls.drop (i + 1)) : Nat) : Int)) H'
theorem line_at {C : Addr} {H : Hp} {ps : List Addr} {ls : List Bytes} {i : Nat} {l : Bytes} (hA : AllAt (LineAt C H) ps (ls.map lineM)) (hl : ls[i]? = some l) : ∃ p, (refs ps)[i]? = some (.ref p) ∧ LineAt C H p (lineM l) := by
  obtain ⟨p, hp, hL⟩ := hA.get (i := i) (x := lineM l) (by rw [List.getElem?_map, hl]; rfl)
  exact ⟨p, refs_get hp, hL⟩
theorem ok_block_end (T : TxtBlocks K mg) : FnOk P w K mg base CX0 3 T.d_block_end.f T.d_block_end.fd ["lines", "at"] (sp_block_end K T.k_Line.C) := by
  refine T.d_block_end.F.ok sc_block_end (fun vs H Q E h => ?_) (fun cdv A outer s H vs Q E hr h => ?_)
  · obtain ⟨a, ps, ls, i, l, rfl, _⟩ := h
    rfl
  · obtain ⟨a, ps, ls, i, l, rfl, hS, hA, hl, q⟩ := h
    refine ⟨_, pss_cons (ps_set (i := 2) sc_block_end.nd rfl (.inl rfl) (pe_fld (pe_ix ix_list (pv 0) (pv 1) (fun _ _ => rfl)) rfl)) (pss_cons (ps_set (i := 3) sc_block_end.nd rfl (.inl rfl) (pe_op op_add (pv 1) pe_int)) (pss_cons (ps_if (pt_cmpR op_eq (pv 2) (pe_k (by rfl) T.c_FENCE) (nomark _)) (pss_one (ps_while PassesOwn.never (pw_and (pt_cmpR op_lt (pv 3) (pe_callB call_len_seq (by rfl) T.b_len PySem.boot_len (pa_cons (pv 0) pa_nil)) (nomark _)) (pw_and1 (pt_not (pt_val (pe_call (ok_closes_code T) (hr.mono (by decide)) (by rfl) T.d_closes_code.g T.d_closes_code.F.kp T.d_closes_code.b .nil pass0 (pa_cons (pe_ix ix_list (pv 0) (pv 3) (fun _ _ => rfl)) pa_nil)))))).pt (pss_one (ps_aug (i := 3) sc_block_end.nd rfl (.inl rfl) pe_int ip_add)))) (pss_one (ps_if (pw_and (pt_cmpR op_ne (pv 2) (pe_k (by rfl) T.c_BLANK) (nomark _)) (pw_and1 (pt_cmpR op_ne (pv 2) (pe_k (by rfl) T.c_HEADING) (nomark _)))).pt (pss_one (ps_while PassesOwn.never (pw_and (pt_cmpR op_lt (pv 3) (pe_callB call_len_seq (by rfl) T.b_len PySem.boot_len (pa_cons (pv 0) pa_nil)) (nomark _)) (pw_and1 (pt_cmpR op_eq (pe_fld (pe_ix ix_list (pv 0) (pv 3) (fun _ _ => rfl)) rfl) (pe_k (by rfl) T.c_PLAIN) (nomark _)))).pt (pss_one (ps_aug (i := 3) sc_block_end.nd rfl (.inl rfl) pe_int ip_add)))) pss_nil))) (pss_one (ps_ret (pv 3))))), ?_⟩
    obtain ⟨p, hp, dx, t, r, h1, h2, h3⟩ := line_at hA hl
    have hlen : ps.length = ls.length := by rw [hA.1, List.length_map]
    have hil : i < ls.length := (List.getElem?_eq_some_iff.mp hl).1
    refine s_set (v_Lkind T.toTxtLines (v_ix (v_var rfl) (v_var rfl) hS rfl hp) h1) ?_
    refine s_set (v_add (v_var rfl) v_c) ?_
    have ends : ∀ (D : Ends) (σ : L2.St) (H' : Hp) (n : Nat), Same H H' → D.rt = Q → σ[3]? = some (some (.int ((i + 1 + n : Nat) : Int))) → holdLen l (ls.drop (i + 1)) = n → tRet (tVar 3) D σ H' := fun D σ H' n sm eD e1 e2 => by
      refine s_ret (v_var e1) ?_
      rw [eD, ← e2]
      exact q H' sm
    refine s_if (a_t (v_eq (v_var rfl) v_c)) (fun c => ?_) fun c => ?_
    · have c1 : (lineM l).kind = 1 := by have := of_decide_eq_true c; omega
      refine s_whileH (fun m σ H' => ∃ n : Nat, σ = [some (.ref a), some (.int (i : Int)), some (.int ((lineM l).kind : Int)), some (.int ((i + 1 + n : Nat) : Int))] ∧ Same H H' ∧ n ≤ fenceLen (ls.drop (i + 1)) ∧ m = ls.length - (i + 1 + n)) (ls.length - (i + 1)) ⟨0, by rfl, Same.refl _, Nat.zero_le _, rfl⟩ ?_
      · rintro m σ' H' ⟨n, rfl, sm, hn, rfl⟩
        have hk : fenceLen (ls.drop (i + 1)) ≤ (ls.drop (i + 1)).length := takeWhile_len _ _
        rw [List.length_drop] at hk
        refine k_and (a_t (v_lt (v_var rfl) (v_len (v_var rfl) (sm.seq hS)))) (fun c2 => ?_) fun c2 => ?_
        · have c2' : i + 1 + n < ls.length := by have := of_decide_eq_true c2; rw [refs_len, hlen] at this; omega
          obtain ⟨x, hx, hd⟩ := drop_lt c2'
          obtain ⟨p2, hp2, hL2⟩ := line_at (hA.mono fun _ _ z => z.mono sm) hx
          have hx' : (ls.drop (i + 1))[n]? = some x := by rw [List.getElem?_drop]; exact hx
          refine k_not (k_b (k_call (ka_v (v_ix (v_var rfl) (v_var rfl) (sm.seq hS) rfl hp2) (ka_nil ?_))))
          refine ⟨p2, lineM x, rfl, hL2, fun H1 s2 => ⟨_, rfl, if_b (fun c3 => ⟨fun σ2 H2 => ∃ m', m' < ls.length - (i + 1 + n) ∧ _, fun _ _ z => z, ?_⟩) fun c3 => ?_⟩⟩
          · rw [lineM_row] at c3
            have c4 : Ml.trim x ≠ Ml.FENCE := by
              intro z
              rw [decide_eq_true z] at c3
              cases c3
            refine s_aug rfl v_c ?_
            refine ⟨_, ?_, n + 1, rfl, sm.trans s2, tw_at _ _ n x hn hx' (decide_eq_true c4), rfl⟩
            omega
          · rw [lineM_row] at c3
            have c4 : Ml.trim x = Ml.FENCE := by
              by_cases z : Ml.trim x = Ml.FENCE
              · exact z
              · rw [decide_eq_false z] at c3
                cases c3
            refine ends _ _ H1 n (sm.trans s2) rfl rfl ?_
            unfold holdLen
            rw [if_pos c1]
            refine (tw_stop _ _ n hn fun y hy => ?_).symm
            rw [hx'] at hy
            cases hy
            exact decide_eq_false fun z => z c4
        · refine if_b nofun fun _ => ends _ _ H' n sm rfl rfl ?_
          unfold holdLen
          rw [if_pos c1]
          refine (tw_stop _ _ n hn fun y hy => ?_).symm
          rw [List.getElem?_drop] at hy
          have := (List.getElem?_eq_some_iff.mp hy).1
          exact absurd (of_decide_eq_false c2) (fun z => z (by rw [refs_len, hlen]; omega))

    · have c1 : (lineM l).kind ≠ 1 := fun z => of_decide_eq_false c (by rw [z]; rfl)
      by_cases c2 : (lineM l).kind ≠ 0 ∧ (lineM l).kind ≠ 2
      · refine s_if (b := true) (a_to (a_and (a_t (v_ne (v_var rfl) v_c)) fun _ => a_t (v_ne (v_var rfl) v_c)) ?_) (fun _ => ?_) nofun
        · rw [decide_eq_false (show ¬ ((lineM l).kind : Int) = 0 by omega), decide_eq_false (show ¬ ((lineM l).kind : Int) = 2 by omega)]
          rfl
        have hh : holdLen l (ls.drop (i + 1)) = (Ml.plains (ls.drop (i + 1))).length := by
          unfold holdLen tailLen
          rw [if_neg c1, if_neg c2.1, if_neg c2.2]
        refine s_while (fun m σ H' => ∃ n : Nat, σ = [some (.ref a), some (.int (i : Int)), some (.int ((lineM l).kind : Int)), some (.int ((i + 1 + n : Nat) : Int))] ∧ H = H' ∧ n ≤ (Ml.plains (ls.drop (i + 1))).length ∧ m = ls.length - (i + 1 + n)) (ls.length - (i + 1)) ⟨0, by rfl, rfl, Nat.zero_le _, rfl⟩ ?_
        rintro m _ _ ⟨n, rfl, rfl, hn, rfl⟩
        have hk := plains_len (ls.drop (i + 1))
        rw [List.length_drop] at hk
        by_cases c3 : i + 1 + n < ls.length
        · obtain ⟨x, hx, hd⟩ := drop_lt c3
          obtain ⟨p2, hp2, dx2, t2, r2, g1, g2, g3⟩ := line_at hA hx
          have hx' : (ls.drop (i + 1))[n]? = some x := by rw [List.getElem?_drop]; exact hx
          refine ⟨decide ((lineM x).kind = 4), a_to (a_and (a_t (v_lt (v_var rfl) (v_len (v_var rfl) hS))) fun _ => a_t (v_eq (v_Lkind T.toTxtLines (v_ix (v_var rfl) (v_var rfl) hS rfl hp2) g1) v_c)) ?_, fun c4 => ?_, fun c4 => ?_⟩
          · rw [decide_eq_true (show ((i + 1 + n : Nat) : Int) < ((refs ps).length : Int) by rw [refs_len, hlen]; omega), Bool.true_and]
            by_cases c5 : (lineM x).kind = 4
            · rw [decide_eq_true c5]
              exact decide_eq_true (by omega)
            · rw [decide_eq_false c5]
              exact decide_eq_false (by omega)
          · refine s_aug rfl v_c ?_
            refine ⟨_, ?_, n + 1, rfl, rfl, plains_at _ n x hn hx' (of_decide_eq_true c4), rfl⟩
            omega
          · refine ends _ _ H n (Same.refl _) rfl rfl ?_
            rw [hh]
            refine (plains_stop _ n hn fun y hy => ?_).symm
            rw [hx'] at hy
            cases hy
            exact of_decide_eq_false c4
        · refine ⟨false, a_to (a_and (b := false) (a_t (v_lt (v_var rfl) (v_len (v_var rfl) hS))) fun z => absurd (of_decide_eq_true z) (by rw [refs_len, hlen]; omega)) (Bool.and_false _), nofun, fun _ => ends _ _ H n (Same.refl _) rfl rfl ?_⟩
          rw [hh]
          refine (plains_stop _ n hn fun y hy => ?_).symm
          rw [List.getElem?_drop] at hy
          exact absurd (List.getElem?_eq_some_iff.mp hy).1 c3
      · have hh : holdLen l (ls.drop (i + 1)) = 0 := by
          unfold holdLen tailLen
          rw [if_neg c1]
          split
          · rfl
          · rename_i h0
            rw [if_pos]
            by_cases z : (lineM l).kind = 2
            · exact z
            · exact absurd ⟨h0, z⟩ c2
        refine s_if (b := false) (a_to (a_and (a_t (v_ne (v_var rfl) v_c)) fun _ => a_t (v_ne (v_var rfl) v_c)) ?_) nofun fun _ => ends _ _ H 0 (Same.refl _) rfl rfl hh
        by_cases h0 : (lineM l).kind = 0
        · rw [h0]
          rfl
        · have h2 : (lineM l).kind = 2 := by
            by_cases z : (lineM l).kind = 2
            · exact z
            · exact absurd ⟨h0, z⟩ c2
          rw [h2]
          rfl
/-! ### read_blocks -/
def sp_read_blocks (K : PySem.W.Frag) (C CB : Addr) : Sp := fun vs H Q _ => ∃ (a : Addr) (ps : List Addr) (ls : List Bytes) (S : Addr → Prop), vs = [.ref a] ∧ SqL K H a (refs ps) ∧ AllAt (LineAt C (hide H S)) ps (ls.map lineM) ∧ Tr S H ∧ LW ls < 1000002 ∧
  ∀ p qs H', Same H H' → H p = none → H' p = some (.lst (refs qs)) → AllAt (BlockAt CB (hide H' S)) qs ((blocksF ls).map blockM) → Q (.ref p) H'
/-- the rest of the lines, as blocks -/
theorem rest_fence {ls : List Bytes} {i : Nat} {l : Bytes} (hl : ls[i]? = some l) (hk : (lineM l).kind = 1) : ∃ b, blocksF (ls.drop i) = b :: blocksF (ls.drop (i + 1 + holdLen l (ls.drop (i + 1)) + 1)) ∧ blockM b = ⟨1, 0, (lineM l).text, (ls.drop (i + 1)).take (holdLen l (ls.drop (i + 1)))⟩ := by
  obtain ⟨b, e1, e2⟩ := blocksF_fence (ls := ls.drop (i + 1)) hk
  have hh : holdLen l (ls.drop (i + 1)) = fenceLen (ls.drop (i + 1)) := if_pos hk
  refine ⟨b, ?_, ?_⟩
  · rw [drop_cons_of hl, e1, List.drop_drop, hh]
    rfl
  · rw [e2, hh]
theorem rest_other {ls : List Bytes} {i : Nat} {l : Bytes} (hl : ls[i]? = some l) (h1 : (lineM l).kind ≠ 1) (h0 : (lineM l).kind ≠ 0) : ∃ b, blocksF (ls.drop i) = b :: blocksF (ls.drop (i + 1 + holdLen l (ls.drop (i + 1)))) ∧
    blockM b = ⟨(lineM l).kind, (lineM l).number, joinP (texts ((ls.drop i).take (1 + holdLen l (ls.drop (i + 1))))), []⟩ := by
  obtain ⟨b, e1, e2⟩ := blocksF_other (ls := ls.drop (i + 1)) h0 h1
  have hh : holdLen l (ls.drop (i + 1)) = tailLen l (ls.drop (i + 1)) := by
    unfold holdLen
    rw [if_neg h1, if_neg h0]
  refine ⟨b, ?_, ?_⟩
  · rw [drop_cons_of hl, e1, List.drop_drop, hh]
  · rw [e2, hh]
    unfold texts
    rw [drop_cons_of hl, Nat.add_comm 1, List.take_succ_cons]
theorem rest_blank {ls : List Bytes} {i : Nat} {l : Bytes} (hl : ls[i]? = some l) (h0 : (lineM l).kind = 0) : blocksF (ls.drop i) = blocksF (ls.drop (i + 1 + holdLen l (ls.drop (i + 1)))) := by
  have hh : holdLen l (ls.drop (i + 1)) = 0 := by
    unfold holdLen
    rw [if_neg (by rw [h0]; decide), if_pos h0]
  rw [drop_cons_of hl, blocksF_blank h0, hh]
theorem ok_read_blocks (T : TxtBlocks K mg) : FnOk P w K mg base CX0 4 T.d_read_blocks.f T.d_read_blocks.fd ["lines"] (sp_read_blocks K T.k_Line.C T.k_Block.C) := by
  refine T.d_read_blocks.F.ok sc_read_blocks (fun vs H Q E h => ?_) (fun cdv A outer s H vs Q E hr h => ?_)
  · obtain ⟨a, ps, ls, S, rfl, _⟩ := h
    rfl
  · obtain ⟨a, ps, ls, S, rfl, hS, hA, hTr, hz, q⟩ := h
    refine ⟨_, pss_cons (ps_set (i := 1) sc_read_blocks.nd rfl (.inl rfl) (pe_lst pa_nil)) (pss_cons (ps_set (i := 2) sc_read_blocks.nd rfl (.inl rfl) pe_int) (pss_cons (ps_while PassesOwn.never (pt_cmpR op_lt (pv 2) (pe_callB call_len_seq (by rfl) T.b_len PySem.boot_len (pa_cons (pv 0) pa_nil)) (nomark _)) (pss_cons (ps_set (i := 3) sc_read_blocks.nd rfl (.inl rfl) (pe_ix ix_list (pv 0) (pv 2) (fun _ _ => rfl))) (pss_cons (ps_set (i := 4) sc_read_blocks.nd rfl (.inl rfl) (pe_call (ok_block_end T) (hr.mono (by decide)) (by rfl) T.d_block_end.g T.d_block_end.F.kp T.d_block_end.b .nil pass0 (pa_cons (pv 0) (pa_cons (pv 2) pa_nil)))) (pss_cons (ps_if (pt_cmpR op_eq (pe_fld (pv 3) rfl) (pe_k (by rfl) T.c_FENCE) (nomark _)) (pss_cons (ps_expr (pe_bm PySem.F.plainAttrs_list PySem.F.slot_list_append PySem.F.type_list_append mt_append (pv 1) (pa_cons (pe_make T.k_Block.made (ok_Block_init__ T) (hr.mono (by decide)) (by rfl) T.k_Block.g T.m_Block_init__.b .nil pass0 (pa_cons (pe_k (by rfl) T.c_FENCE) (pa_cons pe_int (pa_cons (pe_fld (pv 3) rfl) (pa_cons (pe_lc (own := [("inner", 5)]) (g := gName 5) (tt := tYes) rfl sc_read_blocks.nd (pi_list (pe_slice sl_list (pv 0) (po_some (pe_op op_add (pv 2) pe_int)) (po_some (pv 4)))) (blkOk_by (N := ["lines", "blocks", "at", "line", "end", "inner"]) (sc := defScope s_read_blocks) (by decide +kernel)) (fun _ _ _ _ _ => pg_name (i := 5) sc_read_blocks.nd rfl (Or.inl rfl)) (fun _ _ _ _ _ => pts_nil) (fun _ _ _ _ _ => (pe_fldK (K := K) rfl (pv 5) rfl))) pa_nil))))) pa_nil))) (pss_one (ps_aug (i := 4) sc_read_blocks.nd rfl (.inl rfl) pe_int ip_add))) (pss_one (ps_if (pt_cmpR op_ne (pe_fld (pv 3) rfl) (pe_k (by rfl) T.c_BLANK) (nomark _)) (pss_one (ps_expr (pe_bm PySem.F.plainAttrs_list PySem.F.slot_list_append PySem.F.type_list_append mt_append (pv 1) (pa_cons (pe_make T.k_Block.made (ok_Block_init__ T) (hr.mono (by decide)) (by rfl) T.k_Block.g T.m_Block_init__.b .nil pass0 (pa_cons (pe_fld (pv 3) rfl) (pa_cons (pe_fld (pv 3) rfl) (pa_cons (pe_call (ok_joined_texts T) (hr.mono (by decide)) (by rfl) T.d_joined_texts.g T.d_joined_texts.F.kp T.d_joined_texts.b .nil pass0 (pa_cons (pe_slice sl_list (pv 0) (po_some (pv 2)) (po_some (pv 4))) pa_nil)) (pa_cons (pe_lst pa_nil) pa_nil))))) pa_nil)))) pss_nil))) (pss_one (ps_set (i := 2) sc_read_blocks.nd rfl (.inl rfl) (pv 4))))))) (pss_one (ps_ret (pv 1))))), ?_⟩
    have hz2 : (1000003 : Nat) < sizeLine := by decide
    have hlen : ps.length = ls.length := by rw [hA.1, List.length_map]
    have hlw := LW_len ls
    have hbw := blocksF_w _ ls (Nat.le_refl _)
    have hbl := blockWs_len (blocksF ls)
    refine s_setN (n_lst va_nil (Nat.zero_le _)) fun o no => ?_
    refine s_set v_c ?_
    have W0 : Same H (upd H o (.lst [])) := same_upd no
    refine s_while (fun m σ H' => ∃ (i : Nat) (qs : List Addr) (done : List Block) (x y : Option V), σ = [some (.ref a), some (.ref o), some (.int (i : Int)), x, y, none] ∧ Same H H' ∧ H' o = some (.lst (refs qs)) ∧ AllAt (BlockAt T.k_Block.C (hide H' (wi S o))) qs (done.map blockM) ∧
        blocksF ls = done ++ blocksF (ls.drop i) ∧ m = ls.length + 1 - i) (ls.length + 1) ⟨0, [], [], none, none, rfl, W0, upd_same, AllAt.nil, rfl, rfl⟩ ?_
    rintro m σ' H' ⟨i, qs, done, x, y, rfl, sm, ho, hQ, hb, rfl⟩
    by_cases c : i < ls.length
    · refine ⟨true, a_to (a_t (v_lt (v_var rfl) (v_len (v_var rfl) (sm.seq hS)))) (decide_eq_true (by rw [refs_len, hlen]; omega)), fun _ => ?_, nofun⟩
      obtain ⟨l, hl, hd⟩ := drop_lt c
      have hAw : AllAt (LineAt T.k_Line.C (hide H' (wi S o))) ps (ls.map lineM) := hA.mono fun _ _ z => z.mono (wi_same sm no)
      have hAH : AllAt (LineAt T.k_Line.C H') ps (ls.map lineM) := hAw.mono fun _ _ z => z.mono hide_same
      obtain ⟨p, hp, hLp⟩ := line_at hAw hl
      have trw : Tr (wi S o) H' := wi_tr (hTr.mono sm) ho
      -- line = lines[at]; end = block_end(lines, at)
      refine s_set (v_ix (v_var rfl) (v_var rfl) (sm.seq hS) rfl hp) ?_
      refine k_set (k_call (ka_v (v_var rfl) (ka_v (v_var rfl) (ka_nil ?_))))
      refine ⟨a, ps, ls, i, l, rfl, sm.seq hS, hAH, hl, fun H1 s2 => ?_⟩
      generalize hn : holdLen l (ls.drop (i + 1)) = n
      have hnl : i + 1 + n ≤ ls.length := by
        have := holdLen_le l (ls.drop (i + 1))
        rw [List.length_drop] at this
        omega
      have sm1 := sm.trans s2
      have ho1 := s2 _ _ ho
      have tr1 := trw.mono s2
      have hQ1 : AllAt (BlockAt T.k_Block.C (hide H1 (wi S o))) qs (done.map blockM) := hQ.mono fun _ _ z => z.mono (hide_mono s2)
      have hA1 : AllAt (LineAt T.k_Line.C (hide H1 (wi S o))) ps (ls.map lineM) := hAw.mono fun _ _ z => z.mono (hide_mono s2)
      obtain ⟨dx, t, r, g1, g2, g3⟩ := hLp.mono (hide_mono s2)
      have hdone : done.length < sizeLine := by
        rw [hb, List.length_append] at hbl
        rw [hb] at hbw
        omega
      -- a block more
      have hsz : (refs qs).length < sizeLine := by rw [refs_len, hQ1.1, List.length_map]; exact hdone
      have fin : ∀ (b : Block) (j : Nat) (z : Addr) (H2 : Hp) (x y : Option V), Same H1 H2 → blocksF (ls.drop i) = b :: blocksF (ls.drop j) → BlockAt T.k_Block.C (hide H2 (wi S o)) z (blockM b) → i < j →
          ∃ m', m' < ls.length + 1 - i ∧ ∃ (i : Nat) (qs' : List Addr) (done : List Block) (x' y' : Option V), [some (.ref a), some (.ref o), some (.int (j : Int)), x, y, none] = [some (.ref a), some (.ref o), some (.int (i : Int)), x', y', none] ∧ Same H (upd H2 o (.lst (refs qs ++ [.ref z]))) ∧ (upd H2 o (.lst (refs qs ++ [.ref z]))) o = some (.lst (refs qs')) ∧
            AllAt (BlockAt T.k_Block.C (hide (upd H2 o (.lst (refs qs ++ [.ref z]))) (wi S o))) qs' (done.map blockM) ∧ blocksF ls = done ++ blocksF (ls.drop i) ∧ m' = ls.length + 1 - i := by
        intro b j z H2 x y s3 hbb hz3 hij
        refine ⟨ls.length + 1 - j, by omega, j, qs ++ [z], done ++ [b], _, _, rfl, fun u v hu => ?_, by rw [upd_same, refs_snoc], ?_, by rw [hb, hbb, List.append_assoc]; rfl, rfl⟩
        · rw [upd_ne (ne_none hu no)]
          exact s3 _ _ (sm1 _ _ hu)
        · rw [wi_write, List.map_append]
          exact AllAt.snoc (hQ1.mono fun _ _ y => y.mono (hide_mono s3)) hz3
      refine s_if (a_t (v_eq (v_Lkind T.toTxtLines (v_var rfl) (hide_of g1).2) v_c)) (fun c1 => ?_) fun c1 => ?_
      · -- a fence
        have k1 : (lineM l).kind = 1 := by have := of_decide_eq_true c1; omega
        obtain ⟨b, e1, e2⟩ := rest_fence hl k1
        rw [hn] at e1 e2
        refine s_appendH (v_var rfl) ho1 ?_
        refine k_mk (ka_v v_c (ka_v v_c (ka_v (v_Ltext T.toTxtLines (v_var rfl) (hide_of g1).2) (ka ?_))))
        refine n_cut (v_var rfl) (o_some (v_add (v_var rfl) v_c)) (o_some (v_var rfl)) (sm1.seq hS) _ fun s hs => ⟨s, rfl, ⟨_, SqL.of upd_same⟩, fun D nD => ?_⟩
        have ecut : cutV (refs ps) (some ((i : Int) + 1)) (some ((i + 1 + n : Nat) : Int)) = refs ((ps.drop (i + 1)).take n) := by
          have := refs_cut ps (i + 1) (i + 1 + n) (Nat.le_add_right _ _) (by rw [hlen]; exact hnl)
          rw [Nat.add_sub_cancel_left] at this
          exact this
        rw [ecut] at nD ⊢
        have s2s : Same H1 (upd H1 s (.lst (refs ((ps.drop (i + 1)).take n)))) := same_upd hs
        have tr2 := tr1.mono s2s
        have hAs : AllAt (LineAt T.k_Line.C (hide H1 (wi S o))) ((ps.drop (i + 1)).take n) (((ls.drop (i + 1)).take n).map lineM) := by
          have := (hA1.drop (i + 1)).take n
          rw [← List.map_drop, ← List.map_take] at this
          exact this
        have hps : ((ps.drop (i + 1)).take n).length ≤ n := by rw [List.length_take]; omega
        have hs0 : (upd H1 s (.lst (refs ((ps.drop (i + 1)).take n)))) s = some (.lst (refs ((ps.drop (i + 1)).take n))) := upd_same
        generalize upd H1 s (.lst (refs ((ps.drop (i + 1)).take n))) = H1s at s2s tr2 nD hs0 ⊢
        refine lc_list (K := K) (a := s) (xs := refs ((ps.drop (i + 1)).take n)) (fun j H' => ∃ rs, H' = upd H1s D (.lst (refs rs)) ∧ AllAt (RowAt (hide H1 (wi S o))) rs (((ls.drop (i + 1)).take n).take j)) ⟨[], rfl, by rw [List.take_zero]; exact AllAt.nil⟩
          (fun j H' _ ⟨rs, e, _⟩ => by rw [e]; exact (same_upd nD).seq (SqL.of hs0)) ?_ ?_
        · rintro j v H' hv ⟨rs, rfl, hrs⟩
          obtain ⟨pj, hpj, rfl⟩ := refs_of hv
          obtain ⟨mj, hmj, hLj⟩ := hAs.getP hpj
          rw [List.getElem?_map] at hmj
          obtain ⟨lj, hlj, rfl⟩ : ∃ lj, ((ls.drop (i + 1)).take n)[j]? = some lj ∧ mj = lineM lj := by
            cases e : ((ls.drop (i + 1)).take n)[j]? with
            | none => rw [e] at hmj; cases hmj
            | some l => rw [e] at hmj; exact ⟨l, rfl, (Option.some.inj hmj).symm⟩
          obtain ⟨dxj, tj, rj, f1, f2, f3⟩ := hLj
          have sD : Same H1 (upd H1s D (.lst (refs rs))) := fun u v hu => (same_upd nD) _ _ (s2s _ _ hu)
          refine ⟨rfl, k_yes (v_Lrow T.toTxtLines (v_var rfl) (sD _ _ (hide_of f1).2) _ ⟨refs rs, upd_same, ?_, rs ++ [rj], ?_, ?_⟩)⟩
          · have := hrs.1
            rw [List.length_take] at this
            rw [refs_len]
            have := (List.getElem?_eq_some_iff.mp hpj).1
            omega
          · rw [upd_upd, refs_snoc]
          · rw [take_more hlj]
            rw [lineM_row] at f3
            exact AllAt.snoc hrs f3
        · rintro H' ⟨rs, rfl, hrs⟩
          have hps2 : (refs ((ps.drop (i + 1)).take n)).length = ((ls.drop (i + 1)).take n).length := by rw [refs_len, hAs.1, List.length_map]
          rw [hps2, List.take_length] at hrs
          refine ka_nil fun x dx nx nd ne => ?_
          have sD : Same H1s (upd H1s D (.lst (refs rs))) := same_upd nD
          have hDD : hide (upd H1s D (.lst (refs rs))) (wi S o) D = some (.lst (refs rs)) := hide_new tr2 nD
          generalize upd H1s D (.lst (refs rs)) = H2 at sD nx nd hDD ⊢
          refine ⟨x, dx, _, _, _, _, rfl, upd_same, rfl, ?_⟩
          rw [upd_upd]
          have so : Same H2 (obj H2 x dx T.k_Block.C (blockN.zip [.int 1, .int 0, .ref t, .ref D])) := obj_same nx nd
          have s12 : Same H1 (obj H2 x dx T.k_Block.C (blockN.zip [.int 1, .int 0, .ref t, .ref D])) := (s2s.trans sD).trans so
          refine ⟨o, refs qs, .ref x, rfl, rfl, s12 _ _ ho1, hsz, ?_⟩
          refine s_aug rfl v_c ?_
          refine s_set (v_var rfl) ?_
          refine fin b (i + 1 + n + 1) x _ _ _ s12 e1 ?_ (by omega)
          rw [e2]
          exact ⟨dx, t, D, rs, hide_at obj_at ((tr2.mono sD).not nx), hide_mono s12 _ _ g2, hide_mono so _ _ hDD, hrs.mono fun _ _ z => z.mono (hide_mono s12)⟩
      · have k1 : (lineM l).kind ≠ 1 := fun z => of_decide_eq_false c1 (by rw [z]; rfl)
        refine s_if (a_t (v_ne (v_Lkind T.toTxtLines (v_var rfl) (hide_of g1).2) v_c)) (fun c2 => ?_) fun c2 => ?_
        · have k0 : (lineM l).kind ≠ 0 := fun z => by
            rw [z] at c2
            cases c2
          obtain ⟨b, e1, e2⟩ := rest_other hl k1 k0
          rw [hn] at e1 e2
          refine s_appendH (v_var rfl) ho1 ?_
          refine k_mk (ka_v (v_Lkind T.toTxtLines (v_var rfl) (hide_of g1).2) (ka_v (v_Lnumber T.toTxtLines (v_var rfl) (hide_of g1).2) (ka (k_call (ka_n (n_cut (v_var rfl) (o_some (v_var rfl)) (o_some (v_var rfl)) (sm1.seq hS)) fun s hs => ka_nil ?_)))))
          have ecut : cutV (refs ps) (some (i : Int)) (some ((i + 1 + n : Nat) : Int)) = refs ((ps.drop i).take (1 + n)) := by
            have := refs_cut ps i (i + 1 + n) (by omega) (by rw [hlen]; exact hnl)
            have e9 : i + 1 + n - i = 1 + n := by omega
            rw [e9] at this
            exact this
          rw [ecut]
          have s2s : Same H1 (upd H1 s (.lst (refs ((ps.drop i).take (1 + n))))) := same_upd hs
          have tr2 := tr1.mono s2s
          have hAs : AllAt (LineAt T.k_Line.C (hide (upd H1 s (.lst (refs ((ps.drop i).take (1 + n))))) (wi S o))) ((ps.drop i).take (1 + n)) (((ls.drop i).take (1 + n)).map lineM) := by
            have := (hA1.drop i).take (1 + n)
            rw [← List.map_drop, ← List.map_take] at this
            exact this.mono fun _ _ z => z.mono (hide_mono s2s)
          have hlw2 : LW ((ls.drop i).take (1 + n)) < 1000002 := by
            have h1 := LW_take_drop i ls
            have h2 := LW_take_drop (1 + n) (ls.drop i)
            omega
          refine ⟨s, (ps.drop i).take (1 + n), (ls.drop i).take (1 + n), wi S o, rfl, SqL.of upd_same, hAs, tr2, hlw2, fun u H2 s3 nu hu => ?_⟩
          refine ka_n (n_lst va_nil (Nat.zero_le _)) fun e he => ka_nil fun x dx nx nd ne => ?_
          have s4 : Same H2 (upd H2 e (.lst [])) := same_upd he
          have tr3 := (tr2.mono s3)
          have hE : hide (upd H2 e (.lst [])) (wi S o) e = some (.lst (refs [])) := hide_new tr3 he
          have hU : RowAt (hide (upd H2 e (.lst [])) (wi S o)) u (joinP (texts ((ls.drop i).take (1 + n)))) := hide_mono s4 _ _ hu
          have tr4 := tr3.mono s4
          have s14 : Same H1 (upd H2 e (.lst [])) := (s2s.trans s3).trans s4
          generalize upd H2 e (.lst []) = H3 at nx nd hE hU tr4 s14 ⊢
          refine ⟨x, dx, _, _, _, _, rfl, upd_same, rfl, ?_⟩
          rw [upd_upd]
          have so : Same H3 (obj H3 x dx T.k_Block.C (blockN.zip [.int ((lineM l).kind : Int), .int ((lineM l).number : Int), .ref u, .ref e])) := obj_same nx nd
          have s15 := s14.trans so
          refine ⟨o, refs qs, .ref x, rfl, rfl, s15 _ _ ho1, hsz, ?_⟩
          refine s_set (v_var rfl) ?_
          refine fin b (i + 1 + n) x _ _ _ s15 e1 ?_ (by omega)
          rw [e2]
          exact ⟨dx, u, e, [], hide_at obj_at (tr4.not nx), hide_mono so _ _ hU, hide_mono so _ _ hE, AllAt.nil⟩
        · have k0 : (lineM l).kind = 0 := by
            by_cases z : (lineM l).kind = 0
            · exact z
            · rw [decide_eq_false (show ¬ ((lineM l).kind : Int) = 0 by omega)] at c2
              cases c2
          have e1 := rest_blank hl k0
          rw [hn] at e1
          refine s_set (v_var rfl) ?_
          exact ⟨ls.length + 1 - (i + 1 + n), by omega, i + 1 + n, qs, done, _, _, rfl, sm1, ho1, hQ1, by rw [hb, e1], rfl⟩
    · refine ⟨false, a_to (a_t (v_lt (v_var rfl) (v_len (v_var rfl) (sm.seq hS)))) (decide_eq_false (by rw [refs_len, hlen]; omega)), nofun, fun _ => ?_⟩
      refine s_ret (v_var rfl) ?_
      rw [List.drop_eq_nil_of_le (by omega), blocksF_nil, List.append_nil] at hb
      rw [← hb] at hQ
      exact q o qs H' sm no ho (hQ.mono fun _ _ z => z.mono wi_sub)
end
end Mk
namespace Mk
open PySem PySem.Spec PyProof.Rows L2
open Ml (Bytes Tok Piece Block)
abbrev s_Event_init__ : Stmt := inClass (top 54) 0
theorem sc_Event_init__ : FnScope ["self", "kind", "number", "data"] ["self", "kind", "number", "data"] (defScope s_Event_init__) := ⟨rfl, rfl, rfl, by decide +kernel, rfl, by decide +kernel, by decide +kernel⟩
abbrev s_Events_init__ : Stmt := inClass (top 55) 0
theorem sc_Events_init__ : FnScope ["self"] ["self"] (defScope s_Events_init__) := ⟨rfl, rfl, rfl, by decide +kernel, rfl, by decide +kernel, by decide +kernel⟩
abbrev s_Events_tell : Stmt := inClass (top 55) 1
theorem sc_Events_tell : FnScope ["self", "kind", "number", "data"] ["self", "kind", "number", "data"] (defScope s_Events_tell) := ⟨rfl, rfl, rfl, by decide +kernel, rfl, by decide +kernel, by decide +kernel⟩
abbrev s_Events_tell_text : Stmt := inClass (top 55) 2
theorem sc_Events_tell_text : FnScope ["self", "data", "last"] ["self", "data"] (defScope s_Events_tell_text) := ⟨rfl, rfl, rfl, by decide +kernel, rfl, by decide +kernel, by decide +kernel⟩
structure TxtEvents (K : PySem.W.Frag) (mg : Str → Option Value) extends TxtBlocks K mg where
  b_list : mg "list" = none
  m_Event_init__ : InitT K "Event.__init__" s_Event_init__ ["self", "kind", "number", "data"]
  k_Event : ClsT K mg "Event" m_Event_init__.f
  n_Event : ∀ f ∈ (["kind", "number", "data"] : List Str), NoAttr K k_Event.C f
  m_Events_init__ : InitT K "Events.__init__" s_Events_init__ ["self"]
  k_Events : ClsT K mg "Events" m_Events_init__.f
  n_Events : ∀ f ∈ (["told"] : List Str), NoAttr K k_Events.C f
  m_Events_tell : MethT K k_Events.C "tell" "Events.tell" s_Events_tell ["self", "kind", "number", "data"]
  m_Events_tell_text : MethT K k_Events.C "tell_text" "Events.tell_text" s_Events_tell_text ["self", "data"]
  c_TEXT : IntT mg "TEXT" 0
  c_CODE_SPAN : IntT mg "CODE_SPAN" 1
  c_PARAGRAPH_BEGINS : IntT mg "PARAGRAPH_BEGINS" 2
  c_PARAGRAPH_ENDS : IntT mg "PARAGRAPH_ENDS" 3
  c_HEADING_BEGINS : IntT mg "HEADING_BEGINS" 4
  c_HEADING_ENDS : IntT mg "HEADING_ENDS" 5
  c_LIST_BEGINS : IntT mg "LIST_BEGINS" 6
  c_LIST_ENDS : IntT mg "LIST_ENDS" 7
  c_ITEM_BEGINS : IntT mg "ITEM_BEGINS" 8
  c_ITEM_ENDS : IntT mg "ITEM_ENDS" 9
  c_CODE_BLOCK_BEGINS : IntT mg "CODE_BLOCK_BEGINS" 10
  c_CODE_BLOCK_LINE : IntT mg "CODE_BLOCK_LINE" 11
  c_CODE_BLOCK_ENDS : IntT mg "CODE_BLOCK_ENDS" 12
  c_EMPHASIS_BEGINS : IntT mg "EMPHASIS_BEGINS" 13
  c_EMPHASIS_ENDS : IntT mg "EMPHASIS_ENDS" 14
  c_LINK_BEGINS : IntT mg "LINK_BEGINS" 15
  c_LINK_ENDS : IntT mg "LINK_ENDS" 16
def eventN : List Str := ["kind", "number", "data"]
theorem eventN_nd : eventN.Nodup := by decide +kernel
def eventsN : List Str := ["told"]
/-- the i-th event: its object at p, its bytes at d -/
def EvOne (CE : Addr) (H : Hp) (p d : Addr) (ev : Ml.Event) : Prop := (∃ dx, H p = some (.ins CE dx (eventN.zip [.int (ev.kind : Int), .int (ev.num : Int), .ref d]))) ∧ H d = some (.lst (bs ev.bytes))
/-- the events told so far: the object at e, its list at L, their bytes at ds -/
structure EvAt (C CE : Addr) (H : Hp) (e L : Addr) (ps ds : List Addr) (T : List Ml.Event) : Prop where
  obj : ∃ dx, H e = some (.ins C dx (eventsN.zip [.ref L]))
  lst : H L = some (.lst (refs ps))
  lp : ps.length = T.length
  ld : ds.length = T.length
  one : ∀ (i : Nat) p d ev, ps[i]? = some p → ds[i]? = some d → T[i]? = some ev → EvOne CE H p d ev
  nd : ds.Nodup
  nl : L ∉ ds
  n0 : Num0 T
def evS (L : Addr) (ds : List Addr) : Addr → Prop := fun b => b = L ∨ b ∈ ds
section
variable {C CE : Addr} {H H' : Hp} {e L : Addr} {ps ds : List Addr} {T : List Ml.Event}
theorem EvAt.tr (E : EvAt C CE H e L ps ds T) : Tr (evS L ds) H := fun b z => by
  rcases z with z | z
  · exact ⟨_, z ▸ E.lst⟩
  · obtain ⟨i, hi⟩ := List.getElem?_of_mem z
    have hl : i < T.length := by rw [← E.ld]; exact (List.getElem?_eq_some_iff.mp hi).1
    have hp : i < ps.length := by rw [E.lp]; exact hl
    exact ⟨_, (E.one i _ b _ (List.getElem?_eq_getElem hp) hi (List.getElem?_eq_getElem hl)).2⟩
theorem EvAt.mono (E : EvAt C CE H e L ps ds T) (s : Same H H') : EvAt C CE H' e L ps ds T where
  obj := by
    obtain ⟨dx, h⟩ := E.obj
    exact ⟨dx, s _ _ h⟩
  lst := s _ _ E.lst
  lp := E.lp
  ld := E.ld
  one := fun i p d ev a b c => by
    obtain ⟨⟨dx, h1⟩, h2⟩ := E.one i p d ev a b c
    exact ⟨⟨dx, s _ _ h1⟩, s _ _ h2⟩
  nd := E.nd
  nl := E.nl
  n0 := E.n0
/-- the events' own objects are not among what is written -/
theorem EvAt.eN (E : EvAt C CE H e L ps ds T) : ¬ evS L ds e := fun z => by
  obtain ⟨dx, h⟩ := E.obj
  rcases z with z | z
  · rw [z, E.lst] at h
    cases h
  · obtain ⟨i, hi⟩ := List.getElem?_of_mem z
    have hl : i < T.length := by rw [← E.ld]; exact (List.getElem?_eq_some_iff.mp hi).1
    have hp : i < ps.length := by rw [E.lp]; exact hl
    rw [(E.one i _ e _ (List.getElem?_eq_getElem hp) hi (List.getElem?_eq_getElem hl)).2] at h
    cases h
theorem EvAt.eL (E : EvAt C CE H e L ps ds T) : e ≠ L := fun z => E.eN (.inl z)
/-- one more event, its object new at x, its bytes new at d -/
theorem EvAt.snoc (E : EvAt C CE H e L ps ds T) (s : Same H H') {x d : Addr} {ev : Ml.Event} (nd : H d = none) (h : EvOne CE H' x d ev) (h0 : ev.kind = 0 → ev.num = 0) : EvAt C CE (upd H' L (.lst (refs (ps ++ [x])))) e L (ps ++ [x]) (ds ++ [d]) (T ++ [ev]) where
  obj := by
    obtain ⟨dx, h⟩ := E.obj
    exact ⟨dx, by rw [upd_ne E.eL]; exact s _ _ h⟩
  lst := upd_same
  lp := by rw [List.length_append, List.length_append, E.lp]; rfl
  ld := by rw [List.length_append, List.length_append, E.ld]; rfl
  one := fun i p q f a b c => by
    have hq : q ≠ L := fun z => by
      rcases List.mem_append.mp (List.mem_of_getElem? b) with y | y
      · exact E.nl (z ▸ y)
      · rw [List.mem_singleton.mp y] at z
        rw [z, E.lst] at nd
        cases nd
    have k : EvOne CE H' p q f → EvOne CE (upd H' L (.lst (refs (ps ++ [x])))) p q f := fun ⟨⟨dx, g1⟩, g2⟩ => by
      refine ⟨⟨dx, ?_⟩, by rw [upd_ne hq]; exact g2⟩
      rw [upd_ne (fun z => ?_)]
      · exact g1
      · rw [z, s _ _ E.lst] at g1
        cases g1
    rcases Nat.lt_trichotomy i T.length with z | z | z
    · rw [List.getElem?_append_left (by rw [E.lp]; exact z)] at a
      rw [List.getElem?_append_left (by rw [E.ld]; exact z)] at b
      rw [List.getElem?_append_left z] at c
      obtain ⟨⟨dx, g1⟩, g2⟩ := E.one i p q f a b c
      exact k ⟨⟨dx, s _ _ g1⟩, s _ _ g2⟩
    · subst z
      rw [← E.lp, List.getElem?_append_right (Nat.le_refl _), Nat.sub_self] at a
      rw [← E.ld, List.getElem?_append_right (Nat.le_refl _), Nat.sub_self] at b
      rw [List.getElem?_append_right (Nat.le_refl _), Nat.sub_self] at c
      have e1 : x = p := Option.some.inj a
      have e2 : d = q := Option.some.inj b
      have e3 : ev = f := Option.some.inj c
      subst e1 e2 e3
      exact k h
    · rw [List.getElem?_eq_none (by rw [List.length_append]; exact z)] at c
      cases c
  nd := by
    rw [List.nodup_append]
    refine ⟨E.nd, List.pairwise_singleton _ _, fun a ha b hb => ?_⟩
    rw [List.mem_singleton.mp hb]
    intro z
    obtain ⟨o, ho⟩ := E.tr a (.inr ha)
    rw [z, nd] at ho
    cases ho
  nl := fun z => by
    rcases List.mem_append.mp z with y | y
    · exact E.nl y
    · rw [← List.mem_singleton.mp y, E.lst] at nd
      cases nd
  n0 := fun f hf k => by
    rcases List.mem_append.mp hf with y | y
    · exact E.n0 f y k
    · rw [List.mem_singleton.mp y] at k ⊢
      exact h0 k
/-- the last text grows -/
theorem EvAt.grow {ds0 : List Addr} {d : Addr} {T0 : List Ml.Event} {lb b : Bytes} (E : EvAt C CE H e L ps (ds0 ++ [d]) (T0 ++ [⟨0, 0, lb⟩])) : EvAt C CE (upd H d (.lst (bs (lb ++ b)))) e L ps (ds0 ++ [d]) (T0 ++ [⟨0, 0, lb ++ b⟩]) := by
  have hd : d ∈ ds0 ++ [d] := List.mem_append.mpr (.inr (List.mem_singleton.mpr rfl))
  have hld : T0.length = ds0.length := by
    have := E.ld
    rw [List.length_append, List.length_append] at this
    exact (Nat.succ.inj this).symm
  have hdl : H d = some (.lst (bs lb)) := by
    have hp : T0.length < ps.length := by rw [E.lp, List.length_append]; exact Nat.lt_succ_self _
    refine (E.one T0.length _ d ⟨0, 0, lb⟩ (List.getElem?_eq_getElem hp) ?_ ?_).2
    · rw [hld, List.getElem?_append_right (Nat.le_refl _), Nat.sub_self]
      rfl
    · rw [List.getElem?_append_right (Nat.le_refl _), Nat.sub_self]
      rfl
  have ins : ∀ {p : Addr} {o : HO}, H p = some o → (∀ xs, o ≠ .lst xs) → upd H d (.lst (bs (lb ++ b))) p = some o := fun {p o} h n => by
    rw [upd_ne (fun z => ?_)]
    · exact h
    · rw [z, hdl] at h
      exact n _ (Option.some.inj h).symm
  refine ⟨?_, ?_, ?_, ?_, ?_, E.nd, E.nl, ?_⟩
  · obtain ⟨dx, h⟩ := E.obj
    exact ⟨dx, ins h nofun⟩
  · rw [upd_ne (fun (z : L = d) => E.nl (by rw [z]; exact hd))]
    exact E.lst
  · rw [E.lp, List.length_append, List.length_append]
    rfl
  · rw [E.ld, List.length_append, List.length_append]
    rfl
  · intro i p q f ha hb hc
    rcases Nat.lt_trichotomy i T0.length with z | z | z
    · have hq : q ≠ d := fun y => by
        have h1 : (ds0 ++ [d])[ds0.length]? = some d := by
          rw [List.getElem?_append_right (Nat.le_refl _), Nat.sub_self]
          rfl
        rw [y] at hb
        have := nd_ix E.nd hb h1
        omega
      rw [List.getElem?_append_left z] at hc
      obtain ⟨⟨dx, g1⟩, g2⟩ := E.one i p q f ha hb (by rw [List.getElem?_append_left z]; exact hc)
      exact ⟨⟨dx, ins g1 nofun⟩, by rw [upd_ne hq]; exact g2⟩
    · subst z
      have hb' := hb
      rw [hld, List.getElem?_append_right (Nat.le_refl _), Nat.sub_self] at hb'
      rw [List.getElem?_append_right (Nat.le_refl _), Nat.sub_self] at hc
      have e2 : d = q := Option.some.inj hb'
      have e3 : (⟨0, 0, lb ++ b⟩ : Ml.Event) = f := Option.some.inj hc
      subst e2 e3
      obtain ⟨⟨dx, g1⟩, g2⟩ := E.one T0.length p d ⟨0, 0, lb⟩ ha hb (by rw [List.getElem?_append_right (Nat.le_refl _), Nat.sub_self]; rfl)
      exact ⟨⟨dx, ins g1 nofun⟩, upd_same⟩
    · rw [List.getElem?_eq_none (by rw [List.length_append]; exact z)] at hc
      cases hc
  · intro f hf k
    rcases List.mem_append.mp hf with y | y
    · exact E.n0 f (List.mem_append.mpr (.inl y)) k
    · rw [List.mem_singleton.mp y]
end
/-- what a call that tells is to leave -/
def Told (C CE : Addr) (H : Hp) (e L : Addr) (ds : List Addr) (T' : List Ml.Event) (Q : VK) : Prop := ∀ H' ps' ds', Same (hide H (evS L ds)) (hide H' (evS L ds')) → EvAt C CE H' e L ps' ds' T' → Q .non H'
section
variable {P : Program} {w : World} {K : PySem.W.Frag} {mg : Str → Option Value} {base : Heap}
/-! ### Event -/
def sp_Event_init__ (C : Addr) : Sp := fun vs H Q _ => ∃ (p dx : Addr) (k n t : V), vs = [.ref p, k, n, t] ∧ H p = some (.ins C dx []) ∧ Q .non (upd H p (.ins C dx (eventN.zip [k, n, t])))
theorem ok_Event_init__ (T : TxtEvents K mg) : FnOk P w K mg base CX0 1 T.m_Event_init__.f T.m_Event_init__.fd ["self", "kind", "number", "data"] (sp_Event_init__ T.k_Event.C) := by
  refine T.m_Event_init__.F.ok sc_Event_init__ (fun vs H Q E h => ?_) (fun cdv A outer s H vs Q E hr h => ?_)
  · obtain ⟨p, dx, k, n, t, rfl, _⟩ := h
    rfl
  · obtain ⟨p, dx, k, n, t, rfl, hp, q⟩ := h
    refine ⟨_, pss_cons (ps_fld (pv 0) (pv 1) rfl) (pss_cons (ps_fld (pv 0) (pv 2) rfl) (pss_one (ps_fld (pv 0) (pv 3) rfl))), ?_⟩
    have e1 : putF "kind" k [] = (["kind"] : List Str).zip [k] := rfl
    have e2 : putF "number" n ((["kind"] : List Str).zip [k]) = (["kind", "number"] : List Str).zip [k, n] := put_no (by decide +kernel) rfl
    have e3 : putF "data" t ((["kind", "number"] : List Str).zip [k, n]) = eventN.zip [k, n, t] := put_no (by decide +kernel) rfl
    refine ⟨_, rfl, _, rfl, p, _, dx, _, rfl, hp, T.k_Event.cl, T.n_Event _ (by decide +kernel), (by show 0 < 1000; decide), ?_⟩
    refine ⟨_, rfl, _, rfl, p, _, dx, _, rfl, upd_same, T.k_Event.cl, T.n_Event _ (by decide +kernel), (by show 1 < 1000; decide), ?_⟩
    refine ⟨_, rfl, _, rfl, p, _, dx, _, rfl, upd_same, T.k_Event.cl, T.n_Event _ (by decide +kernel), (by rw [e1, e2]; show 2 < 1000; decide), ?_⟩
    show Q .non _
    rw [e1, e2, e3, upd_upd, upd_upd]
    exact q
/-! ### Events -/
def sp_Events_init__ (C : Addr) : Sp := fun vs H Q _ => ∃ (p dx : Addr), vs = [.ref p] ∧ H p = some (.ins C dx []) ∧ ∀ L, H L = none → Q .non (upd (upd H L (.lst [])) p (.ins C dx (eventsN.zip [.ref L])))
theorem ok_Events_init__ (T : TxtEvents K mg) : FnOk P w K mg base CX0 1 T.m_Events_init__.f T.m_Events_init__.fd ["self"] (sp_Events_init__ T.k_Events.C) := by
  refine T.m_Events_init__.F.ok sc_Events_init__ (fun vs H Q E h => ?_) (fun cdv A outer s H vs Q E hr h => ?_)
  · obtain ⟨p, dx, rfl, _⟩ := h
    rfl
  · obtain ⟨p, dx, rfl, hp, q⟩ := h
    refine ⟨_, pss_one (ps_fld (pv 0) (pe_lst pa_nil) rfl), ?_⟩
    refine ⟨Nat.zero_le _, fun L hL => ?_⟩
    refine ⟨_, rfl, p, _, dx, _, rfl, by rw [upd_ne (ne_none hp hL)]; exact hp, T.k_Events.cl, T.n_Events _ (by decide +kernel), (by show 0 < 1000; decide), ?_⟩
    exact q L hL
/-! ### tell -/
def sp_tell (K : PySem.W.Frag) (C CE : Addr) : Sp := fun vs H Q _ => ∃ (e L a : Addr) (ps ds : List Addr) (T : List Ml.Event) (k n : Nat) (b : Bytes), vs = [.ref e, .int (k : Int), .int (n : Int), .ref a] ∧ EvAt C CE H e L ps ds T ∧ SqL K H a (bs b) ∧ T.length < sizeLine ∧ (k = 0 → n = 0) ∧
  Told C CE H e L ds (T ++ [⟨k, n, b⟩]) Q
theorem ok_Events_tell (T : TxtEvents K mg) : FnOk P w K mg base CX0 3 T.m_Events_tell.f T.m_Events_tell.fd ["self", "kind", "number", "data"] (sp_tell K T.k_Events.C T.k_Event.C) := by
  refine T.m_Events_tell.F.ok sc_Events_tell (fun vs H Q E h => ?_) (fun cdv A outer s H vs Q E hr h => ?_)
  · obtain ⟨e, L, a, ps, ds, T, k, n, b, rfl, _⟩ := h
    rfl
  · obtain ⟨e, L, a, ps, ds, evs, k, n, b, rfl, hE, hS, hz, h0, q⟩ := h
    refine ⟨_, pss_one (ps_expr (pe_bm PySem.F.plainAttrs_list PySem.F.slot_list_append PySem.F.type_list_append mt_append (pe_fld (pv 0) rfl) (pa_cons (pe_make T.k_Event.made (ok_Event_init__ T) (hr.mono (by decide)) (by rfl) T.k_Event.g T.m_Event_init__.b .nil pass0 (pa_cons (pv 1) (pa_cons (pv 2) (pa_cons (pe_callTy call_list_of (by rfl) T.b_list (by decide +kernel) (pa_cons (pv 3) pa_nil)) pa_nil)))) pa_nil))), ?_⟩
    obtain ⟨dxe, he⟩ := hE.obj
    have told : Val (tFld K (tVar 0) "told") [some (.ref e), some (.int (k : Int)), some (.int (n : Int)), some (.ref a)] H (.ref L) := v_fld (v_var rfl) he T.k_Events.cl (T.n_Events _ (by decide +kernel)) (lk_zip (by decide +kernel) (i := 0) rfl rfl)
    refine s_appendH told hE.lst ?_
    refine k_mk (ka_v (v_var rfl) (ka_v (v_var rfl) (ka ?_)))
    refine v_var rfl _ ⟨a, _, rfl, .inl hS, fun d nd => ka_nil fun x dx nx ndx ne => ?_⟩
    have s1 : Same H (upd H d (.lst (bs b))) := same_upd nd
    have hd1 : (upd H d (.lst (bs b))) d = some (.lst (bs b)) := upd_same
    generalize upd H d (.lst (bs b)) = H1 at nx ndx s1 hd1 ⊢
    refine ⟨x, dx, _, _, _, rfl, upd_same, rfl, ?_⟩
    rw [upd_upd]
    have so : Same H1 (obj H1 x dx T.k_Event.C (eventN.zip [.int (k : Int), .int (n : Int), .ref d])) := obj_same nx ndx
    have sx := s1.trans so
    refine ⟨L, refs ps, .ref x, rfl, rfl, sx _ _ hE.lst, by rw [refs_len, hE.lp]; exact hz, ?_⟩
    have hN := hE.snoc sx (x := x) (d := d) (ev := ⟨k, n, b⟩) nd ⟨⟨dx, obj_at⟩, so _ _ hd1⟩ h0
    rw [refs_snoc]
    refine q _ _ _ (fun z u hu => ?_) hN
    obtain ⟨n1, h1⟩ := hide_of hu
    refine hide_at ?_ fun y => ?_
    · rw [upd_ne (fun y => n1 (.inl y))]
      exact sx _ _ h1
    · rcases y with y | y
      · exact n1 (.inl y)
      · rcases List.mem_append.mp y with y | y
        · exact n1 (.inr y)
        · rw [List.mem_singleton.mp y, nd] at h1
          cases h1
/-! ### tell_text -/
def sp_tell_text (C CE : Addr) : Sp := fun vs H Q _ => ∃ (e L a : Addr) (ps ds : List Addr) (T : List Ml.Event) (b : Bytes), vs = [.ref e, .ref a] ∧ EvAt C CE H e L ps ds T ∧ hide H (evS L ds) a = some (.lst (bs b)) ∧ sz T + b.length < 10000000 ∧
  Told C CE H e L ds (push T ⟨0, 0, b⟩) Q
theorem ok_Events_tell_text (T : TxtEvents K mg) : FnOk P w K mg base CX0 4 T.m_Events_tell_text.f T.m_Events_tell_text.fd ["self", "data"] (sp_tell_text T.k_Events.C T.k_Event.C) := by
  refine T.m_Events_tell_text.F.ok sc_Events_tell_text (fun vs H Q E h => ?_) (fun cdv A outer s H vs Q E hr h => ?_)
  · obtain ⟨e, L, a, ps, ds, T, b, rfl, _⟩ := h
    rfl
  · obtain ⟨e, L, a, ps, ds, evs, b, rfl, hE, hA, hz, q⟩ := h
    refine ⟨_, pss_cons (ps_if (pw_or (pt_cmpR op_eq (pe_callB call_len_seq (by rfl) T.b_len PySem.boot_len (pa_cons (pe_fld (pv 0) rfl) pa_nil)) pe_int (nomark _)) (pw_or1 (pt_cmpR op_ne (pe_fld (pe_ix ix_list (pe_fld (pv 0) rfl) (pe_un un_neg pe_int) (fun _ _ => rfl)) rfl) (pe_k (by rfl) T.c_TEXT) (nomark _)))).pt (pss_one (ps_expr (pe_meth (pv 0) T.k_Events.cl T.m_Events_tell.m (ok_Events_tell T) (hr.mono (by decide)) T.m_Events_tell.b .nil pass0 (pa_cons (pe_k (by rfl) T.c_TEXT) (pa_cons pe_int (pa_cons (pe_lst pa_nil) pa_nil)))))) pss_nil) (pss_cons (ps_set (i := 2) sc_Events_tell_text.nd rfl (.inl rfl) (pe_ix ix_list (pe_fld (pv 0) rfl) (pe_un un_neg pe_int) (fun _ _ => rfl))) (pss_one (ps_expr (pe_bm PySem.F.plainAttrs_list PySem.F.slot_list_extend PySem.F.type_list_extend mt_extend (pe_fld (pv 2) rfl) (pa_cons (pv 1) pa_nil))))), ?_⟩
    have hz2 : (10000000 : Nat) < sizeLine := by decide
    have told : ∀ {H' : Hp} {x : Option V} {ps' ds' : List Addr} {T' : List Ml.Event}, EvAt T.k_Events.C T.k_Event.C H' e L ps' ds' T' → Val (tFld K (tVar 0) "told") [some (.ref e), some (.ref a), x] H' (.ref L) := fun h => by
      obtain ⟨dxe, he⟩ := h.obj
      exact v_fld (v_var rfl) he T.k_Events.cl (T.n_Events _ (by decide +kernel)) (lk_zip (by decide +kernel) (i := 0) rfl rfl)
    -- the last one, a text, grows
    have grow : ∀ (D : Ends) (H1 : Hp) (ps' ds0 : List Addr) (d : Addr) (T0 : List Ml.Event) (lb : Bytes), (∀ H', D.nx [some (.ref e), some (.ref a), some (.ref (ps'.getLastD 0))] H' = Q .non H') → EvAt T.k_Events.C T.k_Event.C H1 e L ps' (ds0 ++ [d]) (T0 ++ [⟨0, 0, lb⟩]) →
        Same (hide H (evS L ds)) (hide H1 (evS L (ds0 ++ [d]))) → lb.length + b.length ≤ sizeLine → push evs ⟨0, 0, b⟩ = T0 ++ [⟨0, 0, lb ++ b⟩] →
        tSeq (tAsg (tOp (rIxL K) (tFld K (tVar 0) "told") (tUn (rU fun i => .int (-i)) (tC (.int 1)))) (gName 2)) (tDrop (tBM K "list" rExtend (tFld K (tVar 2) "data") (tCons (tVar 1) tNil))) D [some (.ref e), some (.ref a), none] H1 := by
      intro D H1 ps' ds0 d T0 lb hD hE1 sm hl hp
      have hlp : ps'.length = T0.length + 1 := by rw [hE1.lp, List.length_append]; rfl
      have hld : ds0.length = T0.length := by
        have := hE1.ld
        rw [List.length_append, List.length_append] at this
        exact Nat.succ.inj this
      obtain ⟨pr, pl, hpp⟩ : ∃ pr pl, ps' = pr ++ [pl] := by
        have hne : ps' ≠ [] := fun z => by rw [z] at hlp; cases hlp
        exact ⟨ps'.dropLast, ps'.getLast hne, (List.dropLast_concat_getLast hne).symm⟩
      have hprl : pr.length = T0.length := by
        rw [hpp, List.length_append] at hlp
        exact Nat.succ.inj hlp
      have hpl : ps'[T0.length]? = some pl := by
        rw [hpp, ← hprl, List.getElem?_append_right (Nat.le_refl _), Nat.sub_self]
        rfl
      have hdl : (ds0 ++ [d])[T0.length]? = some d := by
        rw [← hld, List.getElem?_append_right (Nat.le_refl _), Nat.sub_self]
        rfl
      obtain ⟨⟨dx, g1⟩, g2⟩ := hE1.one T0.length pl d ⟨0, 0, lb⟩ hpl hdl (by rw [List.getElem?_append_right (Nat.le_refl _), Nat.sub_self]; rfl)
      have hgl : ps'.getLastD 0 = pl := by
        rw [hpp]
        simp
      rw [hgl] at hD
      refine s_set (v_ixI (told hE1) (v_neg v_c) (SqL.of hE1.lst) (v := .ref pl) ?_) ?_
      · rw [hpp, ← refs_snoc]
        exact atI_last _ _
      refine s_extend (v_fld (v_var rfl) g1 T.k_Event.cl (T.n_Event _ (by decide +kernel)) (lk_zip eventN_nd (i := 2) rfl rfl)) (v_var rfl) g2 (hide_same _ _ (sm _ _ hA)) (by rw [bs_len, bs_len]; exact hl) ?_
      show D.nx _ _
      have hD' := hD (upd H1 d (.lst (bs lb ++ bs b)))
      refine Eq.mpr hD' ?_
      rw [← bs_append]
      refine q _ ps' (ds0 ++ [d]) ?_ ?_
      · rw [hide_write (show evS L (ds0 ++ [d]) d from .inr (List.mem_append.mpr (.inr (List.mem_singleton.mpr rfl))))]
        exact sm
      · rw [hp]
        exact hE1.grow
    by_cases c : ∃ T0 l, evs = T0 ++ [l] ∧ l.kind = 0
    · obtain ⟨T0, l, rfl, hk⟩ := c
      have hl0 : l = ⟨0, 0, l.bytes⟩ := by
        have hn := hE.n0 l (List.mem_append.mpr (.inr (List.mem_singleton.mpr rfl))) hk
        cases l
        cases hk
        cases hn
        rfl
      have hp : push (T0 ++ [l]) ⟨0, 0, b⟩ = T0 ++ [⟨0, 0, l.bytes ++ b⟩] := by rw [push_last, if_pos ⟨rfl, hk⟩]
      have hlen : l.bytes.length + b.length ≤ sizeLine := by
        have h1 := sz_mem (T := T0 ++ [l]) (e := l) (List.mem_append.mpr (.inr (List.mem_singleton.mpr rfl)))
        unfold sz1 at h1
        omega
      have hlp : ps.length = T0.length + 1 := by rw [hE.lp, List.length_append]; rfl
      obtain ⟨ds0, d, rfl⟩ : ∃ ds0 d, ds = ds0 ++ [d] := by
        have hne : ds ≠ [] := fun z => by
          have := hE.ld
          rw [z, List.length_append] at this
          cases this
        exact ⟨ds.dropLast, ds.getLast hne, (List.dropLast_concat_getLast hne).symm⟩
      obtain ⟨pr, pl, rfl⟩ : ∃ pr pl, ps = pr ++ [pl] := by
        have hne : ps ≠ [] := fun z => by rw [z] at hlp; cases hlp
        exact ⟨ps.dropLast, ps.getLast hne, (List.dropLast_concat_getLast hne).symm⟩
      have hprl : pr.length = T0.length := by
        rw [List.length_append] at hlp
        exact Nat.succ.inj hlp
      have hld : ds0.length = T0.length := by
        have := hE.ld
        rw [List.length_append, List.length_append] at this
        exact Nat.succ.inj this
      obtain ⟨⟨dx, g1⟩, g2⟩ := hE.one T0.length pl d l (by rw [← hprl, List.getElem?_append_right (Nat.le_refl _), Nat.sub_self]; rfl) (by rw [← hld, List.getElem?_append_right (Nat.le_refl _), Nat.sub_self]; rfl) (by rw [List.getElem?_append_right (Nat.le_refl _), Nat.sub_self]; rfl)
      refine s_if (b := false) (a_to (a_or (a_t (v_eq (v_len (told hE) (SqL.of hE.lst)) v_c)) fun _ => a_t (v_ne (v_fld (v_ixI (told hE) (v_neg v_c) (SqL.of hE.lst) (v := .ref pl) (by rw [← refs_snoc]; exact atI_last _ _)) g1 T.k_Event.cl (T.n_Event _ (by decide +kernel)) (lk_zip eventN_nd (i := 0) rfl rfl)) v_c)) ?_) nofun fun _ => ?_
      · rw [hk, refs_len, List.length_append, decide_eq_false (show ¬ ((pr.length + [pl].length : Nat) : Int) = 0 by simp only [List.length_cons, List.length_nil]; omega)]
        rfl
      · refine grow _ H (pr ++ [pl]) ds0 d T0 l.bytes (fun _ => ?_) (by rw [← hl0]; exact hE) (Same.refl _) hlen hp
        rfl
    · have hp : push evs ⟨0, 0, b⟩ = evs ++ [⟨0, 0, [] ++ b⟩] := by
        by_cases h0 : evs = []
        · subst h0
          rfl
        · have e9 := List.dropLast_concat_getLast h0
          rw [← e9, push_last, if_neg]
          · rfl
          · intro z
            exact c ⟨_, _, e9.symm, z.2⟩
      have test : Ans (tOr (tTest (tOp rEq (tCB (rLen K) (tCons (tFld K (tVar 0) "told") tNil)) (tC (.int 0)))) (tTest (tOp rNe (tFld K (tOp (rIxL K) (tFld K (tVar 0) "told") (tUn (rU fun i => .int (-i)) (tC (.int 1)))) "kind") (tC (.int 0))))) [some (.ref e), some (.ref a), none] H true := by
        by_cases h0 : evs = []
        · subst h0
          have hps : ps = [] := List.length_eq_zero_iff.mp hE.lp
          subst hps
          exact a_to (a_or (b := true) (a_t (v_eq (v_len (told hE) (SqL.of hE.lst)) v_c)) fun z => absurd rfl (of_decide_eq_false z)) (Bool.or_true _)
        · obtain ⟨T0, l, rfl⟩ : ∃ T0 l, evs = T0 ++ [l] := ⟨evs.dropLast, evs.getLast h0, (List.dropLast_concat_getLast h0).symm⟩
          have hk : l.kind ≠ 0 := fun z => c ⟨T0, l, rfl, z⟩
          have hlp : ps.length = T0.length + 1 := by rw [hE.lp, List.length_append]; rfl
          have hld : ds.length = T0.length + 1 := by rw [hE.ld, List.length_append]; rfl
          obtain ⟨pr, pl, rfl⟩ : ∃ pr pl, ps = pr ++ [pl] := by
            have hne : ps ≠ [] := fun z => by rw [z] at hlp; cases hlp
            exact ⟨ps.dropLast, ps.getLast hne, (List.dropLast_concat_getLast hne).symm⟩
          have hprl : pr.length = T0.length := by
            rw [List.length_append] at hlp
            exact Nat.succ.inj hlp
          obtain ⟨⟨dx, g1⟩, g2⟩ := hE.one T0.length pl _ l (by rw [← hprl, List.getElem?_append_right (Nat.le_refl _), Nat.sub_self]; rfl) (List.getElem?_eq_getElem (by omega)) (by rw [List.getElem?_append_right (Nat.le_refl _), Nat.sub_self]; rfl)
          refine a_to (a_or (a_t (v_eq (v_len (told hE) (SqL.of hE.lst)) v_c)) fun _ => a_t (v_ne (v_fld (v_ixI (told hE) (v_neg v_c) (SqL.of hE.lst) (v := .ref pl) (by rw [← refs_snoc]; exact atI_last _ _)) g1 T.k_Event.cl (T.n_Event _ (by decide +kernel)) (lk_zip eventN_nd (i := 0) rfl rfl)) v_c)) ?_
          rw [decide_eq_false (show ¬ ((l.kind : Nat) : Int) = 0 by omega)]
          exact Bool.or_true _
      refine s_if test (fun _ => ?_) nofun
      refine k_drop ?_
      obtain ⟨dxe, he⟩ := hE.obj
      refine k_meth (v_var rfl) he (lk_no (by decide +kernel)) ?_
      refine ka_v v_c (ka_v v_c (ka_n (n_lst va_nil (Nat.zero_le _)) fun n nn => ka_nil ?_))
      have s1 : Same H (upd H n (.lst [])) := same_upd nn
      have hN : SqL K (upd H n (.lst [])) n (bs []) := SqL.of upd_same
      generalize upd H n (.lst []) = H1 at s1 hN ⊢
      refine ⟨e, L, n, ps, ds, evs, 0, 0, [], rfl, hE.mono s1, hN, ?_, fun _ => rfl, fun H2 ps' ds' s2 hE2 => ?_⟩
      · have := sz_len evs
        omega
      · have hld : ds'.length = evs.length + 1 := by rw [hE2.ld, List.length_append]; rfl
        obtain ⟨ds0, d, rfl⟩ : ∃ ds0 d, ds' = ds0 ++ [d] := by
          have hne : ds' ≠ [] := fun z => by rw [z] at hld; cases hld
          exact ⟨ds'.dropLast, ds'.getLast hne, (List.dropLast_concat_getLast hne).symm⟩
        refine grow _ H2 ps' ds0 d evs [] (fun _ => rfl) hE2 ((hide_mono s1).trans s2) (by simp only [List.length_nil]; omega) hp
end
end Mk
namespace Mk
open PySem PySem.Spec PyProof.Rows L2
open Ml (Bytes Piece Block)
abbrev s_Thing_init__ : Stmt := inClass (top 64) 0
theorem sc_Thing_init__ : FnScope ["self", "kind", "data", "inner"] ["self", "kind", "data", "inner"] (defScope s_Thing_init__) := ⟨rfl, rfl, rfl, by decide +kernel, rfl, by decide +kernel, by decide +kernel⟩
abbrev s_read_things : Stmt := top 65
theorem sc_read_things : FnScope ["text", "things", "at", "end"] ["text"] (defScope s_read_things) := ⟨rfl, rfl, rfl, by decide +kernel, rfl, by decide +kernel, by decide +kernel⟩
abbrev s_is_backslashed : Stmt := top 66
theorem sc_is_backslashed : FnScope ["text", "at"] ["text", "at"] (defScope s_is_backslashed) := ⟨rfl, rfl, rfl, by decide +kernel, rfl, by decide +kernel, by decide +kernel⟩
abbrev s_code_end : Stmt := top 67
theorem sc_code_end : FnScope ["text", "at", "end"] ["text", "at"] (defScope s_code_end) := ⟨rfl, rfl, rfl, by decide +kernel, rfl, by decide +kernel, by decide +kernel⟩
abbrev s_kind_of_byte : Stmt := top 68
theorem sc_kind_of_byte : FnScope ["byte"] ["byte"] (defScope s_kind_of_byte) := ⟨rfl, rfl, rfl, by decide +kernel, rfl, by decide +kernel, by decide +kernel⟩
abbrev s_is_byte : Stmt := top 69
theorem sc_is_byte : FnScope ["thing", "byte"] ["thing", "byte"] (defScope s_is_byte) := ⟨rfl, rfl, rfl, by decide +kernel, rfl, by decide +kernel, by decide +kernel⟩
abbrev s_is_wide_space : Stmt := top 70
theorem sc_is_wide_space : FnScope ["thing"] ["thing"] (defScope s_is_wide_space) := ⟨rfl, rfl, rfl, by decide +kernel, rfl, by decide +kernel, by decide +kernel⟩
structure TxtThings (K : PySem.W.Frag) (mg : Str → Option Value) extends TxtEvents K mg where
  m_Thing_init__ : InitT K "Thing.__init__" s_Thing_init__ ["self", "kind", "data", "inner"]
  k_Thing : ClsT K mg "Thing" m_Thing_init__.f
  n_Thing : ∀ f ∈ (["kind", "data", "inner"] : List Str), NoAttr K k_Thing.C f
  d_read_things : DefT K mg "read_things" s_read_things ["text"]
  d_is_backslashed : DefT K mg "is_backslashed" s_is_backslashed ["text", "at"]
  d_code_end : DefT K mg "code_end" s_code_end ["text", "at"]
  d_kind_of_byte : DefT K mg "kind_of_byte" s_kind_of_byte ["byte"]
  d_is_byte : DefT K mg "is_byte" s_is_byte ["thing", "byte"]
  d_is_wide_space : DefT K mg "is_wide_space" s_is_wide_space ["thing"]
  c_BYTE : IntT mg "BYTE" 0
  c_BACKSLASHED : IntT mg "BACKSLASHED" 1
  c_CODE : IntT mg "CODE" 2
  c_STAR : IntT mg "STAR" 3
  c_OPENING : IntT mg "OPENING" 4
  c_CLOSING : IntT mg "CLOSING" 5
  c_LINK : IntT mg "LINK" 6
def thingN : List Str := ["kind", "data", "inner"]
theorem thingN_nd : thingN.Nodup := by decide +kernel
def tokKind : Ml.Tok → Nat
  | .ch _ => 0
  | .lit _ => 1
  | .code _ => 2
  | .star => 3
  | .lbr => 4
  | .rbr => 5
def tokData : Ml.Tok → Bytes
  | .ch c => [c]
  | .lit c => [c]
  | .code b => b
  | .star => [42]
  | .lbr => [91]
  | .rbr => [93]
def pKind : Piece → Nat
  | .tok t => tokKind t
  | .link _ _ => 6
def pData : Piece → Bytes
  | .tok t => tokData t
  | .link _ u => u
def pInner : Piece → List Ml.Tok
  | .tok _ => []
  | .link l _ => l
def TokAt (C : Addr) (H : Hp) (p : Addr) (t : Ml.Tok) : Prop := ∃ dx d q : Addr, H p = some (.ins C dx (thingN.zip [.int (tokKind t : Int), .ref d, .ref q])) ∧ H d = some (.lst (bs (tokData t))) ∧ H q = some (.lst (refs []))
def PieceAt (C : Addr) (H : Hp) (p : Addr) (x : Piece) : Prop := ∃ (dx d q : Addr) (rs : List Addr), H p = some (.ins C dx (thingN.zip [.int (pKind x : Int), .ref d, .ref q])) ∧ H d = some (.lst (bs (pData x))) ∧ H q = some (.lst (refs rs)) ∧ AllAt (TokAt C H) rs (pInner x)
section
variable {C : Addr} {H H' : Hp} {p : Addr}
theorem TokAt.mono {t : Ml.Tok} (s : Same H H') (h : TokAt C H p t) : TokAt C H' p t := by
  obtain ⟨dx, d, q, a, b, c⟩ := h
  exact ⟨dx, d, q, s _ _ a, s _ _ b, s _ _ c⟩
theorem PieceAt.mono {x : Piece} (s : Same H H') (h : PieceAt C H p x) : PieceAt C H' p x := by
  obtain ⟨dx, d, q, rs, a, b, c, e⟩ := h
  exact ⟨dx, d, q, rs, s _ _ a, s _ _ b, s _ _ c, e.mono fun _ _ z => z.mono s⟩
theorem TokAt.piece {t : Ml.Tok} (h : TokAt C H p t) : PieceAt C H p (.tok t) := by
  obtain ⟨dx, d, q, a, b, c⟩ := h
  exact ⟨dx, d, q, [], a, b, c, AllAt.nil⟩
theorem toks_pieces {ps : List Addr} {ts : List Ml.Tok} (h : AllAt (TokAt C H) ps ts) : AllAt (PieceAt C H) ps (ts.map .tok) := by
  refine ⟨by rw [List.length_map]; exact h.1, fun i p x hp hx => ?_⟩
  rw [List.getElem?_map] at hx
  cases e : ts[i]? with
  | none => rw [e] at hx; cases hx
  | some t =>
    rw [e] at hx
    cases hx
    exact (h.2 i p t hp e).piece
end
def isB (x : Piece) (k : UInt8) : Bool := match x with
  | .tok (.ch c) => c == k
  | _ => false
section
variable {P : Program} {w : World} {K : PySem.W.Frag} {mg : Str → Option Value} {base : Heap}
/-! ### Thing -/
def sp_Thing_init__ (C : Addr) : Sp := fun vs H Q _ => ∃ (p dx : Addr) (k n t : V), vs = [.ref p, k, n, t] ∧ H p = some (.ins C dx []) ∧ Q .non (upd H p (.ins C dx (thingN.zip [k, n, t])))
theorem ok_Thing_init__ (T : TxtThings K mg) : FnOk P w K mg base CX0 1 T.m_Thing_init__.f T.m_Thing_init__.fd ["self", "kind", "data", "inner"] (sp_Thing_init__ T.k_Thing.C) := by
  refine T.m_Thing_init__.F.ok sc_Thing_init__ (fun vs H Q E h => ?_) (fun cdv A outer s H vs Q E hr h => ?_)
  · obtain ⟨p, dx, k, n, t, rfl, _⟩ := h
    rfl
  · obtain ⟨p, dx, k, n, t, rfl, hp, q⟩ := h
    refine ⟨_, pss_cons (ps_fld (pv 0) (pv 1) rfl) (pss_cons (ps_fld (pv 0) (pv 2) rfl) (pss_one (ps_fld (pv 0) (pv 3) rfl))), ?_⟩
    have e1 : putF "kind" k [] = (["kind"] : List Str).zip [k] := rfl
    have e2 : putF "data" n ((["kind"] : List Str).zip [k]) = (["kind", "data"] : List Str).zip [k, n] := put_no (by decide +kernel) rfl
    have e3 : putF "inner" t ((["kind", "data"] : List Str).zip [k, n]) = thingN.zip [k, n, t] := put_no (by decide +kernel) rfl
    refine ⟨_, rfl, _, rfl, p, _, dx, _, rfl, hp, T.k_Thing.cl, T.n_Thing _ (by decide +kernel), (by show 0 < 1000; decide), ?_⟩
    refine ⟨_, rfl, _, rfl, p, _, dx, _, rfl, upd_same, T.k_Thing.cl, T.n_Thing _ (by decide +kernel), (by show 1 < 1000; decide), ?_⟩
    refine ⟨_, rfl, _, rfl, p, _, dx, _, rfl, upd_same, T.k_Thing.cl, T.n_Thing _ (by decide +kernel), (by rw [e1, e2]; show 2 < 1000; decide), ?_⟩
    show Q .non _
    rw [e1, e2, e3, upd_upd, upd_upd]
    exact q
section
variable {σ : L2.St} {H : Hp} {te : TE} {p dx d q : Addr} {k : Int}
theorem v_Tkind (T : TxtThings K mg) (h : Val te σ H (.ref p)) (ho : H p = some (.ins T.k_Thing.C dx (thingN.zip [.int k, .ref d, .ref q]))) : Val (tFld K te "kind") σ H (.int k) :=
  v_fld h ho T.k_Thing.cl (T.n_Thing _ (by decide +kernel)) (lk_zip thingN_nd (i := 0) rfl rfl)
theorem v_Tdata (T : TxtThings K mg) (h : Val te σ H (.ref p)) (ho : H p = some (.ins T.k_Thing.C dx (thingN.zip [.int k, .ref d, .ref q]))) : Val (tFld K te "data") σ H (.ref d) :=
  v_fld h ho T.k_Thing.cl (T.n_Thing _ (by decide +kernel)) (lk_zip thingN_nd (i := 1) rfl rfl)
theorem v_Tinner (T : TxtThings K mg) (h : Val te σ H (.ref p)) (ho : H p = some (.ins T.k_Thing.C dx (thingN.zip [.int k, .ref d, .ref q]))) : Val (tFld K te "inner") σ H (.ref q) :=
  v_fld h ho T.k_Thing.cl (T.n_Thing _ (by decide +kernel)) (lk_zip thingN_nd (i := 2) rfl rfl)
end
/-! ### what a thing is -/
theorem kind_byte {x : Piece} (h : pKind x = 0) : ∃ c, x = .tok (.ch c) := by
  cases x with
  | tok t => cases t <;> first | exact ⟨_, rfl⟩ | cases h
  | link l u => cases h
theorem kind_no {x : Piece} (h : pKind x ≠ 0) (k : UInt8) : isB x k = false := by
  cases x with
  | tok t => cases t <;> first | exact absurd rfl h | rfl
  | link l u => rfl
theorem kind_nob {x : Piece} (h : pKind x ≠ 0) : x.isBlank = false := by
  cases x with
  | tok t => cases t <;> first | exact absurd rfl h | rfl
  | link l u => rfl
def sp_is_byte (C : Addr) : Sp := fun vs H Q _ => ∃ (p : Addr) (x : Piece) (k : UInt8), vs = [.ref p, bv k] ∧ PieceAt C H p x ∧ Q (.bl (isB x k)) H
theorem ok_is_byte (T : TxtThings K mg) : FnOk P w K mg base CX0 1 T.d_is_byte.f T.d_is_byte.fd ["thing", "byte"] (sp_is_byte T.k_Thing.C) := by
  refine T.d_is_byte.F.ok sc_is_byte (fun vs H Q E h => ?_) (fun cdv A outer s H vs Q E hr h => ?_)
  · obtain ⟨p, x, k, rfl, _⟩ := h
    rfl
  · obtain ⟨p, x, k, rfl, ⟨dx, d, q', rs, h1, h2, h3, h4⟩, q⟩ := h
    refine ⟨_, pss_one (ps_ret (pe_and (pe_cmpR op_eq (pe_fld (pv 0) rfl) (pe_k (by rfl) T.c_BYTE) (nomark _)) (pe_one (pe_cmpR op_eq (pe_ix ix_list (pe_fld (pv 0) rfl) pe_int (fun _ _ => rfl)) (pv 1) (nomark _))))), ?_⟩
    by_cases c : pKind x = 0
    · obtain ⟨y, rfl⟩ := kind_byte c
      refine s_ret (v_to (w := .bl (isB (.tok (.ch y)) k)) (v_and (v_eq (v_Tkind T (v_var rfl) h1) v_c) fun _ => v_eq (v_ix (n := 0) (v_Tdata T (v_var rfl) h1) v_c (SqL.of h2) rfl (v := .int (y.toNat : Int)) rfl) (v_var rfl)) ?_) q
      show V.bl (decide (((0 : Nat) : Int) = 0) && decide ((y.toNat : Int) = (k.toNat : Int))) = _
      rw [u8d]
      rfl
    · refine s_ret (v_to (w := .bl (isB x k)) (v_and (b := false) (v_eq (v_Tkind T (v_var rfl) h1) v_c) fun z => absurd (of_decide_eq_true z) (by omega)) ?_) q
      rw [kind_no c k, Bool.and_false]
theorem v_isB {H : Hp} {C p : Addr} {x : Piece} {k : UInt8} (h : PieceAt C H p x) : SpV (sp_is_byte C) [.ref p, bv k] H (.bl (isB x k)) := fun Q E q => ⟨p, x, k, rfl, h, q⟩
def sp_is_wide_space (C : Addr) : Sp := fun vs H Q _ => ∃ (p : Addr) (x : Piece), vs = [.ref p] ∧ PieceAt C H p x ∧ Q (.bl x.isBlank) H
theorem ok_is_wide_space (T : TxtThings K mg) : FnOk P w K mg base CX0 1 T.d_is_wide_space.f T.d_is_wide_space.fd ["thing"] (sp_is_wide_space T.k_Thing.C) := by
  refine T.d_is_wide_space.F.ok sc_is_wide_space (fun vs H Q E h => ?_) (fun cdv A outer s H vs Q E hr h => ?_)
  · obtain ⟨p, x, rfl, _⟩ := h
    rfl
  · obtain ⟨p, x, rfl, ⟨dx, d, q', rs, h1, h2, h3, h4⟩, q⟩ := h
    refine ⟨_, pss_one (ps_ret (pe_and (pe_cmpR op_eq (pe_fld (pv 0) rfl) (pe_k (by rfl) T.c_BYTE) (nomark _)) (pe_one (pe_cmpR op_in_seq (pe_ix ix_list (pe_fld (pv 0) rfl) pe_int (fun _ _ => rfl)) (pe_kt (by rfl) T.c_WIDE_SPACES) (by with_unfolding_all rfl))))), ?_⟩
    by_cases c : pKind x = 0
    · obtain ⟨y, rfl⟩ := kind_byte c
      refine s_ret (v_to (w := .bl (Piece.isBlank (.tok (.ch y)))) (v_and (v_eq (v_Tkind T (v_var rfl) h1) v_c) fun _ => v_in (v_ix (n := 0) (v_Tdata T (v_var rfl) h1) v_c (SqL.of h2) rfl (v := .int (y.toNat : Int)) rfl) v_c (T.c_WIDE_SPACES.q _) rfl) ?_) q
      rw [in_spaces]
      rfl
    · refine s_ret (v_to (w := .bl x.isBlank) (v_and (b := false) (v_eq (v_Tkind T (v_var rfl) h1) v_c) fun z => absurd (of_decide_eq_true z) (by omega)) ?_) q
      rw [kind_nob c, Bool.and_false]
theorem v_isW {H : Hp} {C p : Addr} {x : Piece} (h : PieceAt C H p x) : SpV (sp_is_wide_space C) [.ref p] H (.bl x.isBlank) := fun Q E q => ⟨p, x, rfl, h, q⟩
/-! ### kind_of_byte -/
def sp_kind_of_byte : Sp := fun vs H Q _ => ∃ c : UInt8, vs = [bv c] ∧ Q (.int (tokKind (byteTok c) : Int)) H
theorem ok_kind_of_byte (T : TxtThings K mg) : FnOk P w K mg base CX0 1 T.d_kind_of_byte.f T.d_kind_of_byte.fd ["byte"] sp_kind_of_byte := by
  refine T.d_kind_of_byte.F.ok sc_kind_of_byte (fun vs H Q E h => ?_) (fun cdv A outer s H vs Q E hr h => ?_)
  · obtain ⟨c, rfl, _⟩ := h
    rfl
  · obtain ⟨c, rfl, q⟩ := h
    refine ⟨_, pss_cons (ps_if (pt_cmpR op_eq (pv 0) (pe_k (by rfl) T.c_STAR_SIGN) (nomark _)) (pss_one (ps_ret (pe_k (by rfl) T.c_STAR))) pss_nil) (pss_cons (ps_if (pt_cmpR op_eq (pv 0) (pe_k (by rfl) T.c_OPENING_BRACKET) (nomark _)) (pss_one (ps_ret (pe_k (by rfl) T.c_OPENING))) pss_nil) (pss_cons (ps_if (pt_cmpR op_eq (pv 0) (pe_k (by rfl) T.c_CLOSING_BRACKET) (nomark _)) (pss_one (ps_ret (pe_k (by rfl) T.c_CLOSING))) pss_nil) (pss_one (ps_ret (pe_k (by rfl) T.c_BYTE))))), ?_⟩
    have e1 : decide ((c.toNat : Int) = 42) = decide (c = 42) := by have := u8d c 42; exact this.trans (by by_cases h : c = 42 <;> simp [h])
    have e2 : decide ((c.toNat : Int) = 91) = decide (c = 91) := by have := u8d c 91; exact this.trans (by by_cases h : c = 91 <;> simp [h])
    have e3 : decide ((c.toNat : Int) = 93) = decide (c = 93) := by have := u8d c 93; exact this.trans (by by_cases h : c = 93 <;> simp [h])
    refine s_if (a_t (v_eq (v_var rfl) v_c)) (fun z => ?_) fun z => ?_
    · have h1 : c = 42 := of_decide_eq_true (e1 ▸ z)
      subst h1
      exact s_ret v_c q
    have h1 : c ≠ 42 := of_decide_eq_false (e1 ▸ z)
    refine s_if (a_t (v_eq (v_var rfl) v_c)) (fun z => ?_) fun z => ?_
    · have h1 : c = 91 := of_decide_eq_true (e2 ▸ z)
      subst h1
      exact s_ret v_c q
    have h2 : c ≠ 91 := of_decide_eq_false (e2 ▸ z)
    refine s_if (a_t (v_eq (v_var rfl) v_c)) (fun z => ?_) fun z => ?_
    · have h1 : c = 93 := of_decide_eq_true (e3 ▸ z)
      subst h1
      exact s_ret v_c q
    have h3 : c ≠ 93 := of_decide_eq_false (e3 ▸ z)
    have e : byteTok c = .ch c := by
      unfold byteTok
      rw [if_neg h1, if_neg h2, if_neg h3]
    rw [e] at q
    exact q
theorem byteTok_data (c : UInt8) : tokData (byteTok c) = [c] := by
  unfold byteTok
  split
  · rename_i h
    rw [h]
    rfl
  · split
    · rename_i h
      rw [h]
      rfl
    · split
      · rename_i h
        rw [h]
        rfl
      · rfl
/-! ### is_backslashed -/
def sp_is_backslashed (K : PySem.W.Frag) : Sp := fun vs H Q _ => ∃ (a : Addr) (t : Bytes) (i : Nat) (c : UInt8), vs = [.ref a, .int (i : Int)] ∧ SqL K H a (bs t) ∧ t[i]? = some c ∧ Q (.bl (backed c (t.drop (i + 1)))) H
theorem ok_is_backslashed (T : TxtThings K mg) : FnOk P w K mg base CX0 2 T.d_is_backslashed.f T.d_is_backslashed.fd ["text", "at"] (sp_is_backslashed K) := by
  refine T.d_is_backslashed.F.ok sc_is_backslashed (fun vs H Q E h => ?_) (fun cdv A outer s H vs Q E hr h => ?_)
  · obtain ⟨a, t, i, c, rfl, _⟩ := h
    rfl
  · obtain ⟨a, t, i, c, rfl, hS, hc, q⟩ := h
    refine ⟨_, pss_one (ps_ret (pe_and (pe_cmpR op_eq (pe_ix ix_list (pv 0) (pv 1) (fun _ _ => rfl)) (pe_k (by rfl) T.c_BACKSLASH) (nomark _)) (pe_and (pe_cmpR op_lt (pe_op op_add (pv 1) pe_int) (pe_callB call_len_seq (by rfl) T.b_len PySem.boot_len (pa_cons (pv 0) pa_nil)) (nomark _)) (pe_one (pe_call (ok_is_sign T.toTxtSigns) (hr.mono (by decide)) (by rfl) T.d_is_sign.g T.d_is_sign.F.kp T.d_is_sign.b .nil pass0 (pa_cons (pe_ix ix_list (pv 0) (pe_op op_add (pv 1) pe_int) (fun _ _ => rfl)) pa_nil)))))), ?_⟩
    have e1 : decide ((c.toNat : Int) = 92) = (c == 92) := u8d c 92
    have hil : i < t.length := (List.getElem?_eq_some_iff.mp hc).1
    have h0 : Val _ [some (.ref a), some (.int (i : Int))] H _ := v_eq (v_ix (v_var (i := 0) rfl) (v_var (i := 1) rfl) hS rfl (bs_get hc)) (v_c (v := .int 92))
    cases c1 : c == 92 with
    | false =>
      refine s_ret (v_to (w := .bl (backed c (t.drop (i + 1)))) (v_and (b := false) h0 fun z => ?_) ?_) q
      · rw [e1, c1] at z
        cases z
      · unfold backed
        rw [Bool.and_false, c1, Bool.false_and]
    | true =>
      by_cases c2 : i + 1 < t.length
      · obtain ⟨x, hx, hd⟩ := drop_lt c2
        refine s_ret (v_to (w := .bl (backed c (t.drop (i + 1)))) (v_and h0 fun _ => v_and (v_lt (v_add (v_var rfl) v_c) (v_len (v_var rfl) hS)) fun _ => v_call (vs := [bv x]) (va1 (v_ix (v_var rfl) (v_add (v_var rfl) v_c) hS rfl (bs_get hx))) fun Q' E' q' => ⟨x, rfl, q'⟩) ?_) q
        unfold backed
        rw [e1, c1, hd, decide_eq_true (show ((i : Int) + 1) < ((bs t).length : Int) by rw [bs_len]; omega)]
        rfl
      · refine s_ret (v_to (w := .bl (backed c (t.drop (i + 1)))) (v_and h0 fun _ => v_and (b := false) (v_lt (v_add (v_var rfl) v_c) (v_len (v_var rfl) hS)) fun z => absurd (of_decide_eq_true z) (by rw [bs_len]; omega)) ?_) q
        unfold backed
        rw [List.drop_eq_nil_of_le (by omega), Bool.and_false, Bool.and_false, Bool.and_false]
/-! ### code_end -/
def codeEnd (i : Nat) (c : UInt8) (r : Bytes) : Nat := if c = 96 then (if 0 < codeLen r then i + 1 + codeLen r else i) else i
theorem codeLen_of {r : Bytes} {n : Nat} (e : n = (r.takeWhile fun x => x != 96).length) : codeLen r = if n < r.length then n else 0 := by
  subst e
  rfl
def sp_code_end (K : PySem.W.Frag) : Sp := fun vs H Q _ => ∃ (a : Addr) (t : Bytes) (i : Nat) (c : UInt8), vs = [.ref a, .int (i : Int)] ∧ SqL K H a (bs t) ∧ t[i]? = some c ∧ Q (.int (codeEnd i c (t.drop (i + 1)) : Int)) H
theorem ok_code_end (T : TxtThings K mg) : FnOk P w K mg base CX0 1 T.d_code_end.f T.d_code_end.fd ["text", "at"] (sp_code_end K) := by
  refine T.d_code_end.F.ok sc_code_end (fun vs H Q E h => ?_) (fun cdv A outer s H vs Q E hr h => ?_)
  · obtain ⟨a, t, i, c, rfl, _⟩ := h
    rfl
  · obtain ⟨a, t, i, c, rfl, hS, hc, q⟩ := h
    refine ⟨_, pss_cons (ps_if (pt_cmpR op_ne (pe_ix ix_list (pv 0) (pv 1) (fun _ _ => rfl)) (pe_k (by rfl) T.c_BACKQUOTE) (nomark _)) (pss_one (ps_ret (pv 1))) pss_nil) (pss_cons (ps_set (i := 2) sc_code_end.nd rfl (.inl rfl) (pe_op op_add (pv 1) pe_int)) (pss_cons (ps_while PassesOwn.never (pw_and (pt_cmpR op_lt (pv 2) (pe_callB call_len_seq (by rfl) T.b_len PySem.boot_len (pa_cons (pv 0) pa_nil)) (nomark _)) (pw_and1 (pt_cmpR op_ne (pe_ix ix_list (pv 0) (pv 2) (fun _ _ => rfl)) (pe_k (by rfl) T.c_BACKQUOTE) (nomark _)))).pt (pss_one (ps_aug (i := 2) sc_code_end.nd rfl (.inl rfl) pe_int ip_add))) (pss_one (ps_ret (pe_ifExp (pt_chain op_lt op_lt (pe_op op_add (pv 1) pe_int) (pv 2) (pe_callB call_len_seq (by rfl) T.b_len PySem.boot_len (pa_cons (pv 0) pa_nil))) (pv 2) (pv 1)))))), ?_⟩
    have e1 : decide ((c.toNat : Int) = 96) = (c == 96) := u8d c 96
    have hil : i < t.length := (List.getElem?_eq_some_iff.mp hc).1
    refine s_if (a_t (v_ne (v_ix (v_var rfl) (v_var rfl) hS rfl (bs_get hc)) v_c)) (fun z => ?_) fun z => ?_
    · have h1 : c ≠ 96 := fun y => by
        rw [y] at z
        cases z
      refine s_ret (v_var rfl) ?_
      unfold codeEnd at q
      rw [if_neg h1] at q
      exact q
    have h1 : c = 96 := by
      by_cases y : c = 96
      · exact y
      · rw [e1, beq_eq_false_iff_ne.mpr y] at z
        cases z
    subst h1
    refine s_set (v_add (v_var rfl) v_c) ?_
    have hk : ((t.drop (i + 1)).takeWhile fun x => x != 96).length ≤ (t.drop (i + 1)).length := takeWhile_len _ _
    have hdl : (t.drop (i + 1)).length = t.length - (i + 1) := List.length_drop
    refine s_while (fun m σ H' => ∃ n : Nat, σ = [some (.ref a), some (.int (i : Int)), some (.int ((i + 1 + n : Nat) : Int))] ∧ H = H' ∧ n ≤ ((t.drop (i + 1)).takeWhile fun x => x != 96).length ∧ m = t.length - (i + 1 + n)) (t.length - (i + 1)) ⟨0, by rfl, rfl, Nat.zero_le _, rfl⟩ ?_
    rintro m _ _ ⟨n, rfl, rfl, hn, rfl⟩
    have fin : n = ((t.drop (i + 1)).takeWhile fun x => x != 96).length → (tRet (tIf (tTest (tChain (rI0 fun i j => .bl (decide (i < j))) (rI0 fun i j => .bl (decide (i < j))) (tOp (rI0 fun i j => .int (i + j)) (tVar 1) (tC (.int 1))) (tVar 2) (tCB (rLen K) (tCons (tVar 0) tNil)))) (tVar 2) (tVar 1)))
        { nx := fun _ H' => Q .non H', rt := Q } [some (.ref a), some (.int (i : Int)), some (.int ((i + 1 + n : Nat) : Int))] H := by
      intro en
      have test : Ans _ _ H _ := a_t (v_chain (g := fun i j => decide (i < j)) (g' := fun i j => decide (i < j)) (σ := [some (.ref a), some (.int (i : Int)), some (.int ((i + 1 + n : Nat) : Int))]) (v_add (v_var (i := 1) rfl) (v_c (v := .int 1))) (v_var (i := 2) rfl) (v_len (v_var (i := 0) rfl) hS))
      have hce : codeEnd i 96 (t.drop (i + 1)) = (if 0 < (if n < (t.drop (i + 1)).length then n else 0) then i + 1 + (if n < (t.drop (i + 1)).length then n else 0) else i : Nat) := by
        unfold codeEnd
        rw [if_pos rfl, codeLen_of en]
      rw [hce] at q
      refine s_ret (v_if (v := .int ((if 0 < (if n < (t.drop (i + 1)).length then n else 0) then i + 1 + (if n < (t.drop (i + 1)).length then n else 0) else i : Nat) : Int)) test (fun z => ?_) fun z => ?_) q
      · rw [Bool.and_eq_true] at z
        have z1 := of_decide_eq_true z.1
        have z2 := of_decide_eq_true z.2
        rw [bs_len] at z2
        rw [if_pos (show n < (t.drop (i + 1)).length by omega), if_pos (show 0 < n by omega)]
        exact v_var rfl
      · have e0 : (if 0 < (if n < (t.drop (i + 1)).length then n else 0) then i + 1 + (if n < (t.drop (i + 1)).length then n else 0) else i : Nat) = i := by
          rw [if_neg]
          intro y
          split at y
          · rw [decide_eq_true (show (i : Int) + 1 < ((i + 1 + n : Nat) : Int) by omega), decide_eq_true (show ((i + 1 + n : Nat) : Int) < ((bs t).length : Int) by rw [bs_len]; omega)] at z
            cases z
          · exact Nat.lt_irrefl _ y
        rw [e0]
        exact v_var rfl
    by_cases c3 : i + 1 + n < t.length
    · obtain ⟨x, hx, hd⟩ := drop_lt c3
      have hx' : (t.drop (i + 1))[n]? = some x := by rw [List.getElem?_drop]; exact hx
      refine ⟨x != 96, a_to (a_and (a_t (v_lt (v_var rfl) (v_len (v_var rfl) hS))) fun _ => a_t (v_ne (v_ix (v_var rfl) (v_var rfl) hS rfl (bs_get hx)) v_c)) ?_, fun c4 => ?_, fun c4 => ?_⟩
      · rw [decide_eq_true (show ((i + 1 + n : Nat) : Int) < ((bs t).length : Int) by rw [bs_len]; omega), Bool.true_and]
        have e2 : decide ((x.toNat : Int) = 96) = (x == 96) := u8d x 96
        rw [e2]
        rfl
      · refine s_aug rfl v_c ?_
        refine ⟨_, ?_, n + 1, rfl, rfl, tw_at _ _ n x hn hx' c4, rfl⟩
        omega
      · refine fin (tw_stop _ _ n hn fun y hy => ?_)
        rw [hx'] at hy
        cases hy
        exact c4
    · refine ⟨false, a_to (a_and (b := false) (a_t (v_lt (v_var rfl) (v_len (v_var rfl) hS))) fun z => absurd (of_decide_eq_true z) (by rw [bs_len]; omega)) (Bool.and_false _), nofun, fun _ => fin (tw_stop _ _ n hn fun y hy => ?_)⟩
      rw [List.getElem?_drop] at hy
      exact absurd (List.getElem?_eq_some_iff.mp hy).1 c3
/-! ### read_things -/
def sp_read_things (K : PySem.W.Frag) (C : Addr) : Sp := fun vs H Q _ => ∃ (a : Addr) (t : Bytes) (S : Addr → Prop), vs = [.ref a] ∧ SqL K H a (bs t) ∧ t.length < 1000000 ∧ Tr S H ∧
  ∀ p ps H', Same H H' → H p = none → H' p = some (.lst (refs ps)) → AllAt (TokAt C (hide H' S)) ps (lexF t) → Q (.ref p) H'
theorem lexF_len (t : Bytes) : (lexF t).length ≤ t.length := Nat.le_trans (tokWs_len _) (lex_w t.length t)
/-- one sign more: how far it goes -/
theorem lex_step {t : Bytes} {i : Nat} {c : UInt8} (hc : t[i]? = some c) :
    (codeEnd i c (t.drop (i + 1)) > i → c = 96 ∧ lexF (t.drop i) = .code ((t.drop (i + 1)).take (codeLen (t.drop (i + 1)))) :: lexF (t.drop (codeEnd i c (t.drop (i + 1)) + 1)) ∧ codeEnd i c (t.drop (i + 1)) = i + 1 + codeLen (t.drop (i + 1)) ∧ codeEnd i c (t.drop (i + 1)) < t.length) ∧
    (¬ codeEnd i c (t.drop (i + 1)) > i → backed c (t.drop (i + 1)) = true → ∃ x, t[i + 1]? = some x ∧ lexF (t.drop i) = .lit x :: lexF (t.drop (i + 2))) ∧
    (¬ codeEnd i c (t.drop (i + 1)) > i → backed c (t.drop (i + 1)) = false → lexF (t.drop i) = byteTok c :: lexF (t.drop (i + 1))) := by
  have hd := drop_cons_of hc
  unfold codeEnd
  refine ⟨fun h => ?_, fun h hb => ?_, fun h hb => ?_⟩
  · by_cases c1 : c = 96
    · subst c1
      rw [if_pos rfl] at h ⊢
      by_cases c2 : 0 < codeLen (t.drop (i + 1))
      · rw [if_pos c2]
        refine ⟨rfl, ?_, rfl, ?_⟩
        · rw [hd, lexF_code c2, List.drop_drop]
          congr 3
        · have : codeLen (t.drop (i + 1)) < (t.drop (i + 1)).length := by
            unfold codeLen at c2 ⊢
            dsimp only at c2 ⊢
            split at c2
            · rename_i h2
              rw [if_pos h2]
              exact h2
            · exact absurd c2 (Nat.lt_irrefl _)
          rw [List.length_drop] at this
          omega
      · rw [if_neg c2] at h
        exact absurd h (Nat.lt_irrefl _)
    · rw [if_neg c1] at h
      exact absurd h (Nat.lt_irrefl _)
  · cases hr : t.drop (i + 1) with
    | nil =>
      rw [hr] at hb
      unfold backed at hb
      rw [Bool.and_false] at hb
      cases hb
    | cons x q =>
      have h1 := drop_of_cons hr
      refine ⟨x, h1.1, ?_⟩
      rw [hr] at hb
      rw [hd, hr, lexF_backed hb, ← h1.2.1]
  · by_cases c1 : c = 96
    · subst c1
      rw [if_pos rfl] at h
      have c2 : codeLen (t.drop (i + 1)) = 0 := by
        by_cases z : 0 < codeLen (t.drop (i + 1))
        · rw [if_pos z] at h
          omega
        · omega
      rw [hd, lexF_quote c2]
      rfl
    · rw [hd, lexF_byte hb c1]
theorem ok_read_things (T : TxtThings K mg) : FnOk P w K mg base CX0 3 T.d_read_things.f T.d_read_things.fd ["text"] (sp_read_things K T.k_Thing.C) := by
  refine T.d_read_things.F.ok sc_read_things (fun vs H Q E h => ?_) (fun cdv A outer s H vs Q E hr h => ?_)
  · obtain ⟨a, t, S, rfl, _⟩ := h
    rfl
  · obtain ⟨a, t, S, rfl, hS, hz, hTr, q⟩ := h
    refine ⟨_, pss_cons (ps_set (i := 1) sc_read_things.nd rfl (.inl rfl) (pe_lst pa_nil)) (pss_cons (ps_set (i := 2) sc_read_things.nd rfl (.inl rfl) pe_int) (pss_cons (ps_while PassesOwn.never (pt_cmpR op_lt (pv 2) (pe_callB call_len_seq (by rfl) T.b_len PySem.boot_len (pa_cons (pv 0) pa_nil)) (nomark _)) (pss_cons (ps_set (i := 3) sc_read_things.nd rfl (.inl rfl) (pe_call (ok_code_end T) (hr.mono (by decide)) (by rfl) T.d_code_end.g T.d_code_end.F.kp T.d_code_end.b .nil pass0 (pa_cons (pv 0) (pa_cons (pv 2) pa_nil)))) (pss_one (ps_if (pt_cmpR op_gt (pv 3) (pv 2) (nomark _)) (pss_cons (ps_expr (pe_bm PySem.F.plainAttrs_list PySem.F.slot_list_append PySem.F.type_list_append mt_append (pv 1) (pa_cons (pe_make T.k_Thing.made (ok_Thing_init__ T) (hr.mono (by decide)) (by rfl) T.k_Thing.g T.m_Thing_init__.b .nil pass0 (pa_cons (pe_k (by rfl) T.c_CODE) (pa_cons (pe_slice sl_list (pv 0) (po_some (pe_op op_add (pv 2) pe_int)) (po_some (pv 3))) (pa_cons (pe_lst pa_nil) pa_nil)))) pa_nil))) (pss_one (ps_set (i := 2) sc_read_things.nd rfl (.inl rfl) (pe_op op_add (pv 3) pe_int)))) (pss_one (ps_if (pt_val (pe_call (ok_is_backslashed T) (hr.mono (by decide)) (by rfl) T.d_is_backslashed.g T.d_is_backslashed.F.kp T.d_is_backslashed.b .nil pass0 (pa_cons (pv 0) (pa_cons (pv 2) pa_nil)))) (pss_cons (ps_expr (pe_bm PySem.F.plainAttrs_list PySem.F.slot_list_append PySem.F.type_list_append mt_append (pv 1) (pa_cons (pe_make T.k_Thing.made (ok_Thing_init__ T) (hr.mono (by decide)) (by rfl) T.k_Thing.g T.m_Thing_init__.b .nil pass0 (pa_cons (pe_k (by rfl) T.c_BACKSLASHED) (pa_cons (pe_lst (pa_cons (pe_ix ix_list (pv 0) (pe_op op_add (pv 2) pe_int) (fun _ _ => rfl)) pa_nil)) (pa_cons (pe_lst pa_nil) pa_nil)))) pa_nil))) (pss_one (ps_aug (i := 2) sc_read_things.nd rfl (.inl rfl) pe_int ip_add))) (pss_cons (ps_expr (pe_bm PySem.F.plainAttrs_list PySem.F.slot_list_append PySem.F.type_list_append mt_append (pv 1) (pa_cons (pe_make T.k_Thing.made (ok_Thing_init__ T) (hr.mono (by decide)) (by rfl) T.k_Thing.g T.m_Thing_init__.b .nil pass0 (pa_cons (pe_call (ok_kind_of_byte T) (hr.mono (by decide)) (by rfl) T.d_kind_of_byte.g T.d_kind_of_byte.F.kp T.d_kind_of_byte.b .nil pass0 (pa_cons (pe_ix ix_list (pv 0) (pv 2) (fun _ _ => rfl)) pa_nil)) (pa_cons (pe_lst (pa_cons (pe_ix ix_list (pv 0) (pv 2) (fun _ _ => rfl)) pa_nil)) (pa_cons (pe_lst pa_nil) pa_nil)))) pa_nil))) (pss_one (ps_aug (i := 2) sc_read_things.nd rfl (.inl rfl) pe_int ip_add))))))))) (pss_one (ps_ret (pv 1))))), ?_⟩
    have hz2 : (1000003 : Nat) < sizeLine := by decide
    have hll := lexF_len t
    refine s_setN (n_lst va_nil (Nat.zero_le _)) fun o no => ?_
    refine s_set v_c ?_
    refine s_while (fun m σ H' => ∃ (i : Nat) (qs : List Addr) (done : List Ml.Tok) (x : Option V), σ = [some (.ref a), some (.ref o), some (.int (i : Int)), x] ∧ Same H H' ∧ H' o = some (.lst (refs qs)) ∧ AllAt (TokAt T.k_Thing.C (hide H' (wi S o))) qs done ∧
        lexF t = done ++ lexF (t.drop i) ∧ m = t.length - i) t.length ⟨0, [], [], none, rfl, same_upd no, upd_same, AllAt.nil, rfl, rfl⟩ ?_
    rintro m σ' H' ⟨i, qs, done, x, rfl, sm, ho, hQ, hb, rfl⟩
    by_cases c : i < t.length
    · refine ⟨true, a_to (a_t (v_lt (v_var rfl) (v_len (v_var rfl) (sm.seq hS)))) (decide_eq_true (by rw [bs_len]; omega)), fun _ => ?_, nofun⟩
      obtain ⟨y, hy, hd⟩ := drop_lt c
      have hSH := sm.seq hS
      have trw : Tr (wi S o) H' := wi_tr (hTr.mono sm) ho
      obtain ⟨st1, st2, st3⟩ := lex_step hy
      have hsz : (refs qs).length < sizeLine := by
        rw [refs_len, hQ.1]
        rw [hb, List.length_append] at hll
        omega
      -- a thing made of k, the new list d, a new empty list
      have fin : ∀ (tok : Ml.Tok) (j : Nat) (d : Addr) (H1 : Hp) (E' : XK) (D : VK), Same H' H1 → hide H1 (wi S o) d = some (.lst (bs (tokData tok))) → lexF (t.drop i) = tok :: lexF (t.drop j) → i < j →
          (∀ H3 qs', Same H H3 → H3 o = some (.lst (refs qs')) → AllAt (TokAt T.k_Thing.C (hide H3 (wi S o))) qs' (done ++ [tok]) → lexF t = (done ++ [tok]) ++ lexF (t.drop j) → D .non H3) →
          ∀ q, H1 q = none → ∀ x dx, (upd H1 q (.lst [])) x = none → (upd H1 q (.lst [])) dx = none → dx ≠ x →
          sp_Thing_init__ T.k_Thing.C [.ref x, .int (tokKind tok : Int), .ref d, .ref q] (upd (upd (upd H1 q (.lst [])) dx (.own x)) x (.ins T.k_Thing.C dx [])) (fun v H2 => v = .non ∧ rAppend (.ref o) [.ref x] H2 D) E' := by
        intro tok j d H1 E' D s1 hdd hlx hij hD q nq x dx nx ndx ne
        have s2 : Same H1 (upd H1 q (.lst [])) := same_upd nq
        have tr1 := trw.mono s1
        have hq2 : hide (upd H1 q (.lst [])) (wi S o) q = some (.lst (refs [])) := hide_new tr1 nq
        have tr2 := tr1.mono s2
        generalize upd H1 q (.lst []) = H2 at nx ndx s2 hq2 tr2 ⊢
        refine ⟨x, dx, _, _, _, rfl, upd_same, rfl, ?_⟩
        rw [upd_upd]
        have so : Same H2 (obj H2 x dx T.k_Thing.C (thingN.zip [.int (tokKind tok : Int), .ref d, .ref q])) := obj_same nx ndx
        have s13 := s2.trans so
        have s03 := s1.trans s13
        refine ⟨o, refs qs, .ref x, rfl, rfl, s03 _ _ ho, hsz, ?_⟩
        refine hD _ (qs ++ [x]) (fun z u hu => ?_) (by rw [upd_same, refs_snoc]) ?_ (by rw [hb, hlx, List.append_assoc]; rfl)
        · rw [upd_ne (ne_none hu no)]
          exact s03 _ _ (sm _ _ hu)
        · rw [wi_write]
          exact AllAt.snoc (hQ.mono fun _ _ y => y.mono (hide_mono s03)) ⟨dx, d, q, hide_at obj_at (tr2.not nx), hide_mono s13 _ _ hdd, hide_mono so _ _ hq2⟩
      refine k_set (k_call (ka_v (v_var rfl) (ka_v (v_var rfl) (ka_nil ?_))))
      refine ⟨a, t, i, y, rfl, hSH, hy, ?_⟩
      by_cases c1 : codeEnd i y (t.drop (i + 1)) > i
      · obtain ⟨rfl, e1, e2, e3⟩ := st1 c1
        refine s_if (b := true) (a_to (a_t (v_gt (v_var rfl) (v_var rfl))) (decide_eq_true (by omega))) (fun _ => ?_) nofun
        refine s_appendH (v_var rfl) ho ?_
        refine k_mk (ka_v v_c (ka_n (n_cut (v_var rfl) (o_some (v_add (v_var rfl) v_c)) (o_some (v_var rfl)) hSH) fun d nd => ?_))
        have ecut : cutV (bs t) (some ((i : Int) + 1)) (some (codeEnd i 96 (t.drop (i + 1)) : Int)) = bs ((t.drop (i + 1)).take (codeLen (t.drop (i + 1)))) := by
          refine Eq.trans (bs_cut t (i + 1) (codeEnd i 96 (t.drop (i + 1))) (by omega) (by omega)) ?_
          congr 2
          omega
        rw [ecut] at *
        refine ka_n (n_lst va_nil (Nat.zero_le _)) fun q' nq => ka_nil (fin (.code ((t.drop (i + 1)).take (codeLen (t.drop (i + 1))))) (codeEnd i 96 (t.drop (i + 1)) + 1) d _ _ _ (same_upd nd) (hide_new trw nd) e1 (by omega) ?_ q' nq)
        intro H3 qs' s3 ho3 hA3 hl3
        refine s_set (v_add (v_var rfl) v_c) ?_
        exact ⟨t.length - (codeEnd i 96 (t.drop (i + 1)) + 1), by omega, _, qs', _, _, rfl, s3, ho3, hA3, hl3, rfl⟩
      · refine s_if (b := false) (a_to (a_t (v_gt (v_var rfl) (v_var rfl))) (decide_eq_false (by omega))) nofun fun _ => ?_
        refine s_if (a_b (v_call (va_cons (v_var rfl) (va1 (v_var rfl))) fun Q' E' q' => ⟨a, t, i, y, rfl, hSH, hy, q'⟩)) (fun c2 => ?_) fun c2 => ?_
        · obtain ⟨z, hz3, e1⟩ := st2 c1 c2
          refine s_appendH (v_var rfl) ho ?_
          refine k_mk (ka_v v_c (ka_n (n_lst (va1 (v_ix (v_var rfl) (v_add (v_var rfl) v_c) hSH rfl (bs_get hz3))) (by show 1 ≤ sizeLine; decide)) fun d nd => ?_))
          refine ka_n (n_lst va_nil (Nat.zero_le _)) fun q' nq => ka_nil (fin (.lit z) (i + 2) d _ _ _ (same_upd nd) (hide_new trw nd) e1 (by omega) ?_ q' nq)
          intro H3 qs' s3 ho3 hA3 hl3
          refine s_aug rfl v_c ?_
          exact ⟨t.length - (i + 2), by omega, _, qs', _, _, rfl, s3, ho3, hA3, hl3, rfl⟩
        · have e1 := st3 c1 c2
          refine s_appendH (v_var rfl) ho ?_
          refine k_mk (ka_v (v_call (vs := [bv y]) (va1 (v_ix (v_var rfl) (v_var rfl) hSH rfl (bs_get hy))) fun Q' E' q' => ⟨y, rfl, q'⟩) (ka_n (n_lst (va1 (v_ix (v_var rfl) (v_var rfl) hSH rfl (bs_get hy))) (by show 1 ≤ sizeLine; decide)) fun d nd => ?_))
          refine ka_n (n_lst va_nil (Nat.zero_le _)) fun q' nq => ka_nil (fin (byteTok y) (i + 1) d _ _ _ (same_upd nd) ?_ e1 (by omega) ?_ q' nq)
          · rw [byteTok_data]
            exact hide_new trw nd
          intro H3 qs' s3 ho3 hA3 hl3
          refine s_aug rfl v_c ?_
          exact ⟨t.length - (i + 1), by omega, _, qs', _, _, rfl, s3, ho3, hA3, hl3, rfl⟩
    · refine ⟨false, a_to (a_t (v_lt (v_var rfl) (v_len (v_var rfl) (sm.seq hS)))) (decide_eq_false (by rw [bs_len]; omega)), nofun, fun _ => ?_⟩
      refine s_ret (v_var rfl) ?_
      rw [List.drop_eq_nil_of_le (by omega), lexF_nil, List.append_nil] at hb
      rw [← hb] at hQ
      exact q o qs H' sm no ho (hQ.mono fun _ _ z => z.mono wi_sub)
end
end Mk
namespace Mk
open PySem PySem.Spec PyProof.Rows L2
open Ml (Bytes Piece Block)
abbrev s_with_links : Stmt := top 72
theorem sc_with_links : FnScope ["things", "found", "at", "end"] ["things"] (defScope s_with_links) := ⟨rfl, rfl, rfl, by decide +kernel, rfl, by decide +kernel, by decide +kernel⟩
abbrev s_link_end : Stmt := top 73
theorem sc_link_end : FnScope ["things", "at", "middle", "end"] ["things", "at"] (defScope s_link_end) := ⟨rfl, rfl, rfl, by decide +kernel, rfl, by decide +kernel, by decide +kernel⟩
abbrev s_link_between : Stmt := top 74
theorem sc_link_between : FnScope ["things", "at", "end", "middle", "address", "thing"] ["things", "at", "end"] (defScope s_link_between) := ⟨rfl, rfl, rfl, by decide +kernel, rfl, by decide +kernel, by decide +kernel⟩
abbrev s_bracket_behind : Stmt := top 75
theorem sc_bracket_behind : FnScope ["things", "at", "place"] ["things", "at"] (defScope s_bracket_behind) := ⟨rfl, rfl, rfl, by decide +kernel, rfl, by decide +kernel, by decide +kernel⟩
abbrev s_address_end : Stmt := top 76
theorem sc_address_end : FnScope ["things", "begin", "place"] ["things", "begin"] (defScope s_address_end) := ⟨rfl, rfl, rfl, by decide +kernel, rfl, by decide +kernel, by decide +kernel⟩
abbrev s_may_be_in_address : Stmt := top 77
theorem sc_may_be_in_address : FnScope ["thing"] ["thing"] (defScope s_may_be_in_address) := ⟨rfl, rfl, rfl, by decide +kernel, rfl, by decide +kernel, by decide +kernel⟩
abbrev s_is_bracket : Stmt := top 78
theorem sc_is_bracket : FnScope ["thing"] ["thing"] (defScope s_is_bracket) := ⟨rfl, rfl, rfl, by decide +kernel, rfl, by decide +kernel, by decide +kernel⟩
structure TxtLinks (K : PySem.W.Frag) (mg : Str → Option Value) extends TxtThings K mg where
  d_with_links : DefT K mg "with_links" s_with_links ["things"]
  d_link_end : DefT K mg "link_end" s_link_end ["things", "at"]
  d_link_between : DefT K mg "link_between" s_link_between ["things", "at", "end"]
  d_bracket_behind : DefT K mg "bracket_behind" s_bracket_behind ["things", "at"]
  d_address_end : DefT K mg "address_end" s_address_end ["things", "begin"]
  d_may_be_in_address : DefT K mg "may_be_in_address" s_may_be_in_address ["thing"]
  d_is_bracket : DefT K mg "is_bracket" s_is_bracket ["thing"]
theorem tok_at {C : Addr} {H : Hp} {ps : List Addr} {ts : List Ml.Tok} {i : Nat} {t : Ml.Tok} (hA : AllAt (TokAt C H) ps ts) (ht : ts[i]? = some t) : ∃ p, (refs ps)[i]? = some (.ref p) ∧ TokAt C H p t := by
  obtain ⟨p, hp, hL⟩ := hA.get ht
  exact ⟨p, refs_get hp, hL⟩
theorem isB_tok {t : Ml.Tok} {k : UInt8} : isB (.tok t) k = true ↔ t = .ch k := by
  cases t with
  | ch c =>
    constructor
    · intro h
      rw [eq_of_beq h]
    · intro h
      cases h
      exact beq_self_eq_true k
  | _ => exact ⟨fun h => (by cases h), fun h => (by cases h)⟩
section
variable {P : Program} {w : World} {K : PySem.W.Frag} {mg : Str → Option Value} {base : Heap}
/-! ### is_bracket, may_be_in_address -/
def sp_is_bracket (C : Addr) : Sp := fun vs H Q _ => ∃ (p : Addr) (t : Ml.Tok), vs = [.ref p] ∧ TokAt C H p t ∧ Q (.bl (Ml.bracket t)) H
theorem ok_is_bracket (T : TxtLinks K mg) : FnOk P w K mg base CX0 1 T.d_is_bracket.f T.d_is_bracket.fd ["thing"] (sp_is_bracket T.k_Thing.C) := by
  refine T.d_is_bracket.F.ok sc_is_bracket (fun vs H Q E h => ?_) (fun cdv A outer s H vs Q E hr h => ?_)
  · obtain ⟨p, t, rfl, _⟩ := h
    rfl
  · obtain ⟨p, t, rfl, ⟨dx, d, q', h1, h2, h3⟩, q⟩ := h
    refine ⟨_, pss_one (ps_ret (pe_or (pe_cmpR op_eq (pe_fld (pv 0) rfl) (pe_k (by rfl) T.c_OPENING) (nomark _)) (pe_one (pe_cmpR op_eq (pe_fld (pv 0) rfl) (pe_k (by rfl) T.c_CLOSING) (nomark _))))), ?_⟩
    refine s_ret (v_to (w := .bl (Ml.bracket t)) (v_or (v_eq (v_Tkind T.toTxtThings (v_var rfl) h1) v_c) fun _ => v_eq (v_Tkind T.toTxtThings (v_var rfl) h1) v_c) ?_) q
    cases t <;> rfl
theorem v_isK {H : Hp} {C p : Addr} {t : Ml.Tok} (h : TokAt C H p t) : SpV (sp_is_bracket C) [.ref p] H (.bl (Ml.bracket t)) := fun Q E q => ⟨p, t, rfl, h, q⟩
def sp_may_be_in_address (C : Addr) : Sp := fun vs H Q _ => ∃ (p : Addr) (t : Ml.Tok), vs = [.ref p] ∧ TokAt C H p t ∧ Q (.bl (Ml.urlByte t).isSome) H
theorem url_some (t : Ml.Tok) : (Ml.urlByte t).isSome = (!(decide ((tokKind t : Int) = 2) || Ml.bracket t) && (!(Piece.isBlank (.tok t)) && !(isB (.tok t) 41))) := by
  cases t with
  | ch c =>
    show (if c = 41 ∨ Ml.space c = true then none else some c : Option UInt8).isSome = (!(Ml.space c) && !(c == 41))
    by_cases h1 : c = 41
    · subst h1
      rfl
    · cases h2 : Ml.space c with
      | true =>
        rw [if_pos (.inr rfl)]
        rfl
      | false =>
        rw [if_neg (fun z => z.elim h1 Bool.false_ne_true), beq_eq_false_iff_ne.mpr h1]
        rfl
  | _ => rfl
theorem ok_may_be_in_address (T : TxtLinks K mg) : FnOk P w K mg base CX0 2 T.d_may_be_in_address.f T.d_may_be_in_address.fd ["thing"] (sp_may_be_in_address T.k_Thing.C) := by
  refine T.d_may_be_in_address.F.ok sc_may_be_in_address (fun vs H Q E h => ?_) (fun cdv A outer s H vs Q E hr h => ?_)
  · obtain ⟨p, t, rfl, _⟩ := h
    rfl
  · obtain ⟨p, t, rfl, hT, q⟩ := h
    obtain ⟨dx, d, q', h1, h2, h3⟩ := id hT
    refine ⟨_, pss_cons (ps_if (pw_or (pt_cmpR op_eq (pe_fld (pv 0) rfl) (pe_k (by rfl) T.c_CODE) (nomark _)) (pw_or1 (pt_val (pe_call (ok_is_bracket T) (hr.mono (by decide)) (by rfl) T.d_is_bracket.g T.d_is_bracket.F.kp T.d_is_bracket.b .nil pass0 (pa_cons (pv 0) pa_nil))))).pt (pss_one (ps_ret pe_bl)) pss_nil) (pss_one (ps_ret (pe_and (pe_not (pe_call (ok_is_wide_space T.toTxtThings) (hr.mono (by decide)) (by rfl) T.d_is_wide_space.g T.d_is_wide_space.F.kp T.d_is_wide_space.b .nil pass0 (pa_cons (pv 0) pa_nil))) (pe_one (pe_not (pe_call (ok_is_byte T.toTxtThings) (hr.mono (by decide)) (by rfl) T.d_is_byte.g T.d_is_byte.F.kp T.d_is_byte.b .nil pass0 (pa_cons (pv 0) (pa_cons (pe_k (by rfl) T.c_CLOSING_PARENTHESIS) pa_nil)))))))), ?_⟩
    rw [url_some] at q
    refine s_if (a_or (a_t (v_eq (v_Tkind T.toTxtThings (v_var rfl) h1) v_c)) fun _ => a_b (v_call (va1 (v_var rfl)) (v_isK hT))) (fun c => ?_) fun c => ?_
    · rw [c] at q
      refine k_ret (v_c (v := .bl false) _ q)
    · rw [c] at q
      exact s_ret (v_to (v_and (v_not (v_call (va1 (v_var rfl)) (v_isW hT.piece))) fun _ => v_not (v_call (va_cons (v_var rfl) (va1 v_c)) (v_isB (k := 41) hT.piece))) (congrArg V.bl (Bool.true_and _).symm)) q
theorem v_may {H : Hp} {C p : Addr} {t : Ml.Tok} (h : TokAt C H p t) : SpV (sp_may_be_in_address C) [.ref p] H (.bl (Ml.urlByte t).isSome) := fun Q E q => ⟨p, t, rfl, h, q⟩
/-! ### bracket_behind, address_end -/
def sp_bracket_behind (K : PySem.W.Frag) (C : Addr) : Sp := fun vs H Q _ => ∃ (a : Addr) (ps : List Addr) (ts : List Ml.Tok) (i : Nat), vs = [.ref a, .int (i : Int)] ∧ SqL K H a (refs ps) ∧ AllAt (TokAt C H) ps ts ∧ i < ts.length ∧ Q (.int ((i + 1 + inLen (ts.drop (i + 1)) : Nat) : Int)) H
theorem ok_bracket_behind (T : TxtLinks K mg) : FnOk P w K mg base CX0 2 T.d_bracket_behind.f T.d_bracket_behind.fd ["things", "at"] (sp_bracket_behind K T.k_Thing.C) := by
  refine T.d_bracket_behind.F.ok sc_bracket_behind (fun vs H Q E h => ?_) (fun cdv A outer s H vs Q E hr h => ?_)
  · obtain ⟨a, ps, ts, i, rfl, _⟩ := h
    rfl
  · obtain ⟨a, ps, ts, i, rfl, hS, hA, hi, q⟩ := h
    refine ⟨_, pss_cons (ps_set (i := 2) sc_bracket_behind.nd rfl (.inl rfl) (pe_op op_add (pv 1) pe_int)) (pss_cons (ps_while PassesOwn.never (pw_and (pt_cmpR op_lt (pv 2) (pe_callB call_len_seq (by rfl) T.b_len PySem.boot_len (pa_cons (pv 0) pa_nil)) (nomark _)) (pw_and1 (pt_not (pt_val (pe_call (ok_is_bracket T) (hr.mono (by decide)) (by rfl) T.d_is_bracket.g T.d_is_bracket.F.kp T.d_is_bracket.b .nil pass0 (pa_cons (pe_ix ix_list (pv 0) (pv 2) (fun _ _ => rfl)) pa_nil)))))).pt (pss_one (ps_aug (i := 2) sc_bracket_behind.nd rfl (.inl rfl) pe_int ip_add))) (pss_one (ps_ret (pv 2)))), ?_⟩
    have hk : inLen (ts.drop (i + 1)) ≤ (ts.drop (i + 1)).length := takeWhile_len _ _
    rw [List.length_drop] at hk
    refine s_set (v_add (v_var rfl) v_c) ?_
    refine s_while (fun m σ H' => ∃ n : Nat, σ = [some (.ref a), some (.int (i : Int)), some (.int ((i + 1 + n : Nat) : Int))] ∧ H = H' ∧ n ≤ inLen (ts.drop (i + 1)) ∧ m = ts.length - (i + 1 + n)) (ts.length - (i + 1)) ⟨0, by rfl, rfl, Nat.zero_le _, rfl⟩ ?_
    rintro m _ _ ⟨n, rfl, rfl, hn, rfl⟩
    have fin : n = inLen (ts.drop (i + 1)) → tRet (tVar 2) { nx := fun _ H' => Q .non H', rt := Q } [some (.ref a), some (.int (i : Int)), some (.int ((i + 1 + n : Nat) : Int))] H := fun e => by
      refine s_ret (v_var rfl) ?_
      rw [e]
      exact q
    by_cases c3 : i + 1 + n < ts.length
    · obtain ⟨x, hx, hd⟩ := drop_lt c3
      obtain ⟨p, hp, hL⟩ := tok_at hA hx
      have hx' : (ts.drop (i + 1))[n]? = some x := by rw [List.getElem?_drop]; exact hx
      refine ⟨!(Ml.bracket x), a_to (a_and (a_t (v_lt (v_var rfl) (v_len (v_var rfl) hS))) fun _ => a_not (a_b (v_call (va1 (v_ix (v_var rfl) (v_var rfl) hS rfl hp)) (v_isK hL)))) ?_, fun c4 => ?_, fun c4 => ?_⟩
      · rw [decide_eq_true (show ((i + 1 + n : Nat) : Int) < ((refs ps).length : Int) by rw [refs_len, hA.1]; omega), Bool.true_and]
      · refine s_aug rfl v_c ?_
        refine ⟨_, ?_, n + 1, rfl, rfl, tw_at _ _ n x hn hx' c4, rfl⟩
        omega
      · refine fin (tw_stop _ _ n hn fun y hy => ?_)
        rw [hx'] at hy
        cases hy
        exact c4
    · refine ⟨false, a_to (a_and (b := false) (a_t (v_lt (v_var rfl) (v_len (v_var rfl) hS))) fun z => absurd (of_decide_eq_true z) (by rw [refs_len, hA.1]; omega)) (Bool.and_false _), nofun, fun _ => fin (tw_stop _ _ n hn fun y hy => ?_)⟩
      rw [List.getElem?_drop] at hy
      exact absurd (List.getElem?_eq_some_iff.mp hy).1 c3
theorem v_bb {H : Hp} {C a : Addr} {ps : List Addr} {ts : List Ml.Tok} {i : Nat} (hS : SqL K H a (refs ps)) (hA : AllAt (TokAt C H) ps ts) (hi : i < ts.length) : SpV (sp_bracket_behind K C) [.ref a, .int (i : Int)] H (.int ((i + 1 + inLen (ts.drop (i + 1)) : Nat) : Int)) :=
  fun Q E q => ⟨a, ps, ts, i, rfl, hS, hA, hi, q⟩
def sp_address_end (K : PySem.W.Frag) (C : Addr) : Sp := fun vs H Q _ => ∃ (a : Addr) (ps : List Addr) (ts : List Ml.Tok) (i : Nat), vs = [.ref a, .int (i : Int)] ∧ SqL K H a (refs ps) ∧ AllAt (TokAt C H) ps ts ∧ i ≤ ts.length ∧ Q (.int ((i + adLen (ts.drop i) : Nat) : Int)) H
theorem ok_address_end (T : TxtLinks K mg) : FnOk P w K mg base CX0 3 T.d_address_end.f T.d_address_end.fd ["things", "begin"] (sp_address_end K T.k_Thing.C) := by
  refine T.d_address_end.F.ok sc_address_end (fun vs H Q E h => ?_) (fun cdv A outer s H vs Q E hr h => ?_)
  · obtain ⟨a, ps, ts, i, rfl, _⟩ := h
    rfl
  · obtain ⟨a, ps, ts, i, rfl, hS, hA, hi, q⟩ := h
    refine ⟨_, pss_cons (ps_set (i := 2) sc_address_end.nd rfl (.inl rfl) (pv 1)) (pss_cons (ps_while PassesOwn.never (pw_and (pt_cmpR op_lt (pv 2) (pe_callB call_len_seq (by rfl) T.b_len PySem.boot_len (pa_cons (pv 0) pa_nil)) (nomark _)) (pw_and1 (pt_val (pe_call (ok_may_be_in_address T) (hr.mono (by decide)) (by rfl) T.d_may_be_in_address.g T.d_may_be_in_address.F.kp T.d_may_be_in_address.b .nil pass0 (pa_cons (pe_ix ix_list (pv 0) (pv 2) (fun _ _ => rfl)) pa_nil))))).pt (pss_one (ps_aug (i := 2) sc_address_end.nd rfl (.inl rfl) pe_int ip_add))) (pss_one (ps_ret (pv 2)))), ?_⟩
    have hk : adLen (ts.drop i) ≤ (ts.drop i).length := takeWhile_len _ _
    rw [List.length_drop] at hk
    refine s_set (v_var rfl) ?_
    refine s_while (fun m σ H' => ∃ n : Nat, σ = [some (.ref a), some (.int (i : Int)), some (.int ((i + n : Nat) : Int))] ∧ H = H' ∧ n ≤ adLen (ts.drop i) ∧ m = ts.length - (i + n)) (ts.length - i) ⟨0, rfl, rfl, Nat.zero_le _, rfl⟩ ?_
    rintro m _ _ ⟨n, rfl, rfl, hn, rfl⟩
    have fin : n = adLen (ts.drop i) → tRet (tVar 2) { nx := fun _ H' => Q .non H', rt := Q } [some (.ref a), some (.int (i : Int)), some (.int ((i + n : Nat) : Int))] H := fun e => by
      refine s_ret (v_var rfl) ?_
      rw [e]
      exact q
    by_cases c3 : i + n < ts.length
    · obtain ⟨x, hx, hd⟩ := drop_lt c3
      obtain ⟨p, hp, hL⟩ := tok_at hA hx
      have hx' : (ts.drop i)[n]? = some x := by rw [List.getElem?_drop]; exact hx
      refine ⟨(Ml.urlByte x).isSome, a_to (a_and (a_t (v_lt (v_var rfl) (v_len (v_var rfl) hS))) fun _ => a_b (v_call (va1 (v_ix (v_var rfl) (v_var rfl) hS rfl hp)) (v_may hL))) ?_, fun c4 => ?_, fun c4 => ?_⟩
      · rw [decide_eq_true (show ((i + n : Nat) : Int) < ((refs ps).length : Int) by rw [refs_len, hA.1]; omega), Bool.true_and]
      · refine s_aug rfl v_c ?_
        refine ⟨_, ?_, n + 1, rfl, rfl, tw_at _ _ n x hn hx' c4, rfl⟩
        omega
      · refine fin (tw_stop _ _ n hn fun y hy => ?_)
        rw [hx'] at hy
        cases hy
        exact c4
    · refine ⟨false, a_to (a_and (b := false) (a_t (v_lt (v_var rfl) (v_len (v_var rfl) hS))) fun z => absurd (of_decide_eq_true z) (by rw [refs_len, hA.1]; omega)) (Bool.and_false _), nofun, fun _ => fin (tw_stop _ _ n hn fun y hy => ?_)⟩
      rw [List.getElem?_drop] at hy
      exact absurd (List.getElem?_eq_some_iff.mp hy).1 c3
theorem v_ae {H : Hp} {C a : Addr} {ps : List Addr} {ts : List Ml.Tok} {i : Nat} (hS : SqL K H a (refs ps)) (hA : AllAt (TokAt C H) ps ts) (hi : i ≤ ts.length) : SpV (sp_address_end K C) [.ref a, .int (i : Int)] H (.int ((i + adLen (ts.drop i) : Nat) : Int)) :=
  fun Q E q => ⟨a, ps, ts, i, rfl, hS, hA, hi, q⟩
/-! ### link_end -/
open Classical in
noncomputable def linkEnd (i : Nat) (t : Ml.Tok) (r : List Ml.Tok) : Nat := if t = .lbr ∧ isLink r then i + 1 + inLen r + 2 + adLen (r.drop (inLen r + 2)) else i
def sp_link_end (K : PySem.W.Frag) (C : Addr) : Sp := fun vs H Q _ => ∃ (a : Addr) (ps : List Addr) (ts : List Ml.Tok) (i : Nat) (t : Ml.Tok), vs = [.ref a, .int (i : Int)] ∧ SqL K H a (refs ps) ∧ AllAt (TokAt C H) ps ts ∧ ts[i]? = some t ∧ Q (.int (linkEnd i t (ts.drop (i + 1)) : Int)) H
open Classical in
theorem ok_link_end (T : TxtLinks K mg) : FnOk P w K mg base CX0 4 T.d_link_end.f T.d_link_end.fd ["things", "at"] (sp_link_end K T.k_Thing.C) := by
  refine T.d_link_end.F.ok sc_link_end (fun vs H Q E h => ?_) (fun cdv A outer s H vs Q E hr h => ?_)
  · obtain ⟨a, ps, ts, i, t, rfl, _⟩ := h
    rfl
  · obtain ⟨a, ps, ts, i, t, rfl, hS, hA, ht, q⟩ := h
    refine ⟨_, pss_cons (ps_if (pt_cmpR op_ne (pe_fld (pe_ix ix_list (pv 0) (pv 1) (fun _ _ => rfl)) rfl) (pe_k (by rfl) T.c_OPENING) (nomark _)) (pss_one (ps_ret (pv 1))) pss_nil) (pss_cons (ps_set (i := 2) sc_link_end.nd rfl (.inl rfl) (pe_call (ok_bracket_behind T) (hr.mono (by decide)) (by rfl) T.d_bracket_behind.g T.d_bracket_behind.F.kp T.d_bracket_behind.b .nil pass0 (pa_cons (pv 0) (pa_cons (pv 1) pa_nil)))) (pss_cons (ps_if (pw_or (pt_cmpR op_eq (pv 2) (pe_op op_add (pv 1) pe_int) (nomark _)) (pw_or (pt_cmpR op_ge (pe_op op_add (pv 2) pe_int) (pe_callB call_len_seq (by rfl) T.b_len PySem.boot_len (pa_cons (pv 0) pa_nil)) (nomark _)) (pw_or1 (pt_cmpR op_ne (pe_fld (pe_ix ix_list (pv 0) (pv 2) (fun _ _ => rfl)) rfl) (pe_k (by rfl) T.c_CLOSING) (nomark _))))).pt (pss_one (ps_ret (pv 1))) pss_nil) (pss_cons (ps_if (pt_not (pt_val (pe_call (ok_is_byte T.toTxtThings) (hr.mono (by decide)) (by rfl) T.d_is_byte.g T.d_is_byte.F.kp T.d_is_byte.b .nil pass0 (pa_cons (pe_ix ix_list (pv 0) (pe_op op_add (pv 2) pe_int) (fun _ _ => rfl)) (pa_cons (pe_k (by rfl) T.c_OPENING_PARENTHESIS) pa_nil))))) (pss_one (ps_ret (pv 1))) pss_nil) (pss_cons (ps_set (i := 3) sc_link_end.nd rfl (.inl rfl) (pe_call (ok_address_end T) (hr.mono (by decide)) (by rfl) T.d_address_end.g T.d_address_end.F.kp T.d_address_end.b .nil pass0 (pa_cons (pv 0) (pa_cons (pe_op op_add (pv 2) pe_int) pa_nil)))) (pss_one (ps_ret (pe_ifExp (pw_and (pt_cmpR op_lt (pv 3) (pe_callB call_len_seq (by rfl) T.b_len PySem.boot_len (pa_cons (pv 0) pa_nil)) (nomark _)) (pw_and1 (pt_val (pe_call (ok_is_byte T.toTxtThings) (hr.mono (by decide)) (by rfl) T.d_is_byte.g T.d_is_byte.F.kp T.d_is_byte.b .nil pass0 (pa_cons (pe_ix ix_list (pv 0) (pv 3) (fun _ _ => rfl)) (pa_cons (pe_k (by rfl) T.c_CLOSING_PARENTHESIS) pa_nil)))))).pt (pv 3) (pv 1)))))))), ?_⟩
    have hil : i < ts.length := (List.getElem?_eq_some_iff.mp ht).1
    obtain ⟨p, hp, hT⟩ := tok_at hA ht
    obtain ⟨dx, d, q', h1, h2, h3⟩ := id hT
    have no : ¬ (t = .lbr ∧ isLink (ts.drop (i + 1))) → Q (.int (i : Int)) H := fun z => by
      unfold linkEnd at q
      rw [if_neg z] at q
      exact q
    refine s_if (a_t (v_ne (v_Tkind T.toTxtThings (v_ix (v_var rfl) (v_var rfl) hS rfl hp) h1) v_c)) (fun c => ?_) fun c => ?_
    · refine s_ret (v_var rfl) (no fun z => ?_)
      rw [z.1] at c
      cases c
    have ht0 : t = .lbr := by
      cases t <;> first | rfl | cases c
    subst ht0
    refine s_set (v_call (va_cons (v_var rfl) (va1 (v_var rfl))) (v_bb hS hA hil)) ?_
    generalize hr' : ts.drop (i + 1) = r at *
    generalize hn : inLen r = n at *
    have hrl : r.length = ts.length - (i + 1) := by rw [← hr', List.length_drop]
    have gr : ∀ k, r[k]? = ts[i + 1 + k]? := fun k => by rw [← hr', List.getElem?_drop]
    by_cases c1 : 0 < n ∧ i + 1 + n + 1 < ts.length ∧ r[n]? = some .rbr
    · obtain ⟨k0, k1, k2⟩ := c1
      have k2' := k2
      rw [gr] at k2'
      obtain ⟨pm, hpm, hM⟩ := tok_at hA k2'
      obtain ⟨dxm, dm, qm, m1, m2, m3⟩ := id hM
      refine s_if (b := false) (a_to (a_or (a_t (v_eq (v_var rfl) (v_add (v_var rfl) v_c))) fun _ => a_or (a_t (v_ge (v_add (v_var rfl) v_c) (v_len (v_var rfl) hS))) fun _ => a_t (v_ne (v_Tkind T.toTxtThings (v_ix (v_var rfl) (v_var rfl) hS rfl hpm) m1) v_c)) ?_) nofun fun _ => ?_
      · rw [decide_eq_false (show ¬ ((i + 1 + n : Nat) : Int) = (i : Int) + 1 by omega), decide_eq_false (show ¬ ((refs ps).length : Int) ≤ ((i + 1 + n : Nat) : Int) + 1 by rw [refs_len, hA.1]; omega)]
        rfl
      obtain ⟨y, hy, hdy⟩ := drop_lt k1
      have hy' : r[n + 1]? = some y := by rw [gr]; exact hy
      obtain ⟨py, hpy, hY⟩ := tok_at hA hy
      refine s_if (a_not (a_b (v_call (va_cons (v_ix (v_var rfl) (v_add (v_var rfl) v_c) hS rfl hpy) (va1 v_c)) (v_isB (k := 40) hY.piece)))) (fun c2 => ?_) fun c2 => ?_
      · refine s_ret (v_var rfl) (no fun z => ?_)
        have hz := z.2.2.2.1
        rw [hn, hy'] at hz
        rw [isB_tok.mpr (Option.some.inj hz)] at c2
        cases c2
      have hy40 : y = .ch 40 := isB_tok.mp (by simpa using c2)
      subst hy40
      refine s_set (v_call (va_cons (v_var rfl) (va1 (v_add (v_var rfl) v_c))) (v_ae (i := i + 1 + n + 2) hS hA (by omega))) ?_
      have hdr : ts.drop (i + 1 + n + 2) = r.drop (n + 2) := by rw [← hr', List.drop_drop]; congr 1
      rw [hdr]
      generalize hm : adLen (r.drop (n + 2)) = m at *
      have hmb : m ≤ (r.drop (n + 2)).length := by rw [← hm]; exact takeWhile_len _ _
      rw [List.length_drop] at hmb
      have isl : isLink r ↔ (r.drop (n + 2))[m]? = some (.ch 41) := by
        unfold isLink
        rw [hn, hm]
        exact ⟨fun z => z.2.2.2, fun z => ⟨k0, k2, hy', z⟩⟩
      have q2 : Q (.int ((if (r.drop (n + 2))[m]? = some (.ch 41) then i + 1 + n + 2 + m else i : Nat) : Int)) H := by
        unfold linkEnd at q
        rw [hn, hm] at q
        by_cases z : isLink r
        · rw [if_pos ⟨rfl, z⟩] at q
          rw [if_pos (isl.mp z)]
          exact q
        · rw [if_neg (fun y => z y.2)] at q
          rw [if_neg (fun y => z (isl.mpr y))]
          exact q
      have ge : (r.drop (n + 2))[m]? = ts[i + 1 + n + 2 + m]? := by rw [← hdr, List.getElem?_drop]
      by_cases c3 : i + 1 + n + 2 + m < ts.length
      · obtain ⟨x, hx, hdx⟩ := drop_lt c3
        obtain ⟨px, hpx, hX⟩ := tok_at hA hx
        have test : Ans _ [some (.ref a), some (.int (i : Int)), some (.int ((i + 1 + n : Nat) : Int)), some (.int ((i + 1 + n + 2 + m : Nat) : Int))] H _ := a_and (a_t (v_lt (v_var (i := 3) rfl) (v_len (v_var (i := 0) rfl) hS))) fun _ => a_b (v_call (E := E0) (va_cons (v_ix (v_var (i := 0) rfl) (v_var (i := 3) rfl) hS rfl hpx) (va1 (v_c (v := .int 41)))) (v_isB (k := 41) hX.piece))
        refine s_ret (v_if (v := .int ((if (r.drop (n + 2))[m]? = some (.ch 41) then i + 1 + n + 2 + m else i : Nat) : Int)) test (fun z => ?_) fun z => ?_) q2
        · rw [Bool.and_eq_true] at z
          rw [if_pos (by rw [ge, hx, isB_tok.mp z.2])]
          exact v_var rfl
        · rw [if_neg (fun y => ?_)]
          · exact v_var rfl
          · rw [ge, hx] at y
            rw [isB_tok.mpr (Option.some.inj y), decide_eq_true (show ((i + 1 + n + 2 + m : Nat) : Int) < ((refs ps).length : Int) by rw [refs_len, hA.1]; omega)] at z
            cases z
      · refine s_ret (v_if (b := false) (v := .int ((if (r.drop (n + 2))[m]? = some (.ch 41) then i + 1 + n + 2 + m else i : Nat) : Int)) (a_to (a_and (b := false) (a_t (v_lt (v_var rfl) (v_len (v_var rfl) hS))) fun z => absurd (of_decide_eq_true z) (by rw [refs_len, hA.1]; omega)) (Bool.and_false _)) nofun fun z => ?_) q2
        rw [if_neg (fun y => ?_)]
        · exact v_var rfl
        · rw [ge] at y
          exact c3 (List.getElem?_eq_some_iff.mp y).1
    · have nl : ¬ isLink r := fun z => by
        obtain ⟨z0, z1, z2, _⟩ := z
        rw [hn] at z0 z1 z2
        refine c1 ⟨z0, ?_, z1⟩
        have := (List.getElem?_eq_some_iff.mp z2).1
        omega
      have test : Ans (tOr (tTest (tOp rEq (tVar 2) (tOp (rI0 fun i j => .int (i + j)) (tVar 1) (tC (.int 1))))) (tOr (tTest (tOp (rI0 fun i j => .bl (decide (j ≤ i))) (tOp (rI0 fun i j => .int (i + j)) (tVar 2) (tC (.int 1))) (tCB (rLen K) (tCons (tVar 0) tNil)))) (tTest (tOp rNe (tFld K (tOp (rIxL K) (tVar 0) (tVar 2)) "kind") (tC (.int 5))))))
          [some (.ref a), some (.int (i : Int)), some (.int ((i + 1 + n : Nat) : Int)), none] H true := by
        by_cases k0 : 0 < n
        · by_cases k1 : i + 1 + n + 1 < ts.length
          · obtain ⟨y, hy, hdy⟩ := drop_lt (show i + 1 + n < ts.length by omega)
            obtain ⟨pm, hpm, hM⟩ := tok_at hA hy
            obtain ⟨dxm, dm, qm, m1, m2, m3⟩ := id hM
            have hyn : y ≠ .rbr := fun z => c1 ⟨k0, k1, by rw [gr, hy, z]⟩
            refine a_to (a_or (a_t (v_eq (v_var rfl) (v_add (v_var rfl) v_c))) fun _ => a_or (a_t (v_ge (v_add (v_var rfl) v_c) (v_len (v_var rfl) hS))) fun _ => a_t (v_ne (v_Tkind T.toTxtThings (v_ix (v_var rfl) (v_var rfl) hS rfl hpm) m1) v_c)) ?_
            have : decide ((tokKind y : Int) = 5) = false := by
              cases y <;> first | exact absurd rfl hyn | rfl
            rw [this, Bool.not_false, Bool.or_true, Bool.or_true]
          · refine a_to (a_or (a_t (v_eq (v_var rfl) (v_add (v_var rfl) v_c))) fun _ => a_or (b := true) (a_t (v_ge (v_add (v_var rfl) v_c) (v_len (v_var rfl) hS))) fun z => ?_) ?_
            · exact absurd (show ((refs ps).length : Int) ≤ ((i + 1 + n : Nat) : Int) + 1 by rw [refs_len, hA.1]; omega) (of_decide_eq_false z)
            · rw [Bool.or_true, Bool.or_true]
        · refine a_to (a_or (b := true) (a_t (v_eq (v_var rfl) (v_add (v_var rfl) v_c))) fun z => ?_) (Bool.or_true _)
          exact absurd (show ((i + 1 + n : Nat) : Int) = (i : Int) + 1 by omega) (of_decide_eq_false z)
      refine s_if test (fun _ => s_ret (v_var rfl) (no fun z => nl z.2)) nofun
/-! ### link_between -/
def sp_link_between (K : PySem.W.Frag) (C : Addr) : Sp := fun vs H Q _ => ∃ (a : Addr) (ps : List Addr) (ts : List Ml.Tok) (i : Nat) (S : Addr → Prop), vs = [.ref a, .int (i : Int), .int ((i + 1 + inLen (ts.drop (i + 1)) + 2 + adLen ((ts.drop (i + 1)).drop (inLen (ts.drop (i + 1)) + 2)) : Nat) : Int)] ∧ SqL K H a (refs ps) ∧
  AllAt (TokAt C (hide H S)) ps ts ∧ Tr S H ∧ tokWs ts < 1000000 ∧ i < ts.length ∧ isLink (ts.drop (i + 1)) ∧
  ∀ p H', Same H H' → H p = none → PieceAt C (hide H' S) p (.link ((ts.drop (i + 1)).take (inLen (ts.drop (i + 1)))) ((((ts.drop (i + 1)).drop (inLen (ts.drop (i + 1)) + 2)).take (adLen ((ts.drop (i + 1)).drop (inLen (ts.drop (i + 1)) + 2)))).filterMap Ml.urlByte)) → Q (.ref p) H'
theorem url_data {t : Ml.Tok} (h : (Ml.urlByte t).isSome = true) : [t].filterMap Ml.urlByte = tokData t := by
  cases t with
  | ch c =>
    have e : Ml.urlByte (.ch c) = some c := by
      show (if c = 41 ∨ Ml.space c = true then none else some c : Option UInt8) = some c
      by_cases z : c = 41 ∨ Ml.space c = true
      · have h' : (if c = 41 ∨ Ml.space c = true then none else some c : Option UInt8).isSome = true := h
        rw [if_pos z] at h'
        cases h'
      · rw [if_neg z]
    rw [List.filterMap_cons, e]
    rfl
  | lit c => rfl
  | star => rfl
  | code b => cases h
  | lbr => cases h
  | rbr => cases h
theorem ok_link_between (T : TxtLinks K mg) : FnOk P w K mg base CX0 3 T.d_link_between.f T.d_link_between.fd ["things", "at", "end"] (sp_link_between K T.k_Thing.C) := by
  refine T.d_link_between.F.ok sc_link_between (fun vs H Q E h => ?_) (fun cdv A outer s H vs Q E hr h => ?_)
  · obtain ⟨a, ps, ts, i, S, rfl, _⟩ := h
    rfl
  · obtain ⟨a, ps, ts, i, S, rfl, hS, hA, hTr, hz, hi, hl, q⟩ := h
    refine ⟨_, pss_cons (ps_set (i := 3) sc_link_between.nd rfl (.inl rfl) (pe_call (ok_bracket_behind T) (hr.mono (by decide)) (by rfl) T.d_bracket_behind.g T.d_bracket_behind.F.kp T.d_bracket_behind.b .nil pass0 (pa_cons (pv 0) (pa_cons (pv 1) pa_nil)))) (pss_cons (ps_set (i := 4) sc_link_between.nd rfl (.inl rfl) (pe_lst pa_nil)) (pss_cons (ps_for PassesOwn.never rfl (pi_list (pe_slice sl_list (pv 0) (po_some (pe_op op_add (pv 3) pe_int)) (po_some (pv 2)))) (pg_name (i := 5) sc_link_between.nd rfl (.inl rfl)) (pss_one (ps_expr (pe_bm PySem.F.plainAttrs_list PySem.F.slot_list_extend PySem.F.type_list_extend mt_extend (pv 4) (pa_cons (pe_fld (pv 5) rfl) pa_nil))))) (pss_one (ps_ret (pe_make T.k_Thing.made (ok_Thing_init__ T.toTxtThings) (hr.mono (by decide)) (by rfl) T.k_Thing.g T.m_Thing_init__.b .nil pass0 (pa_cons (pe_k (by rfl) T.c_LINK) (pa_cons (pv 4) (pa_cons (pe_slice sl_list (pv 0) (po_some (pe_op op_add (pv 1) pe_int)) (po_some (pv 3))) pa_nil)))))))), ?_⟩
    have hz2 : (1000003 : Nat) < sizeLine := by decide
    have hAH : AllAt (TokAt T.k_Thing.C H) ps ts := hA.mono fun _ _ z => z.mono hide_same
    refine s_set (v_call (va_cons (v_var rfl) (va1 (v_var rfl))) (v_bb hS hAH hi)) ?_
    generalize hr' : ts.drop (i + 1) = r at *
    have hrl : r.length = ts.length - (i + 1) := by rw [← hr', List.length_drop]
    obtain ⟨l0, l1, l2, l3⟩ := hl
    generalize hn : inLen r = n at *
    generalize hm : adLen (r.drop (n + 2)) = m at *
    have hml : n + 2 + m < r.length := by
      have := (List.getElem?_eq_some_iff.mp l3).1
      rw [List.length_drop] at this
      omega
    refine s_setN (n_lst va_nil (Nat.zero_le _)) fun o no => ?_
    have sO : Same H (upd H o (.lst [])) := same_upd no
    have ho0 : (upd H o (.lst [])) o = some (.lst (bs [])) := upd_same
    have ecut : cutV (refs ps) (some ((i + 1 + n : Nat) + 2 : Int)) (some ((i + 1 + n + 2 + m : Nat) : Int)) = refs ((ps.drop (i + 1 + n + 2)).take m) := by
      refine Eq.trans (refs_cut ps (i + 1 + n + 2) (i + 1 + n + 2 + m) (Nat.le_add_right _ _) (by rw [hA.1]; omega)) ?_
      rw [Nat.add_sub_cancel_left]
    have hAs : AllAt (TokAt T.k_Thing.C (hide H S)) ((ps.drop (i + 1 + n + 2)).take m) ((r.drop (n + 2)).take m) := by
      have := (hA.drop (i + 1 + n + 2)).take m
      have e : ts.drop (i + 1 + n + 2) = r.drop (n + 2) := by rw [← hr', List.drop_drop]; congr 1
      rw [e] at this
      exact this
    have hall : ∀ t ∈ (r.drop (n + 2)).take m, (Ml.urlByte t).isSome = true := by
      have h1 : (r.drop (n + 2)).take m = (r.drop (n + 2)).takeWhile fun t => (Ml.urlByte t).isSome := by
        rw [← hm]
        exact take_takeWhile _ _
      rw [h1]
      intro t ht
      have h2 := List.all_takeWhile (p := fun t : Ml.Tok => (Ml.urlByte t).isSome) (l := r.drop (n + 2))
      rw [List.all_eq_true] at h2
      exact h2 t ht
    have hwt : tokWs ((r.drop (n + 2)).take m) ≤ tokWs ts := by
      have e1 := tokWs_split (i + 1) ts
      rw [hr'] at e1
      have e2 := tokWs_split (n + 2) r
      have e3 := tokWs_split m (r.drop (n + 2))
      omega
    have hul : ∀ l : List Ml.Tok, (l.filterMap Ml.urlByte).length ≤ tokWs l := fun l => Nat.le_trans (List.length_filterMap_le _ _) (tokWs_len _)
    refine s_forN (xs := refs ((ps.drop (i + 1 + n + 2)).take m)) ((n_cut (v_var rfl) (o_some (v_add (v_var rfl) v_c)) (o_some (v_var rfl)) (sO.seq hS)).to ecut) (fun s j σ' H' => ∃ x, σ' = [some (.ref a), some (.int (i : Int)), some (.int ((i + 1 + n + 2 + m : Nat) : Int)), some (.int ((i + 1 + n : Nat) : Int)), some (.ref o), x] ∧ Same H H' ∧ s ≠ o ∧ H' s = some (.lst (refs ((ps.drop (i + 1 + n + 2)).take m))) ∧
      H' o = some (.lst (bs ((((r.drop (n + 2)).take m).take j).filterMap Ml.urlByte)))) (fun s hs => ⟨none, rfl, sO.trans (same_upd hs), (ne_none ho0 hs).symm, upd_same, (same_upd hs) _ _ ho0⟩) (fun s j σ' H' _ ⟨_, _, _, _, h5, _⟩ => SqL.of h5) ?_ ?_
    · rintro s j x σ' H' hx ⟨x0, rfl, sm, hso, hs', ho⟩
      obtain ⟨p, hp, rfl⟩ := refs_of hx
      obtain ⟨t, ht, hT⟩ := hAs.getP hp
      obtain ⟨dx, d, q', h1, h2, h3⟩ := hT.mono (wi_same (S := S) sm no)
      have hd := (hide_of h2).2
      have hsome := hall t (List.mem_of_getElem? ht)
      have e2 := take_more ht
      have hlen := hul (((r.drop (n + 2)).take m).take (j + 1))
      have hw2 := tokWs_split (j + 1) ((r.drop (n + 2)).take m)
      rw [e2, List.filterMap_append, url_data hsome, ← e2, List.length_append] at hlen
      refine s_extend (v_var rfl) (v_Tdata T.toTxtThings (v_var rfl) (hide_of h1).2) ho hd (by rw [bs_len, bs_len]; omega) ?_
      refine ⟨_, rfl, fun z u hu => ?_, hso, by rw [upd_ne hso]; exact hs', ?_⟩
      · rw [upd_ne (ne_none hu no)]
        exact sm _ _ hu
      · rw [upd_same, ← bs_append, e2, List.filterMap_append, url_data hsome]
    · rintro s σ' H' ⟨x0, rfl, sm, hso, hs', ho⟩
      have el : (refs ((ps.drop (i + 1 + n + 2)).take m)).length = ((r.drop (n + 2)).take m).length := by rw [refs_len, hAs.1]
      rw [el, List.take_length] at ho
      have hoS : hide H' S o = some (.lst (bs (((r.drop (n + 2)).take m).filterMap Ml.urlByte))) := hide_at ho (hTr.not no)
      have ecut2 : cutV (refs ps) (some ((i : Int) + 1)) (some ((i + 1 + n : Nat) : Int)) = refs ((ps.drop (i + 1)).take n) := by
        refine Eq.trans (refs_cut ps (i + 1) (i + 1 + n) (Nat.le_add_right _ _) (by rw [hA.1]; omega)) ?_
        rw [Nat.add_sub_cancel_left]
      have hAi : AllAt (TokAt T.k_Thing.C (hide H S)) ((ps.drop (i + 1)).take n) (r.take n) := by
        have := (hA.drop (i + 1)).take n
        rw [hr'] at this
        exact this
      refine k_ret (k_mk (ka_v v_c (ka_v (v_var rfl) (ka_n ((n_cut (v_var rfl) (o_some (v_add (v_var rfl) v_c)) (o_some (v_var rfl)) (sm.seq hS)).to ecut2) fun g hg => ka_nil fun x dx nx ndx ne => ?_))))
      have s2 : Same H' (upd H' g (.lst (refs ((ps.drop (i + 1)).take n)))) := same_upd hg
      have trS := hTr.mono sm
      have hgS : hide (upd H' g (.lst (refs ((ps.drop (i + 1)).take n)))) S g = some (.lst (refs ((ps.drop (i + 1)).take n))) := hide_new trS hg
      have tr2 := trS.mono s2
      generalize upd H' g (.lst (refs ((ps.drop (i + 1)).take n))) = H2 at nx ndx s2 hgS tr2 ⊢
      refine ⟨x, dx, _, _, _, rfl, upd_same, rfl, ?_⟩
      rw [upd_upd]
      have so : Same H2 (obj H2 x dx T.k_Thing.C (thingN.zip [.int 6, .ref o, .ref g])) := obj_same nx ndx
      have s3 := (sm.trans s2).trans so
      refine q x _ s3 ?_ ?_
      · exact Same.none (sm.trans s2) nx
      · exact ⟨dx, o, g, _, hide_at obj_at (tr2.not nx), hide_mono (s2.trans so) _ _ hoS, hide_mono so _ _ hgS, hAi.mono fun _ _ z => z.mono (hide_mono s3)⟩
/-! ### with_links -/
def sp_with_links (K : PySem.W.Frag) (C : Addr) : Sp := fun vs H Q _ => ∃ (a : Addr) (ps : List Addr) (ts : List Ml.Tok) (S : Addr → Prop), vs = [.ref a] ∧ SqL K H a (refs ps) ∧ AllAt (TokAt C (hide H S)) ps ts ∧ Tr S H ∧ tokWs ts < 1000000 ∧
  ∀ p qs H', Same H H' → H p = none → H' p = some (.lst (refs qs)) → AllAt (PieceAt C (hide H' S)) qs (linksF ts) → Q (.ref p) H'
theorem linksF_len (ts : List Ml.Tok) : (linksF ts).length ≤ tokWs ts := Nat.le_trans (pieceWs_len _) (linksF_w _ ts (Nat.le_refl _))
open Classical in
theorem link_step {ts : List Ml.Tok} {i : Nat} {t : Ml.Tok} (ht : ts[i]? = some t) :
    (linkEnd i t (ts.drop (i + 1)) > i → t = .lbr ∧ isLink (ts.drop (i + 1)) ∧ linkEnd i t (ts.drop (i + 1)) = i + 1 + inLen (ts.drop (i + 1)) + 2 + adLen ((ts.drop (i + 1)).drop (inLen (ts.drop (i + 1)) + 2)) ∧
      linksF (ts.drop i) = .link ((ts.drop (i + 1)).take (inLen (ts.drop (i + 1)))) ((((ts.drop (i + 1)).drop (inLen (ts.drop (i + 1)) + 2)).take (adLen ((ts.drop (i + 1)).drop (inLen (ts.drop (i + 1)) + 2)))).filterMap Ml.urlByte) :: linksF (ts.drop (linkEnd i t (ts.drop (i + 1)) + 1))) ∧
    (¬ linkEnd i t (ts.drop (i + 1)) > i → linksF (ts.drop i) = .tok t :: linksF (ts.drop (i + 1))) := by
  have hd := drop_cons_of ht
  unfold linkEnd
  refine ⟨fun h => ?_, fun h => ?_⟩
  · by_cases c : t = .lbr ∧ isLink (ts.drop (i + 1))
    · rw [if_pos c]
      obtain ⟨rfl, c2⟩ := c
      refine ⟨rfl, c2, rfl, ?_⟩
      have e : ∀ n m, (ts.drop (i + 1)).drop (n + 2 + m + 1) = ts.drop (i + 1 + n + 2 + m + 1) := fun n m => by
        rw [List.drop_drop]
        congr 1
        omega
      rw [hd, linksF_link c2, e]
    · rw [if_neg c] at h
      exact absurd h (Nat.lt_irrefl _)
  · by_cases c : t = .lbr
    · subst c
      by_cases c2 : isLink (ts.drop (i + 1))
      · rw [if_pos ⟨rfl, c2⟩] at h
        omega
      · rw [hd, linksF_lbr c2]
    · rw [hd, linksF_tok c]
theorem ok_with_links (T : TxtLinks K mg) : FnOk P w K mg base CX0 5 T.d_with_links.f T.d_with_links.fd ["things"] (sp_with_links K T.k_Thing.C) := by
  refine T.d_with_links.F.ok sc_with_links (fun vs H Q E h => ?_) (fun cdv A outer s H vs Q E hr h => ?_)
  · obtain ⟨a, ps, ts, S, rfl, _⟩ := h
    rfl
  · obtain ⟨a, ps, ts, S, rfl, hS, hA, hTr, hz, q⟩ := h
    refine ⟨_, pss_cons (ps_set (i := 1) sc_with_links.nd rfl (.inl rfl) (pe_lst pa_nil)) (pss_cons (ps_set (i := 2) sc_with_links.nd rfl (.inl rfl) pe_int) (pss_cons (ps_while PassesOwn.never (pt_cmpR op_lt (pv 2) (pe_callB call_len_seq (by rfl) T.b_len PySem.boot_len (pa_cons (pv 0) pa_nil)) (nomark _)) (pss_cons (ps_set (i := 3) sc_with_links.nd rfl (.inl rfl) (pe_call (ok_link_end T) (hr.mono (by decide)) (by rfl) T.d_link_end.g T.d_link_end.F.kp T.d_link_end.b .nil pass0 (pa_cons (pv 0) (pa_cons (pv 2) pa_nil)))) (pss_one (ps_if (pt_cmpR op_gt (pv 3) (pv 2) (nomark _)) (pss_cons (ps_expr (pe_bm PySem.F.plainAttrs_list PySem.F.slot_list_append PySem.F.type_list_append mt_append (pv 1) (pa_cons (pe_call (ok_link_between T) (hr.mono (by decide)) (by rfl) T.d_link_between.g T.d_link_between.F.kp T.d_link_between.b .nil pass0 (pa_cons (pv 0) (pa_cons (pv 2) (pa_cons (pv 3) pa_nil)))) pa_nil))) (pss_one (ps_set (i := 2) sc_with_links.nd rfl (.inl rfl) (pe_op op_add (pv 3) pe_int)))) (pss_cons (ps_expr (pe_bm PySem.F.plainAttrs_list PySem.F.slot_list_append PySem.F.type_list_append mt_append (pv 1) (pa_cons (pe_ix ix_list (pv 0) (pv 2) (fun _ _ => rfl)) pa_nil))) (pss_one (ps_aug (i := 2) sc_with_links.nd rfl (.inl rfl) pe_int ip_add))))))) (pss_one (ps_ret (pv 1))))), ?_⟩
    have hz2 : (1000003 : Nat) < sizeLine := by decide
    have hll := linksF_len ts
    refine s_setN (n_lst va_nil (Nat.zero_le _)) fun o no => ?_
    refine s_set v_c ?_
    refine s_while (fun m σ H' => ∃ (i : Nat) (qs : List Addr) (done : List Piece) (x : Option V), σ = [some (.ref a), some (.ref o), some (.int (i : Int)), x] ∧ Same H H' ∧ H' o = some (.lst (refs qs)) ∧ AllAt (PieceAt T.k_Thing.C (hide H' (wi S o))) qs done ∧
        linksF ts = done ++ linksF (ts.drop i) ∧ m = ts.length - i) ts.length ⟨0, [], [], none, rfl, same_upd no, upd_same, AllAt.nil, rfl, rfl⟩ ?_
    rintro m σ' H' ⟨i, qs, done, x, rfl, sm, ho, hQ, hb, rfl⟩
    by_cases c : i < ts.length
    · refine ⟨true, a_to (a_t (v_lt (v_var rfl) (v_len (v_var rfl) (sm.seq hS)))) (decide_eq_true (by rw [refs_len, hA.1]; omega)), fun _ => ?_, nofun⟩
      obtain ⟨t, ht, hd⟩ := drop_lt c
      have hSH := sm.seq hS
      have trw : Tr (wi S o) H' := wi_tr (hTr.mono sm) ho
      have hAw : AllAt (TokAt T.k_Thing.C (hide H' (wi S o))) ps ts := hA.mono fun _ _ z => z.mono (wi_same sm no)
      have hAH : AllAt (TokAt T.k_Thing.C H') ps ts := hAw.mono fun _ _ z => z.mono hide_same
      obtain ⟨p, hp, hT⟩ := tok_at hAw ht
      obtain ⟨st1, st2⟩ := link_step ht
      have hsz : (refs qs).length < sizeLine := by
        have e : (linksF (ts.drop i)).length ≠ 0 := by
          by_cases c1 : linkEnd i t (ts.drop (i + 1)) > i
          · rw [(st1 c1).2.2.2]
            exact Nat.succ_ne_zero _
          · rw [st2 c1]
            exact Nat.succ_ne_zero _
        rw [refs_len, hQ.1]
        rw [hb, List.length_append] at hll
        omega
      refine k_set (k_call (ka_v (v_var rfl) (ka_v (v_var rfl) (ka_nil ?_))))
      refine ⟨a, ps, ts, i, t, rfl, hSH, hAH, ht, ?_⟩
      by_cases c1 : linkEnd i t (ts.drop (i + 1)) > i
      · obtain ⟨rfl, e1, e2, e3⟩ := st1 c1
        refine s_if (b := true) (a_to (a_t (v_gt (v_var rfl) (v_var rfl))) (decide_eq_true (by omega))) (fun _ => ?_) nofun
        refine s_appendH (v_var rfl) ho ?_
        refine k_call (ka_v (v_var rfl) (ka_v (v_var rfl) (ka_v (v_var rfl) (ka_nil ?_))))
        refine ⟨a, ps, ts, i, wi S o, by rw [e2], hSH, hAw, trw, hz, c, e1, fun y H1 s1 ny hy => ?_⟩
        refine ⟨o, refs qs, .ref y, rfl, rfl, s1 _ _ ho, hsz, ?_⟩
        refine s_set (v_add (v_var rfl) v_c) ?_
        refine ⟨ts.length - (linkEnd i .lbr (ts.drop (i + 1)) + 1), by omega, _, qs ++ [y], done ++ [.link ((ts.drop (i + 1)).take (inLen (ts.drop (i + 1)))) ((((ts.drop (i + 1)).drop (inLen (ts.drop (i + 1)) + 2)).take (adLen ((ts.drop (i + 1)).drop (inLen (ts.drop (i + 1)) + 2)))).filterMap Ml.urlByte)],
          _, rfl, fun z u hu => ?_, by rw [upd_same, refs_snoc], ?_, ?_, rfl⟩
        · rw [upd_ne (ne_none hu no)]
          exact s1 _ _ (sm _ _ hu)
        · rw [wi_write]
          exact AllAt.snoc (hQ.mono fun _ _ y => y.mono (hide_mono s1)) hy
        · rw [hb, e3, List.append_assoc]
          rfl
      · refine s_if (b := false) (a_to (a_t (v_gt (v_var rfl) (v_var rfl))) (decide_eq_false (by omega))) nofun fun _ => ?_
        have e1 := st2 c1
        refine s_append (v_var rfl) (v_ix (v_var rfl) (v_var rfl) hSH rfl hp) ho hsz ?_
        refine s_aug rfl v_c ?_
        refine ⟨ts.length - (i + 1), by omega, i + 1, qs ++ [p], done ++ [.tok t], _, rfl, fun z u hu => ?_, by rw [upd_same, refs_snoc], ?_, ?_, rfl⟩
        · rw [upd_ne (ne_none hu no)]
          exact sm _ _ hu
        · rw [wi_write]
          exact AllAt.snoc hQ hT.piece
        · rw [hb, e1, List.append_assoc]
          rfl
    · refine ⟨false, a_to (a_t (v_lt (v_var rfl) (v_len (v_var rfl) (sm.seq hS)))) (decide_eq_false (by rw [refs_len, hA.1]; omega)), nofun, fun _ => ?_⟩
      refine s_ret (v_var rfl) ?_
      rw [List.drop_eq_nil_of_le (by omega), linksF_nil, List.append_nil] at hb
      rw [← hb] at hQ
      exact q o qs H' sm no ho (hQ.mono fun _ _ z => z.mono wi_sub)
end
end Mk
namespace Mk
open PySem PySem.Spec PyProof.Rows L2
open Ml (Bytes Piece Block)
abbrev s_tell_running_text : Stmt := top 80
theorem sc_tell_running_text : FnScope ["text", "events"] ["text", "events"] (defScope s_tell_running_text) := ⟨rfl, rfl, rfl, by decide +kernel, rfl, by decide +kernel, by decide +kernel⟩
abbrev s_tell_things : Stmt := top 81
theorem sc_tell_things : FnScope ["things", "events", "ends", "inside", "end", "at", "thing"] ["things", "events"] (defScope s_tell_things) := ⟨rfl, rfl, rfl, by decide +kernel, rfl, by decide +kernel, by decide +kernel⟩
abbrev s_tell_thing : Stmt := top 82
theorem sc_tell_thing : FnScope ["thing", "events"] ["thing", "events"] (defScope s_tell_thing) := ⟨rfl, rfl, rfl, by decide +kernel, rfl, by decide +kernel, by decide +kernel⟩
abbrev s_begins_emphasis : Stmt := top 83
theorem sc_begins_emphasis : FnScope ["things", "at", "ends"] ["things", "at", "ends"] (defScope s_begins_emphasis) := ⟨rfl, rfl, rfl, by decide +kernel, rfl, by decide +kernel, by decide +kernel⟩
abbrev s_emphasis_ends : Stmt := top 84
theorem sc_emphasis_ends : FnScope ["things", "ends", "at"] ["things"] (defScope s_emphasis_ends) := ⟨rfl, rfl, rfl, by decide +kernel, rfl, by decide +kernel, by decide +kernel⟩
structure TxtRunning (K : PySem.W.Frag) (mg : Str → Option Value) extends TxtLinks K mg where
  b_range : mg "range" = none
  d_tell_running_text : DefT K mg "tell_running_text" s_tell_running_text ["text", "events"]
  d_tell_things : DefT K mg "tell_things" s_tell_things ["things", "events"]
  d_tell_thing : DefT K mg "tell_thing" s_tell_thing ["thing", "events"]
  d_begins_emphasis : DefT K mg "begins_emphasis" s_begins_emphasis ["things", "at", "ends"]
  d_emphasis_ends : DefT K mg "emphasis_ends" s_emphasis_ends ["things"]
theorem piece_at {C : Addr} {H : Hp} {ps : List Addr} {xs : List Piece} {i : Nat} {x : Piece} (hA : AllAt (PieceAt C H) ps xs) (hx : xs[i]? = some x) : ∃ p, (refs ps)[i]? = some (.ref p) ∧ PieceAt C H p x := by
  obtain ⟨p, hp, hL⟩ := hA.get hx
  exact ⟨p, refs_get hp, hL⟩
theorem star_kind (x : Piece) : decide ((pKind x : Int) = 3) = x.isStar := by
  cases x with
  | tok t => cases t <;> rfl
  | link l u => rfl
def endsL (xs : List Piece) : List V := (List.range (xs.length + 1)).map fun i => V.int (endsAt xs i : Int)
theorem endsL_get {xs : List Piece} {i : Nat} (h : i ≤ xs.length) : (endsL xs)[i]? = some (.int (endsAt xs i : Int)) := by
  unfold endsL
  rw [List.getElem?_map, List.getElem?_range (by omega)]
  rfl
/-- the list behind j turns -/
def endsJ (xs : List Piece) (j : Nat) : List V := (List.range (xs.length + 1)).map fun k => V.int (if xs.length ≤ j + k then (endsAt xs k : Int) else 0)
theorem endsJ_get {xs : List Piece} {j k : Nat} (h : k ≤ xs.length) : (endsJ xs j)[k]? = some (.int (if xs.length ≤ j + k then (endsAt xs k : Int) else 0)) := by
  unfold endsJ
  rw [List.getElem?_map, List.getElem?_range (by omega)]
  rfl
theorem endsJ_len (xs : List Piece) (j : Nat) : (endsJ xs j).length = xs.length + 1 := by
  unfold endsJ
  rw [List.length_map, List.length_range]
theorem endsJ_zero (xs : List Piece) : endsJ xs 0 = List.replicate (xs.length + 1) (.int 0) := by
  refine List.ext_getElem? fun k => ?_
  by_cases h : k ≤ xs.length
  · have e2 : (List.replicate (xs.length + 1) (V.int 0))[k]? = some (.int 0) := by rw [List.getElem?_replicate, if_pos (by omega)]
    rw [endsJ_get h, e2]
    split
    · rw [endsAt_end (by omega)]
      rfl
    · rfl
  · rw [List.getElem?_eq_none (by rw [endsJ_len]; omega), List.getElem?_eq_none (by rw [List.length_replicate]; omega)]
theorem endsJ_last (xs : List Piece) : endsJ xs (xs.length - 1) = endsL xs := by
  refine List.ext_getElem? fun k => ?_
  by_cases h : k ≤ xs.length
  · rw [endsJ_get h, endsL_get h]
    split
    · rfl
    · have : k = 0 := by omega
      subst this
      rfl
  · rw [List.getElem?_eq_none (by rw [endsJ_len]; omega), List.getElem?_eq_none (by unfold endsL; rw [List.length_map, List.length_range]; omega)]
theorem endsJ_set {xs : List Piece} {j : Nat} (h : j + 1 < xs.length) {v : V} (e : v = .int (endsAt xs (xs.length - 1 - j) : Int)) : (endsJ xs j).set (xs.length - 1 - j) v = endsJ xs (j + 1) := by
  refine List.ext_getElem? fun k => ?_
  by_cases hk : k ≤ xs.length
  · rw [List.getElem?_set, endsJ_len, endsJ_get hk, endsJ_get hk]
    by_cases c : xs.length - 1 - j = k
    · rw [if_pos c, if_pos (by omega), if_pos (show xs.length ≤ j + 1 + k by omega), e, c]
    · rw [if_neg c]
      by_cases c2 : xs.length ≤ j + k
      · rw [if_pos c2, if_pos (by omega)]
      · rw [if_neg c2, if_neg (by omega)]
  · rw [List.getElem?_eq_none (by rw [List.length_set, endsJ_len]; omega), List.getElem?_eq_none (by rw [endsJ_len]; omega)]
section
variable {P : Program} {w : World} {K : PySem.W.Frag} {mg : Str → Option Value} {base : Heap}
/-! ### emphasis_ends -/
def sp_emphasis_ends (K : PySem.W.Frag) (C : Addr) : Sp := fun vs H Q _ => ∃ (a : Addr) (ps : List Addr) (xs : List Piece), vs = [.ref a] ∧ SqL K H a (refs ps) ∧ AllAt (PieceAt C H) ps xs ∧ xs.length < 1000000 ∧ ∀ r H', Same H H' → H r = none → H' r = some (.lst (endsL xs)) → Q (.ref r) H'
theorem ok_emphasis_ends (T : TxtRunning K mg) : FnOk P w K mg base CX0 2 T.d_emphasis_ends.f T.d_emphasis_ends.fd ["things"] (sp_emphasis_ends K T.k_Thing.C) := by
  refine T.d_emphasis_ends.F.ok sc_emphasis_ends (fun vs H Q E h => ?_) (fun cdv A outer s H vs Q E hr h => ?_)
  · obtain ⟨a, ps, xs, rfl, _⟩ := h
    rfl
  · obtain ⟨a, ps, xs, rfl, hS, hA, hz, q⟩ := h
    refine ⟨_, pss_cons (ps_set (i := 1) sc_emphasis_ends.nd rfl (.inl rfl) (pe_op op_rep (pe_lst (pa_cons pe_int pa_nil)) (pe_op op_add (pe_callB call_len_seq (by rfl) T.b_len PySem.boot_len (pa_cons (pv 0) pa_nil)) pe_int))) (pss_cons (ps_for PassesOwn.never rfl (pi_range3 (by rfl) T.b_range (pa_cons (pe_op op_sub (pe_callB call_len_seq (by rfl) T.b_len PySem.boot_len (pa_cons (pv 0) pa_nil)) pe_int) (pa_cons pe_int (pa_cons (pe_un un_neg pe_int) pa_nil)))) (pg_name (i := 2) sc_emphasis_ends.nd rfl (.inl rfl)) (pss_one (ps_if (pw_and (pt_cmpR op_eq (pe_fld (pe_ix ix_list (pv 0) (pv 2) (fun _ _ => rfl)) rfl) (pe_k (by rfl) T.c_STAR) (nomark _)) (pw_and1 (pt_not (pt_val (pe_call (ok_is_wide_space T.toTxtThings) (hr.mono (by decide)) (by rfl) T.d_is_wide_space.g T.d_is_wide_space.F.kp T.d_is_wide_space.b .nil pass0 (pa_cons (pe_ix ix_list (pv 0) (pe_op op_sub (pv 2) pe_int) (fun _ _ => rfl)) pa_nil)))))).pt (pss_one (ps_asg (pv 2) (pg_sub (pv 1) (pv 2) set_list))) (pss_one (ps_asg (pe_ix ix_list (pv 1) (pe_op op_add (pv 2) pe_int) (fun _ _ => rfl)) (pg_sub (pv 1) (pv 2) set_list)))))) (pss_one (ps_ret (pv 1)))), ?_⟩
    have hz2 : (1000003 : Nat) < sizeLine := by decide
    refine k_set (k_op ?_)
    refine k_n (n_lst (va1 v_c) (by show 1 ≤ sizeLine; decide)) fun l nl => ?_
    have sl : Same H (upd H l (.lst [.int 0])) := same_upd nl
    refine k_v (v_add (v_len (v_var (σ := [some (.ref a), none, none]) (i := 0) rfl) (sl.seq hS)) v_c) ?_
    refine ⟨l, _, _, rfl, rfl, upd_same, by omega, by rw [refs_len, hA.1]; omega, ?_, fun r nr => ?_⟩
    · rw [refs_len, hA.1]
      show 1 * _ ≤ _
      omega
    have s0 : Same H (upd (upd H l (.lst [.int 0])) r (.lst (List.replicate (((refs ps).length : Int) + 1).toNat [V.int 0]).flatten)) := sl.trans (same_upd nr)
    have nrH : H r = none := Same.none sl nr
    have e0 : (List.replicate (((refs ps).length : Int) + 1).toNat [V.int 0]).flatten = endsJ xs 0 := by
      rw [endsJ_zero, refs_len, hA.1]
      have e1 : ((xs.length : Int) + 1).toNat = xs.length + 1 := rfl
      rw [e1]
      generalize xs.length + 1 = n
      induction n with
      | zero => rfl
      | succ n ih => rw [List.replicate_succ, List.flatten_cons, ih, List.replicate_succ]; rfl
    rw [e0] at s0 ⊢
    have hr0 : (upd (upd H l (.lst [.int 0])) r (.lst (endsJ xs 0))) r = some (.lst (endsJ xs 0)) := upd_same
    generalize upd (upd H l (.lst [.int 0])) r (.lst (endsJ xs 0)) = H1 at s0 hr0 ⊢
    refine s_forR3 (n := xs.length - 1) (va_cons (v_sub (v_len (v_var rfl) (s0.seq hS)) v_c) (va_cons v_c (va1 (v_neg v_c)))) (by rw [refs_len, hA.1]; omega) (by rw [refs_len, hA.1]; omega) (fun j σ H' => ∃ x, σ = [some (.ref a), some (.ref r), x] ∧ Same H H' ∧ H' r = some (.lst (endsJ xs j))) ⟨none, rfl, s0, hr0⟩ ?_ ?_
    · rintro j σ H' hj ⟨x0, rfl, sm, hr'⟩
      have eat : ((refs ps).length : Int) - 1 + (j : Int) * (-1) = ((xs.length - 1 - j : Nat) : Int) := by rw [refs_len, hA.1]; omega
      show tIfS _ _ _ _ (List.set _ 2 (some (.int (((refs ps).length : Int) - 1 + (j : Int) * (-1))))) H'
      rw [eat]
      obtain ⟨k, hk⟩ : ∃ k, xs.length - 1 - j = k + 1 := ⟨xs.length - 2 - j, by omega⟩
      have hkl : k + 1 < xs.length := by omega
      obtain ⟨x, hx, _⟩ := drop_lt hkl
      obtain ⟨y, hy, _⟩ := drop_lt (show k < xs.length by omega)
      obtain ⟨p, hp, hX⟩ := piece_at (hA.mono fun _ _ z => z.mono sm) hx
      obtain ⟨p2, hp2, hY⟩ := piece_at (hA.mono fun _ _ z => z.mono sm) hy
      obtain ⟨dx, d, q', rs, g1, g2, g3, g4⟩ := id hX
      have hSs := sm.seq hS
      have estep := endsAt_step hy hx
      have next : ∀ (D : Ends) (v : V), v = .int (endsAt xs (xs.length - 1 - j) : Int) → (∀ σ H', (∃ x, σ = [some (.ref a), some (.ref r), x] ∧ Same H H' ∧ H' r = some (.lst (endsJ xs (j + 1)))) → D.nx σ H') → D.nx [some (.ref a), some (.ref r), some (.int ((xs.length - 1 - j : Nat) : Int))] (upd H' r (.lst ((endsJ xs j).set (xs.length - 1 - j) v))) := by
        intro D v e hD
        refine hD _ _ ⟨_, rfl, fun z u hu => ?_, by rw [upd_same, endsJ_set (by omega) e]⟩
        rw [upd_ne (ne_none hu nrH)]
        exact sm _ _ hu
      have ixn : ixN (endsJ xs j).length ((xs.length - 1 - j : Nat) : Int) = some (xs.length - 1 - j) := by
        unfold ixN
        rw [if_pos (by omega), if_pos (by rw [endsJ_len]; omega)]
        rfl
      have test : Ans _ [some (.ref a), some (.ref r), some (.int ((xs.length - 1 - j : Nat) : Int))] H' _ := a_and (a_t (v_eq (v_Tkind T.toTxtThings (v_ix (v_var (i := 0) rfl) (v_var (i := 2) rfl) hSs (n := k + 1) (by rw [hk]) hp) g1) (v_c (v := .int 3)))) fun _ => a_not (a_b (v_call (E := E0) (va1 (v_ix (v_var (i := 0) rfl) (v_sub (v_var (i := 2) rfl) (v_c (v := .int 1))) hSs (n := k) (by rw [hk]; omega) hp2)) (v_isW hY)))
      rw [star_kind] at test
      refine s_if test (fun c => ?_) fun c => ?_
      · rw [Bool.and_eq_true] at c
        refine k_asg (v_var rfl _ (v_var rfl _ (v_var rfl _ ⟨r, _, _, _, rfl, rfl, hr', ixn, ?_⟩)))
        refine next _ _ ?_ fun _ _ z => z
        rw [hk, estep, if_pos ⟨c.1, by simpa using c.2⟩]
      · have hki : k + 2 ≤ xs.length := by omega
        have hge := endsJ_get (xs := xs) (j := j) hki
        rw [if_pos (by omega)] at hge
        refine k_asg (v_ix (v_var rfl) (v_add (v_var rfl) v_c) (SqL.of hr') (n := k + 2) (by rw [hk]; omega) hge _ (v_var rfl _ (v_var rfl _ ⟨r, _, _, _, rfl, rfl, hr', ixn, ?_⟩)))
        refine next _ _ ?_ fun _ _ z => z
        rw [hk, estep, if_neg]
        rintro ⟨z1, z2⟩
        rw [z1, z2] at c
        cases c
    · rintro σ H' ⟨x0, rfl, sm, hr'⟩
      rw [endsJ_last] at hr'
      exact s_ret (v_var rfl) (q r H' sm nrH hr')
/-! ### begins_emphasis -/
def sp_begins_emphasis (K : PySem.W.Frag) (C : Addr) : Sp := fun vs H Q _ => ∃ (a r : Addr) (ps : List Addr) (xs : List Piece) (i : Nat) (x : Piece), vs = [.ref a, .int (i : Int), .ref r] ∧ SqL K H a (refs ps) ∧ AllAt (PieceAt C H) ps xs ∧ xs[i]? = some x ∧ SqL K H r (endsL xs) ∧
  Q (.bl (x.isStar && (opens Piece.isStar Piece.isBlank (xs.drop (i + 1))).isSome)) H
theorem ok_begins_emphasis (T : TxtRunning K mg) : FnOk P w K mg base CX0 2 T.d_begins_emphasis.f T.d_begins_emphasis.fd ["things", "at", "ends"] (sp_begins_emphasis K T.k_Thing.C) := by
  refine T.d_begins_emphasis.F.ok sc_begins_emphasis (fun vs H Q E h => ?_) (fun cdv A outer s H vs Q E hr h => ?_)
  · obtain ⟨a, r, ps, xs, i, x, rfl, _⟩ := h
    rfl
  · obtain ⟨a, r, ps, xs, i, x, rfl, hS, hA, hx, hR, q⟩ := h
    refine ⟨_, pss_cons (ps_if (pw_or (pt_cmpR op_ne (pe_fld (pe_ix ix_list (pv 0) (pv 1) (fun _ _ => rfl)) rfl) (pe_k (by rfl) T.c_STAR) (nomark _)) (pw_or1 (pt_cmpR op_eq (pe_op op_add (pv 1) pe_int) (pe_callB call_len_seq (by rfl) T.b_len PySem.boot_len (pa_cons (pv 0) pa_nil)) (nomark _)))).pt (pss_one (ps_ret pe_bl)) pss_nil) (pss_one (ps_ret (pe_and (pe_not (pe_call (ok_is_wide_space T.toTxtThings) (hr.mono (by decide)) (by rfl) T.d_is_wide_space.g T.d_is_wide_space.F.kp T.d_is_wide_space.b .nil pass0 (pa_cons (pe_ix ix_list (pv 0) (pe_op op_add (pv 1) pe_int) (fun _ _ => rfl)) pa_nil))) (pe_one (pe_cmpR op_gt (pe_ix ix_list (pv 2) (pe_op op_add (pv 1) pe_int) (fun _ _ => rfl)) pe_int (nomark _)))))), ?_⟩
    obtain ⟨p, hp, hX⟩ := piece_at hA hx
    obtain ⟨dx, d, q', rs, g1, g2, g3, g4⟩ := id hX
    have test : Ans _ [some (.ref a), some (.int (i : Int)), some (.ref r)] H _ := a_or (a_t (v_ne (v_Tkind T.toTxtThings (v_ix (v_var (i := 0) rfl) (v_var (i := 1) rfl) hS rfl hp) g1) (v_c (v := .int 3)))) fun _ => a_t (v_eq (v_add (v_var (i := 1) rfl) (v_c (v := .int 1))) (v_len (v_var (i := 0) rfl) hS))
    rw [star_kind] at test
    have hil : i < xs.length := (List.getElem?_eq_some_iff.mp hx).1
    by_cases c1 : x.isStar = true ∧ i + 1 < xs.length
    · obtain ⟨y, hy, _⟩ := drop_lt c1.2
      obtain ⟨p2, hp2, hY⟩ := piece_at hA hy
      refine s_if (b := false) (a_to test ?_) nofun fun _ => ?_
      · rw [c1.1, decide_eq_false (show ¬ ((i : Int) + 1 = ((refs ps).length : Int)) by rw [refs_len, hA.1]; omega)]
        rfl
      refine s_ret (v_to (w := .bl (x.isStar && (opens Piece.isStar Piece.isBlank (xs.drop (i + 1))).isSome)) (v_and (v_not (v_call (va1 (v_ix (v_var rfl) (v_add (v_var rfl) v_c) hS rfl hp2)) (v_isW hY))) fun _ => v_gt (v_ix (v_var rfl) (v_add (v_var rfl) v_c) hR (n := i + 2) rfl (endsL_get (by omega))) v_c) ?_) q
      rw [c1.1, Bool.true_and]
      cases hb : y.isBlank with
      | true =>
        rw [opens_none fun z hz => ?_]
        · rfl
        · rw [hy] at hz
          rw [← Option.some.inj hz]
          exact hb
      | false =>
        rw [opens_at hy hb]
        by_cases c2 : 0 < endsAt xs (i + 2)
        · rw [if_pos c2, decide_eq_true (show (0 : Int) < (endsAt xs (i + 2) : Int) by omega)]
          rfl
        · rw [if_neg c2, decide_eq_false (show ¬ (0 : Int) < (endsAt xs (i + 2) : Int) by omega)]
          rfl
    · have e : (x.isStar && (opens Piece.isStar Piece.isBlank (xs.drop (i + 1))).isSome) = false := by
        cases c2 : x.isStar with
        | false => rfl
        | true =>
          have : xs.drop (i + 1) = [] := List.drop_eq_nil_of_le (by
            by_cases z : i + 1 < xs.length
            · exact absurd ⟨c2, z⟩ c1
            · omega)
          rw [this]
          rfl
      rw [e] at q
      refine s_if (b := true) (a_to test ?_) (fun _ => s_ret v_c q) nofun
      cases c2 : x.isStar with
      | false => rfl
      | true =>
        rw [decide_eq_true (show ((i : Int) + 1 = ((refs ps).length : Int)) by
          rw [refs_len, hA.1]
          by_cases z : i + 1 < xs.length
          · exact absurd ⟨c2, z⟩ c1
          · omega)]
        rfl
theorem v_be {H : Hp} {C a r : Addr} {ps : List Addr} {xs : List Piece} {i : Nat} {x : Piece} (hS : SqL K H a (refs ps)) (hA : AllAt (PieceAt C H) ps xs) (hx : xs[i]? = some x) (hR : SqL K H r (endsL xs)) :
    SpV (sp_begins_emphasis K C) [.ref a, .int (i : Int), .ref r] H (.bl (x.isStar && (opens Piece.isStar Piece.isBlank (xs.drop (i + 1))).isSome)) := fun Q E q => ⟨a, r, ps, xs, i, x, rfl, hS, hA, hx, hR, q⟩
/-! ### telling -/
def sp_tell_thing (C CE CT : Addr) (f : Piece → Prop) : Sp := fun vs H Q _ => ∃ (p e L : Addr) (ps ds : List Addr) (T : List Ml.Event) (x : Piece), vs = [.ref p, .ref e] ∧ f x ∧ EvAt C CE H e L ps ds T ∧ PieceAt CT (hide H (evS L ds)) p x ∧ sz T + sz x.events < 9000000 ∧ pieceW x < 1000000 ∧
  Told C CE H e L ds (pushAll T x.events) Q
def sp_tell_things (K : PySem.W.Frag) (C CE CT : Addr) (f : Piece → Prop) : Sp := fun vs H Q _ => ∃ (a e L : Addr) (qs ps ds : List Addr) (T : List Ml.Event) (xs : List Piece), vs = [.ref a, .ref e] ∧ (∀ x ∈ xs, f x) ∧ EvAt C CE H e L ps ds T ∧ hide H (evS L ds) a = some (.lst (refs qs)) ∧
  AllAt (PieceAt CT (hide H (evS L ds))) qs xs ∧ sz T + sz (emphP xs) < 9000000 ∧ pieceWs xs < 1000000 ∧ Told C CE H e L ds (pushAll T (emphP xs)) Q
def isTok (x : Piece) : Prop := ∃ t, x = .tok t
theorem k_tell {C CE e L : Addr} {σ : L2.St} {H : Hp} {Q : VK} {E : XK} {te t3 tk tn : TE} {k n : Nat} {ps ds : List Addr} {T : List Ml.Event} {b : Bytes} (hv : Val te σ H (.ref e)) (hE : EvAt C CE H e L ps ds T) (h1 : Val tk σ H (.int k)) (h2 : Val tn σ H (.int n))
    (h3 : ∀ Q' : VK, (∀ a H1, Same H H1 → SqL K H1 a (bs b) → Q' (.ref a) H1) → t3 σ H Q') (hz : T.length < sizeLine) (hk : k ≠ 0) (q : ∀ H' ps' ds', Same (hide H (evS L ds)) (hide H' (evS L ds')) → EvAt C CE H' e L ps' ds' (push T ⟨k, n, b⟩) → Q .non H') :
    tMeth C "tell" (sp_tell K C CE) [] E te (tCons tk (tCons tn (tCons t3 tNil))) σ H Q := by
  obtain ⟨dxe, he⟩ := hE.obj
  refine k_meth hv he (lk_no (by decide +kernel)) (ka_v h1 (ka_v h2 (ka (h3 _ fun a H1 s1 hS => ka_nil ?_))))
  refine ⟨e, L, a, ps, ds, T, k, n, b, rfl, hE.mono s1, hS, hz, fun z => absurd z hk, fun H' ps' ds' s2 hE2 => q H' ps' ds' ((hide_mono s1).trans s2) (by rw [push_other hk]; exact hE2)⟩
theorem arg_nil {σ : L2.St} {H : Hp} (Q' : VK) (h : ∀ a H1, Same H H1 → SqL K H1 a (bs []) → Q' (.ref a) H1) : tLst tNil σ H Q' := n_lst va_nil (Nat.zero_le _) Q' fun p hp => h p _ (same_upd hp) (SqL.of upd_same)
theorem arg_at {σ : L2.St} {H : Hp} {te : TE} {a : Addr} {b : Bytes} (hv : Val te σ H (.ref a)) (hS : SqL K H a (bs b)) (Q' : VK) (h : ∀ a H1, Same H H1 → SqL K H1 a (bs b) → Q' (.ref a) H1) : te σ H Q' := hv _ (h a H (Same.refl _) hS)
theorem ok_tell_thing_flat (T : TxtRunning K mg) : FnOk P w K mg base CX0 5 T.d_tell_thing.f T.d_tell_thing.fd ["thing", "events"] (sp_tell_thing T.k_Events.C T.k_Event.C T.k_Thing.C isTok) := by
  refine T.d_tell_thing.F.ok sc_tell_thing (fun vs H Q E h => ?_) (fun cdv A outer s H vs Q E hr h => ?_)
  · obtain ⟨p, e, L, ps, ds, evs, x, rfl, _⟩ := h
    rfl
  · obtain ⟨p, e, L, ps, ds, evs, x, rfl, ⟨t, rfl⟩, hE, hX, hz, hw, q⟩ := h
    refine ⟨_, pss_one (ps_if (pt_cmpR op_eq (pe_fld (pv 0) rfl) (pe_k (by rfl) T.c_CODE) (nomark _)) (pss_one (ps_expr (pe_meth (pv 1) T.k_Events.cl T.m_Events_tell.m (ok_Events_tell T.toTxtEvents) (hr.mono (by decide)) T.m_Events_tell.b .nil pass0 (pa_cons (pe_k (by rfl) T.c_CODE_SPAN) (pa_cons pe_int (pa_cons (pe_fld (pv 0) rfl) pa_nil)))))) (pss_one (ps_if (pt_cmpR op_eq (pe_fld (pv 0) rfl) (pe_k (by rfl) T.c_LINK) (nomark _)) pss_never (pss_one (ps_expr (pe_meth (pv 1) T.k_Events.cl T.m_Events_tell_text.m (ok_Events_tell_text T.toTxtEvents) (hr.mono (by decide)) T.m_Events_tell_text.b .nil pass0 (pa_cons (pe_fld (pv 0) rfl) pa_nil))))))), ?_⟩
    obtain ⟨dx, d, q', rs, g1, g2, g3, g4⟩ := id hX
    have hlen : evs.length < sizeLine := by
      have h1 := sz_len evs
      have h2 : (9000000 : Nat) < sizeLine := by decide
      omega
    have o1 := (hide_of g1).2
    have o2 := (hide_of g2).2
    by_cases c : ∃ b, t = .code b
    · obtain ⟨b, rfl⟩ := c
      refine s_if (b := true) (a_to (a_t (v_eq (v_Tkind T.toTxtThings (v_var rfl) o1) v_c)) rfl) (fun _ => ?_) nofun
      exact k_drop (k_tell (v_var rfl) hE v_c v_c (arg_at (v_Tdata T.toTxtThings (v_var rfl) o1) (SqL.of o2)) hlen (by decide) q)
    · have hk2 : decide ((pKind (.tok t) : Int) = 2) = false := by
        cases t <;> first | rfl | exact absurd ⟨_, rfl⟩ c
      have hk6 : decide ((pKind (.tok t) : Int) = 6) = false := by
        cases t <;> rfl
      refine s_if (b := false) (a_to (a_t (v_eq (v_Tkind T.toTxtThings (v_var rfl) o1) v_c)) hk2) nofun fun _ => ?_
      refine s_if (b := false) (a_to (a_t (v_eq (v_Tkind T.toTxtThings (v_var rfl) o1) v_c)) hk6) nofun fun _ => ?_
      have he : (Piece.tok t).events = [⟨0, 0, tokData t⟩] := by
        cases t <;> first | rfl | exact absurd ⟨_, rfl⟩ c
      rw [he] at q hz
      obtain ⟨dxe, hee⟩ := hE.obj
      refine k_drop (k_meth (v_var rfl) hee (lk_no (by decide +kernel)) (ka_v (v_Tdata T.toTxtThings (v_var rfl) o1) (ka_nil ?_)))
      refine ⟨e, L, d, ps, ds, evs, tokData t, rfl, hE, g2, ?_, q⟩
      rw [sz_one] at hz
      unfold sz1 at hz
      dsimp only at hz
      omega
/-! ### tell_things, over whatever tell_thing tells -/
theorem ok_tell_things_of {k : Nat} {f : Piece → Prop} (hk : 5 ≤ k) (T : TxtRunning K mg) (G : FnOk P w K mg base CX0 k T.d_tell_thing.f T.d_tell_thing.fd ["thing", "events"] (sp_tell_thing T.k_Events.C T.k_Event.C T.k_Thing.C f)) :
    FnOk P w K mg base CX0 (k + 1) T.d_tell_things.f T.d_tell_things.fd ["things", "events"] (sp_tell_things K T.k_Events.C T.k_Event.C T.k_Thing.C f) := by
  refine T.d_tell_things.F.ok sc_tell_things (fun vs H Q E h => ?_) (fun cdv A outer s H vs Q E hr h => ?_)
  · obtain ⟨a, e, L, qs, ps, ds, evs, xs, rfl, _⟩ := h
    rfl
  · obtain ⟨a, e, L, qs, ps, ds, evs, xs, rfl, hf, hE, hS, hA, hz, hw, q⟩ := h
    refine ⟨_, pss_cons (ps_set (i := 2) sc_tell_things.nd rfl (.inl rfl) (pe_call (ok_emphasis_ends T) (hr.mono (by omega)) (by rfl) T.d_emphasis_ends.g T.d_emphasis_ends.F.kp T.d_emphasis_ends.b .nil pass0 (pa_cons (pv 0) pa_nil))) (pss_cons (ps_set (i := 3) sc_tell_things.nd rfl (.inl rfl) pe_bl) (pss_cons (ps_set (i := 4) sc_tell_things.nd rfl (.inl rfl) pe_int) (pss_one (ps_for PassesOwn.never rfl (pi_enum (by rfl) T.b_enumerate (pa_cons (pv 0) pa_nil)) (pg_tup rfl (pgs_cons (pg_name (i := 5) sc_tell_things.nd rfl (.inl rfl)) (pgs_cons (pg_name (i := 6) sc_tell_things.nd rfl (.inl rfl)) pgs_nil))) (pss_one (ps_if (pw_and (pt_val (pv 3)) (pw_and1 (pt_cmpR op_eq (pv 5) (pv 4) (nomark _)))).pt (pss_cons (ps_expr (pe_meth (pv 1) T.k_Events.cl T.m_Events_tell.m (ok_Events_tell T.toTxtEvents) (hr.mono (by omega)) T.m_Events_tell.b .nil pass0 (pa_cons (pe_k (by rfl) T.c_EMPHASIS_ENDS) (pa_cons pe_int (pa_cons (pe_lst pa_nil) pa_nil))))) (pss_one (ps_set (i := 3) sc_tell_things.nd rfl (.inl rfl) pe_bl))) (pss_one (ps_if (pw_and (pt_not (pt_val (pv 3))) (pw_and1 (pt_val (pe_call (ok_begins_emphasis T) (hr.mono (by omega)) (by rfl) T.d_begins_emphasis.g T.d_begins_emphasis.F.kp T.d_begins_emphasis.b .nil pass0 (pa_cons (pv 0) (pa_cons (pv 5) (pa_cons (pv 2) pa_nil))))))).pt (pss_cons (ps_expr (pe_meth (pv 1) T.k_Events.cl T.m_Events_tell.m (ok_Events_tell T.toTxtEvents) (hr.mono (by omega)) T.m_Events_tell.b .nil pass0 (pa_cons (pe_k (by rfl) T.c_EMPHASIS_BEGINS) (pa_cons pe_int (pa_cons (pe_lst pa_nil) pa_nil))))) (pss_cons (ps_set (i := 3) sc_tell_things.nd rfl (.inl rfl) pe_bl) (pss_one (ps_set (i := 4) sc_tell_things.nd rfl (.inl rfl) (pe_ix ix_list (pv 2) (pe_op op_add (pv 5) pe_int) (fun _ _ => rfl)))))) (pss_one (ps_expr (pe_call G (hr.mono (by omega)) (by rfl) T.d_tell_thing.g T.d_tell_thing.F.kp T.d_tell_thing.b .nil pass0 (pa_cons (pv 6) (pa_cons (pv 1) pa_nil))))))))))))), ?_⟩
    have hz2 : (9000000 : Nat) < sizeLine := by decide
    have hxl : xs.length < 1000000 := by
      have := pieceWs_len xs
      omega
    refine k_set (k_call (ka_v (v_var rfl) (ka_nil ?_)))
    refine ⟨a, qs, xs, rfl, SqL.of (hide_of hS).2, hA.mono fun _ _ z => z.mono hide_same, hxl, fun r H1 s1 nr hr1 => ?_⟩
    refine s_set v_c (s_set v_c ?_)
    refine s_forE (v_var rfl) (s1.seq (SqL.of (hide_of hS).2)) (fun i σ H' => ∃ (ps' ds' : List Addr) (T' : List Ml.Event) (ins : Bool) (n : Nat) (x y : Option V), σ = [some (.ref a), some (.ref e), some (.ref r), some (.bl ins), some (.int (n : Int)), x, y] ∧ Same (hide H (evS L ds)) (hide H' (evS L ds')) ∧
      EvAt T.k_Events.C T.k_Event.C H' e L ps' ds' T' ∧ hide H' (evS L ds') r = some (.lst (endsL xs)) ∧ pushAll T' (restE xs i n ins) = pushAll evs (emphP xs) ∧ sz T' + sz (restE xs i n ins) ≤ sz evs + sz (emphP xs) ∧ (ins = true → i ≤ n ∧ n < xs.length))
      ⟨ps, ds, evs, false, 0, _, _, rfl, hide_mono s1, hE.mono s1, hide_at hr1 (hE.tr.not nr), rfl, Nat.le_refl _, nofun⟩ ?_ ?_ ?_
    · rintro i σ H' hi ⟨ps', ds', T', ins, n, x, y, rfl, sm, _⟩
      exact SqL.of (hide_of (sm _ _ hS)).2
    · rintro i v σ H' Tt hv ⟨ps', ds', T', ins, n, x0, y0, rfl, sm, hE', hr', ht, hs, hi⟩ nT
      obtain ⟨p, hp, rfl⟩ := refs_of hv
      obtain ⟨x, hx, hX0⟩ := hA.getP hp
      have sT : Same H' (upd H' Tt (.tup [.int (i : Int), .ref p])) := same_upd nT
      have hE2 := hE'.mono sT
      have sm2 := sm.trans (hide_mono (S := evS L ds') sT)
      have hr2 := hide_mono (S := evS L ds') sT _ _ hr'
      generalize upd H' Tt (.tup [.int (i : Int), .ref p]) = H2 at hE2 sm2 hr2 ⊢
      have hX := hX0.mono sm2
      have hA2 := hA.mono fun _ _ z => z.mono sm2
      have hlen : T'.length < sizeLine := by
        have := sz_len T'
        omega
      show tIfS _ _ _ _ [some (.ref a), some (.ref e), some (.ref r), some (.bl ins), some (.int (n : Int)), some (.int (i : Int)), some (.ref p)] H2
      cases ins with
      | true =>
        obtain ⟨hin, hnl⟩ := hi rfl
        by_cases c : i = n
        · subst c
          refine s_if (b := true) (a_to (a_and (a_b (v_var rfl)) fun _ => a_t (v_eq (v_var rfl) (v_var rfl))) ?_) (fun _ => ?_) nofun
          · rw [decide_eq_true rfl]
            rfl
          rw [restE_end xs i i, sz_cons] at hs
          rw [restE_end xs i i, pushAll_cons] at ht
          refine k_drop (k_tell (v_var rfl) hE2 v_c v_c arg_nil hlen (by decide) fun H3 ps3 ds3 s3 hE3 => ?_)
          dsimp only
          refine s_set v_c ?_
          refine ⟨ps3, ds3, _, false, i, _, _, rfl, sm2.trans s3, hE3, s3 _ _ hr2, ht, ?_, nofun⟩
          have := sz_push T' (Ml.ev 14)
          show sz (push T' (Ml.ev 14)) + _ ≤ _
          omega
        · refine s_if (b := false) (a_to (a_and (a_b (v_var rfl)) fun _ => a_t (v_eq (v_var rfl) (v_var rfl))) ?_) nofun fun _ => ?_
          · rw [decide_eq_false (by omega)]
            rfl
          refine s_if (b := false) (a_to (a_and (b := false) (a_not (a_b (v_var rfl))) nofun) rfl) nofun fun _ => ?_
          rw [restE_in hx (by omega)] at hs ht
          rw [sz_append] at hs
          rw [pushAll_append] at ht
          refine k_drop (k_call (ka_v (v_var rfl) (ka_v (v_var rfl) (ka_nil ?_))))
          refine ⟨p, e, L, ps', ds', T', x, rfl, hf x (List.mem_of_getElem? hx), hE2, hX, by omega, ?_, fun H3 ps3 ds3 s3 hE3 => ?_⟩
          · have := pieceWs_mem (List.mem_of_getElem? hx)
            omega
          refine ⟨ps3, ds3, _, true, n, _, _, rfl, sm2.trans s3, hE3, s3 _ _ hr2, ht, ?_, fun _ => ⟨by omega, hnl⟩⟩
          have := sz_pushAll x.events T'
          omega
      | false =>
        refine s_if (b := false) (a_to (a_and (b := false) (a_b (v_var rfl)) nofun) rfl) nofun fun _ => ?_
        have test : Ans _ [some (.ref a), some (.ref e), some (.ref r), some (.bl false), some (.int (n : Int)), some (.int (i : Int)), some (.ref p)] H2 _ := a_and (a_not (a_b (v_var (i := 3) rfl))) fun _ => a_b (v_call (E := E0) (va_cons (v_var (i := 0) rfl) (va_cons (v_var (i := 5) rfl) (va1 (v_var (i := 2) rfl)))) (v_be (K := K) (SqL.of (hide_of (sm2 _ _ hS)).2) (hA2.mono fun _ _ z => z.mono hide_same) hx (SqL.of (hide_of hr2).2)))
        rw [Bool.not_false, Bool.true_and] at test
        refine s_if test (fun c => ?_) fun c => ?_
        · obtain ⟨e1, e2, e3⟩ := restE_begins (m := n) hx c
          rw [e3, sz_cons] at hs
          rw [e3, pushAll_cons] at ht
          refine k_drop (k_tell (v_var rfl) hE2 v_c v_c arg_nil hlen (by decide) fun H3 ps3 ds3 s3 hE3 => ?_)
          dsimp only
          refine s_set v_c ?_
          refine s_set (v_ix (v_var rfl) (v_add (v_var rfl) v_c) (SqL.of (hide_of (s3 _ _ hr2)).2) (n := i + 2) rfl (endsL_get (by omega))) ?_
          refine ⟨ps3, ds3, _, true, endsAt xs (i + 2), _, _, rfl, sm2.trans s3, hE3, s3 _ _ hr2, ht, ?_, fun _ => ⟨by omega, e1⟩⟩
          have := sz_push T' (Ml.ev 13)
          show sz (push T' (Ml.ev 13)) + _ ≤ _
          omega
        · rw [restE_no (n := n) hx c] at hs ht
          rw [sz_append] at hs
          rw [pushAll_append] at ht
          refine k_drop (k_call (ka_v (v_var rfl) (ka_v (v_var rfl) (ka_nil ?_))))
          refine ⟨p, e, L, ps', ds', T', x, rfl, hf x (List.mem_of_getElem? hx), hE2, hX, by omega, ?_, fun H3 ps3 ds3 s3 hE3 => ?_⟩
          · have := pieceWs_mem (List.mem_of_getElem? hx)
            omega
          refine ⟨ps3, ds3, _, false, n, _, _, rfl, sm2.trans s3, hE3, s3 _ _ hr2, ht, ?_, nofun⟩
          have := sz_pushAll x.events T'
          omega
    · rintro σ H' ⟨ps', ds', T', ins, n, x, y, rfl, sm, hE', hr', ht, hs, hi⟩
      have hl : (refs qs).length = xs.length := by rw [refs_len, hA.1]
      rw [hl] at ht hi
      cases ins with
      | true =>
        have := hi rfl
        omega
      | false =>
        have e0 : restE xs xs.length n false = [] := by
          show emphP (xs.drop xs.length) = []
          rw [List.drop_length]
          rfl
        rw [e0] at ht
        have ht' : T' = pushAll evs (emphP xs) := ht
        rw [ht'] at hE'
        exact q H' ps' ds' sm hE'
theorem ok_tell_things_flat (T : TxtRunning K mg) : FnOk P w K mg base CX0 6 T.d_tell_things.f T.d_tell_things.fd ["things", "events"] (sp_tell_things K T.k_Events.C T.k_Event.C T.k_Thing.C isTok) := ok_tell_things_of (by decide) T (ok_tell_thing_flat T)
theorem ok_tell_thing (T : TxtRunning K mg) : FnOk P w K mg base CX0 7 T.d_tell_thing.f T.d_tell_thing.fd ["thing", "events"] (sp_tell_thing T.k_Events.C T.k_Event.C T.k_Thing.C fun _ => True) := by
  refine T.d_tell_thing.F.ok sc_tell_thing (fun vs H Q E h => ?_) (fun cdv A outer s H vs Q E hr h => ?_)
  · obtain ⟨p, e, L, ps, ds, evs, x, rfl, _⟩ := h
    rfl
  · obtain ⟨p, e, L, ps, ds, evs, x, rfl, _, hE, hX, hz, hw, q⟩ := h
    refine ⟨_, pss_one (ps_if (pt_cmpR op_eq (pe_fld (pv 0) rfl) (pe_k (by rfl) T.c_CODE) (nomark _)) (pss_one (ps_expr (pe_meth (pv 1) T.k_Events.cl T.m_Events_tell.m (ok_Events_tell T.toTxtEvents) (hr.mono (by decide)) T.m_Events_tell.b .nil pass0 (pa_cons (pe_k (by rfl) T.c_CODE_SPAN) (pa_cons pe_int (pa_cons (pe_fld (pv 0) rfl) pa_nil)))))) (pss_one (ps_if (pt_cmpR op_eq (pe_fld (pv 0) rfl) (pe_k (by rfl) T.c_LINK) (nomark _)) (pss_cons (ps_expr (pe_meth (pv 1) T.k_Events.cl T.m_Events_tell.m (ok_Events_tell T.toTxtEvents) (hr.mono (by decide)) T.m_Events_tell.b .nil pass0 (pa_cons (pe_k (by rfl) T.c_LINK_BEGINS) (pa_cons pe_int (pa_cons (pe_fld (pv 0) rfl) pa_nil))))) (pss_cons (ps_expr (pe_call (ok_tell_things_flat T) (hr.mono (by decide)) (by rfl) T.d_tell_things.g T.d_tell_things.F.kp T.d_tell_things.b .nil pass0 (pa_cons (pe_fld (pv 0) rfl) (pa_cons (pv 1) pa_nil)))) (pss_one (ps_expr (pe_meth (pv 1) T.k_Events.cl T.m_Events_tell.m (ok_Events_tell T.toTxtEvents) (hr.mono (by decide)) T.m_Events_tell.b .nil pass0 (pa_cons (pe_k (by rfl) T.c_LINK_ENDS) (pa_cons pe_int (pa_cons (pe_lst pa_nil) pa_nil)))))))) (pss_one (ps_expr (pe_meth (pv 1) T.k_Events.cl T.m_Events_tell_text.m (ok_Events_tell_text T.toTxtEvents) (hr.mono (by decide)) T.m_Events_tell_text.b .nil pass0 (pa_cons (pe_fld (pv 0) rfl) pa_nil))))))), ?_⟩
    obtain ⟨dx, d, q', rs, g1, g2, g3, g4⟩ := id hX
    have hz2 : (9000000 : Nat) < sizeLine := by decide
    have hlen : evs.length < sizeLine := by
      have h1 := sz_len evs
      omega
    have o1 := (hide_of g1).2
    have o2 := (hide_of g2).2
    cases x with
    | tok t =>
      by_cases c : ∃ b, t = .code b
      · obtain ⟨b, rfl⟩ := c
        refine s_if (b := true) (a_to (a_t (v_eq (v_Tkind T.toTxtThings (v_var rfl) o1) v_c)) rfl) (fun _ => ?_) nofun
        exact k_drop (k_tell (v_var rfl) hE v_c v_c (arg_at (v_Tdata T.toTxtThings (v_var rfl) o1) (SqL.of o2)) hlen (by decide) q)
      · have hk2 : decide ((pKind (.tok t) : Int) = 2) = false := by
          cases t <;> first | rfl | exact absurd ⟨_, rfl⟩ c
        have hk6 : decide ((pKind (.tok t) : Int) = 6) = false := by
          cases t <;> rfl
        refine s_if (b := false) (a_to (a_t (v_eq (v_Tkind T.toTxtThings (v_var rfl) o1) v_c)) hk2) nofun fun _ => ?_
        refine s_if (b := false) (a_to (a_t (v_eq (v_Tkind T.toTxtThings (v_var rfl) o1) v_c)) hk6) nofun fun _ => ?_
        have he : (Piece.tok t).events = [⟨0, 0, tokData t⟩] := by
          cases t <;> first | rfl | exact absurd ⟨_, rfl⟩ c
        rw [he] at q hz
        obtain ⟨dxe, hee⟩ := hE.obj
        refine k_drop (k_meth (v_var rfl) hee (lk_no (by decide +kernel)) (ka_v (v_Tdata T.toTxtThings (v_var rfl) o1) (ka_nil ?_)))
        refine ⟨e, L, d, ps, ds, evs, tokData t, rfl, hE, g2, ?_, q⟩
        rw [sz_one] at hz
        unfold sz1 at hz
        dsimp only at hz
        omega
    | link l u =>
      rw [link_events] at q hz
      rw [sz_append, sz_append, sz_one, sz_one] at hz
      rw [pushAll_append, pushAll_append] at q
      refine s_if (b := false) (a_to (a_t (v_eq (v_Tkind T.toTxtThings (v_var rfl) o1) v_c)) rfl) nofun fun _ => ?_
      refine s_if (b := true) (a_to (a_t (v_eq (v_Tkind T.toTxtThings (v_var rfl) o1) v_c)) rfl) (fun _ => ?_) nofun
      refine k_drop (k_tell (v_var rfl) hE v_c v_c (arg_at (v_Tdata T.toTxtThings (v_var rfl) o1) (SqL.of o2)) hlen (by decide) fun H2 ps2 ds2 s2 hE2 => ?_)
      have hX2 := s2 _ _ g1
      have hq2 := s2 _ _ g3
      have hA2 := toks_pieces (g4.mono fun _ _ z => z.mono s2)
      have h1 := sz_push evs ⟨15, 0, u⟩
      refine k_drop (k_call (ka_v (v_Tinner T.toTxtThings (v_var rfl) (hide_of hX2).2) (ka_v (v_var rfl) (ka_nil ?_))))
      refine ⟨q', e, L, rs, ps2, ds2, _, l.map .tok, rfl, fun x hx => ?_, hE2, hq2, hA2, ?_, ?_, fun H3 ps3 ds3 s3 hE3 => ?_⟩
      · obtain ⟨t, _, rfl⟩ := List.mem_map.mp hx
        exact ⟨t, rfl⟩
      · show sz (push evs ⟨15, 0, u⟩) + _ < _
        omega
      · rw [pieceWs_tok]
        have : pieceW (.link l u) = tokWs l + u.length + 4 := rfl
        omega
      have h2 := sz_pushAll (emphP (l.map .tok)) (push evs ⟨15, 0, u⟩)
      have h3 := sz_len (pushAll (push evs ⟨15, 0, u⟩) (emphP (l.map .tok)))
      exact k_drop (k_tell (v_var rfl) hE3 v_c v_c arg_nil (by show (pushAll (push evs ⟨15, 0, u⟩) (emphP (l.map .tok))).length < _; omega) (by decide) fun H4 ps4 ds4 s4 hE4 => q H4 ps4 ds4 ((s2.trans s3).trans s4) hE4)
theorem ok_tell_things (T : TxtRunning K mg) : FnOk P w K mg base CX0 8 T.d_tell_things.f T.d_tell_things.fd ["things", "events"] (sp_tell_things K T.k_Events.C T.k_Event.C T.k_Thing.C fun _ => True) := ok_tell_things_of (by decide) T (ok_tell_thing T)
/-! ### tell_running_text -/
def sp_tell_running_text (K : PySem.W.Frag) (C CE : Addr) : Sp := fun vs H Q _ => ∃ (a e L : Addr) (ps ds : List Addr) (T : List Ml.Event) (t : Bytes), vs = [.ref a, .ref e] ∧ EvAt C CE H e L ps ds T ∧ SqL K H a (bs t) ∧ t.length < 1000000 ∧ sz T + sz (Ml.running t) < 9000000 ∧
  Told C CE H e L ds (pushAll T (Ml.running t)) Q
theorem ok_tell_running_text (T : TxtRunning K mg) : FnOk P w K mg base CX0 9 T.d_tell_running_text.f T.d_tell_running_text.fd ["text", "events"] (sp_tell_running_text K T.k_Events.C T.k_Event.C) := by
  refine T.d_tell_running_text.F.ok sc_tell_running_text (fun vs H Q E h => ?_) (fun cdv A outer s H vs Q E hr h => ?_)
  · obtain ⟨a, e, L, ps, ds, evs, t, rfl, _⟩ := h
    rfl
  · obtain ⟨a, e, L, ps, ds, evs, t, rfl, hE, hS, hl, hz, q⟩ := h
    refine ⟨_, pss_one (ps_expr (pe_call (ok_tell_things T) (hr.mono (by decide)) (by rfl) T.d_tell_things.g T.d_tell_things.F.kp T.d_tell_things.b .nil pass0 (pa_cons (pe_call (ok_with_links T.toTxtLinks) (hr.mono (by decide)) (by rfl) T.d_with_links.g T.d_with_links.F.kp T.d_with_links.b .nil pass0 (pa_cons (pe_call (ok_read_things T.toTxtThings) (hr.mono (by decide)) (by rfl) T.d_read_things.g T.d_read_things.F.kp T.d_read_things.b .nil pass0 (pa_cons (pv 0) pa_nil)) pa_nil)) (pa_cons (pv 1) pa_nil)))), ?_⟩
    refine k_drop (k_call (ka (k_call (ka (k_call (ka_v (v_var rfl) (ka_nil ?_)))))))
    refine ⟨a, t, evS L ds, rfl, hS, hl, hE.tr, fun p1 qs1 H1 s1 n1 h1 hA1 => ka_nil ?_⟩
    have hw1 := lex_w t.length t
    have hw2 := linksF_w _ (lexF t) (Nat.le_refl _)
    have e1 : lexF t = Ml.lex t.length t := rfl
    rw [← e1] at hw1
    refine ⟨p1, qs1, lexF t, evS L ds, rfl, SqL.of h1, hA1, hE.tr.mono s1, by omega, fun p2 qs2 H2 s2 n2 h2 hA2 => ?_⟩
    refine ka_v (v_var rfl) (ka_nil ?_)
    have sm := s1.trans s2
    have nt : ¬ evS L ds p2 := (hE.tr.mono s1).not n2
    refine ⟨p2, e, L, qs2, ps, ds, evs, linksF (lexF t), rfl, fun _ _ => trivial, hE.mono sm, hide_at h2 nt, hA2, hz, by omega, fun H3 ps3 ds3 s3 hE3 => ?_⟩
    exact q H3 ps3 ds3 ((hide_mono sm).trans s3) hE3
end
end Mk
namespace Mk
open PySem PySem.Spec PyProof.Rows L2
open Ml (Bytes Piece Block)
abbrev s_events_of : Stmt := top 86
theorem sc_events_of : FnScope ["text", "events", "nested", "block"] ["text"] (defScope s_events_of) := ⟨rfl, rfl, rfl, by decide +kernel, rfl, by decide +kernel, by decide +kernel⟩
abbrev s_tell_item : Stmt := top 87
theorem sc_tell_item : FnScope ["block", "nested", "events", "depth"] ["block", "nested", "events"] (defScope s_tell_item) := ⟨rfl, rfl, rfl, by decide +kernel, rfl, by decide +kernel, by decide +kernel⟩
abbrev s_end_items : Stmt := top 88
theorem sc_end_items : FnScope ["count", "events", "step"] ["count", "events"] (defScope s_end_items) := ⟨rfl, rfl, rfl, by decide +kernel, rfl, by decide +kernel, by decide +kernel⟩
abbrev s_tell_block : Stmt := top 89
theorem sc_tell_block : FnScope ["block", "events", "row"] ["block", "events"] (defScope s_tell_block) := ⟨rfl, rfl, rfl, by decide +kernel, rfl, by decide +kernel, by decide +kernel⟩
structure TxtMeaning (K : PySem.W.Frag) (mg : Str → Option Value) extends TxtRunning K mg where
  b_min : mg "min" = none
  d_events_of : DefT K mg "events_of" s_events_of ["text"]
  d_tell_item : DefT K mg "tell_item" s_tell_item ["block", "nested", "events"]
  d_end_items : DefT K mg "end_items" s_end_items ["count", "events"]
  d_tell_block : DefT K mg "tell_block" s_tell_block ["block", "events"]
theorem v_min {σ : L2.St} {H : Hp} {ta tb : TE} {i j : Int} (ha : Val ta σ H (.int i)) (hb : Val tb σ H (.int j)) : Val (tCB (fun xs H Q => ∃ i j, xs = [.int i, .int j] ∧ Q (.int (if j < i then j else i)) H) (tCons ta (tCons tb tNil))) σ H (.int (if j < i then j else i)) :=
  fun Q q => ha _ (hb _ ⟨i, j, rfl, q⟩)
/-- an if, whose ways meet -/
theorem s_ifJ {σ : L2.St} {H : Hp} {D : Ends} {b : Bool} {tc : TT} {t1 t2 t3 : TS} (R : L2.St → Hp → Prop) (h : Ans tc σ H b) (hJ : ∀ σ' H', R σ' H' → t3 D σ' H') (h1 : b = true → (∀ σ' H', R σ' H' → t3 D σ' H') → t1 { D with nx := t3 D } σ H) (h2 : b = false → (∀ σ' H', R σ' H' → t3 D σ' H') → t2 { D with nx := t3 D } σ H) : tSeq (tIfS tc t1 t2) t3 D σ H :=
  s_if (D := { D with nx := t3 D }) h (fun z => h1 z hJ) fun z => h2 z hJ
section
variable {σ : L2.St} {H : Hp} {te : TE} {p dx t r : Addr} {k n : Int} {K : PySem.W.Frag} {mg : Str → Option Value}
theorem v_Bkind (T : TxtBlocks K mg) (h : Val te σ H (.ref p)) (ho : H p = some (.ins T.k_Block.C dx (blockN.zip [.int k, .int n, .ref t, .ref r]))) : Val (tFld K te "kind") σ H (.int k) :=
  v_fld h ho T.k_Block.cl (T.n_Block _ (by decide +kernel)) (lk_zip blockN_nd (i := 0) rfl rfl)
theorem v_Bnumber (T : TxtBlocks K mg) (h : Val te σ H (.ref p)) (ho : H p = some (.ins T.k_Block.C dx (blockN.zip [.int k, .int n, .ref t, .ref r]))) : Val (tFld K te "number") σ H (.int n) :=
  v_fld h ho T.k_Block.cl (T.n_Block _ (by decide +kernel)) (lk_zip blockN_nd (i := 1) rfl rfl)
theorem v_Btext (T : TxtBlocks K mg) (h : Val te σ H (.ref p)) (ho : H p = some (.ins T.k_Block.C dx (blockN.zip [.int k, .int n, .ref t, .ref r]))) : Val (tFld K te "text") σ H (.ref t) :=
  v_fld h ho T.k_Block.cl (T.n_Block _ (by decide +kernel)) (lk_zip blockN_nd (i := 2) rfl rfl)
theorem v_Brows (T : TxtBlocks K mg) (h : Val te σ H (.ref p)) (ho : H p = some (.ins T.k_Block.C dx (blockN.zip [.int k, .int n, .ref t, .ref r]))) : Val (tFld K te "rows") σ H (.ref r) :=
  v_fld h ho T.k_Block.cl (T.n_Block _ (by decide +kernel)) (lk_zip blockN_nd (i := 3) rfl rfl)
end
section
variable {P : Program} {w : World} {K : PySem.W.Frag} {mg : Str → Option Value} {base : Heap}
/-! ### end_items -/
def sp_end_items (K : PySem.W.Frag) (C CE : Addr) : Sp := fun vs H Q _ => ∃ (n : Nat) (e L : Addr) (ps ds : List Addr) (T : List Ml.Event), vs = [.int (n : Int), .ref e] ∧ EvAt C CE H e L ps ds T ∧ sz T + 2 * n < 9000000 ∧ Told C CE H e L ds (pushAll T (Ml.leave n)) Q
theorem ok_end_items (T : TxtMeaning K mg) : FnOk P w K mg base CX0 4 T.d_end_items.f T.d_end_items.fd ["count", "events"] (sp_end_items K T.k_Events.C T.k_Event.C) := by
  refine T.d_end_items.F.ok sc_end_items (fun vs H Q E h => ?_) (fun cdv A outer s H vs Q E hr h => ?_)
  · obtain ⟨n, e, L, ps, ds, evs, rfl, _⟩ := h
    rfl
  · obtain ⟨n, e, L, ps, ds, evs, rfl, hE, hz, q⟩ := h
    refine ⟨_, pss_one (ps_for PassesOwn.never rfl (pi_range1 (by rfl) T.b_range (pa_cons (pv 0) pa_nil)) (pg_name (i := 2) sc_end_items.nd rfl (.inl rfl)) (pss_cons (ps_expr (pe_meth (pv 1) T.k_Events.cl T.m_Events_tell.m (ok_Events_tell T.toTxtEvents) (hr.mono (by decide)) T.m_Events_tell.b .nil pass0 (pa_cons (pe_k (by rfl) T.c_ITEM_ENDS) (pa_cons pe_int (pa_cons (pe_lst pa_nil) pa_nil))))) (pss_one (ps_expr (pe_meth (pv 1) T.k_Events.cl T.m_Events_tell.m (ok_Events_tell T.toTxtEvents) (hr.mono (by decide)) T.m_Events_tell.b .nil pass0 (pa_cons (pe_k (by rfl) T.c_LIST_ENDS) (pa_cons pe_int (pa_cons (pe_lst pa_nil) pa_nil)))))))), ?_⟩
    have hz2 : (9000000 : Nat) < sizeLine := by decide
    refine s_forR (va1 (v_var rfl)) (by omega) (fun i σ H' => ∃ ps' ds' x, σ = [some (.int (n : Int)), some (.ref e), x] ∧ Same (hide H (evS L ds)) (hide H' (evS L ds')) ∧ EvAt T.k_Events.C T.k_Event.C H' e L ps' ds' (pushAll evs (Ml.leave i))) ⟨ps, ds, _, rfl, Same.refl _, hE⟩ ?_ ?_
    · rintro i σ H' hi ⟨ps', ds', x, rfl, sm, hE'⟩
      have h1 := sz_pushAll (Ml.leave i) evs
      rw [leave_sz] at h1
      have h2 := sz_len (pushAll evs (Ml.leave i))
      have h3 := sz_push (pushAll evs (Ml.leave i)) ⟨9, 0, []⟩
      have h4 : sz1 ⟨9, 0, []⟩ = 1 := rfl
      have h5 := sz_len (push (pushAll evs (Ml.leave i)) ⟨9, 0, []⟩)
      show tSeq _ _ _ [some (.int (n : Int)), some (.ref e), some (.int (i : Int))] H'
      refine k_drop (k_tell (v_var rfl) hE' v_c v_c arg_nil (by omega) (by decide) fun H2 ps2 ds2 s2 hE2 => ?_)
      refine k_drop (k_tell (v_var rfl) hE2 v_c v_c arg_nil (by show (push (pushAll evs (Ml.leave i)) ⟨9, 0, []⟩).length < _; omega) (by decide) fun H3 ps3 ds3 s3 hE3 => ?_)
      refine ⟨ps3, ds3, _, rfl, (sm.trans s2).trans s3, ?_⟩
      rw [← leave_snoc, pushAll_append]
      exact hE3
    · rintro σ H' ⟨ps', ds', x, rfl, sm, hE'⟩
      exact q H' ps' ds' sm hE'
/-! ### tell_item -/
def sp_tell_item (K : PySem.W.Frag) (C CE CB : Addr) : Sp := fun vs H Q _ => ∃ (p e L : Addr) (ps ds : List Addr) (T : List Ml.Event) (d o : Nat) (t : Bytes), vs = [.ref p, .int (o : Int), .ref e] ∧ EvAt C CE H e L ps ds T ∧ BlockAt CB (hide H (evS L ds)) p (blockM (.item d t)) ∧ t.length < 1000000 ∧
  sz T + sz (itemE o d t) < 9000000 ∧ Told C CE H e L ds (pushAll T (itemE o d t)) fun _ H' => Q (.int ((min d o + 1 : Nat) : Int)) H'
theorem ok_tell_item (T : TxtMeaning K mg) : FnOk P w K mg base CX0 10 T.d_tell_item.f T.d_tell_item.fd ["block", "nested", "events"] (sp_tell_item K T.k_Events.C T.k_Event.C T.k_Block.C) := by
  refine T.d_tell_item.F.ok sc_tell_item (fun vs H Q E h => ?_) (fun cdv A outer s H vs Q E hr h => ?_)
  · obtain ⟨p, e, L, ps, ds, evs, d, o, t, rfl, _⟩ := h
    rfl
  · obtain ⟨p, e, L, ps, ds, evs, d, o, t, rfl, hE, hB, hl, hz, q⟩ := h
    refine ⟨_, pss_cons (ps_set (i := 3) sc_tell_item.nd rfl (.inl rfl) (pe_callB (call_min2 rfl) (by rfl) T.b_min (by decide +kernel) (pa_cons (pe_fld (pv 0) rfl) (pa_cons (pv 1) pa_nil)))) (pss_cons (ps_if (pt_cmpR op_eq (pv 3) (pv 1) (nomark _)) (pss_one (ps_expr (pe_meth (pv 2) T.k_Events.cl T.m_Events_tell.m (ok_Events_tell T.toTxtEvents) (hr.mono (by decide)) T.m_Events_tell.b .nil pass0 (pa_cons (pe_k (by rfl) T.c_LIST_BEGINS) (pa_cons pe_int (pa_cons (pe_lst pa_nil) pa_nil)))))) (pss_cons (ps_expr (pe_call (ok_end_items T) (hr.mono (by decide)) (by rfl) T.d_end_items.g T.d_end_items.F.kp T.d_end_items.b .nil pass0 (pa_cons (pe_op op_sub (pe_op op_sub (pv 1) (pv 3)) pe_int) (pa_cons (pv 2) pa_nil)))) (pss_one (ps_expr (pe_meth (pv 2) T.k_Events.cl T.m_Events_tell.m (ok_Events_tell T.toTxtEvents) (hr.mono (by decide)) T.m_Events_tell.b .nil pass0 (pa_cons (pe_k (by rfl) T.c_ITEM_ENDS) (pa_cons pe_int (pa_cons (pe_lst pa_nil) pa_nil)))))))) (pss_cons (ps_expr (pe_meth (pv 2) T.k_Events.cl T.m_Events_tell.m (ok_Events_tell T.toTxtEvents) (hr.mono (by decide)) T.m_Events_tell.b .nil pass0 (pa_cons (pe_k (by rfl) T.c_ITEM_BEGINS) (pa_cons pe_int (pa_cons (pe_lst pa_nil) pa_nil))))) (pss_cons (ps_expr (pe_call (ok_tell_running_text T.toTxtRunning) (hr.mono (by decide)) (by rfl) T.d_tell_running_text.g T.d_tell_running_text.F.kp T.d_tell_running_text.b .nil pass0 (pa_cons (pe_fld (pv 0) rfl) (pa_cons (pv 2) pa_nil)))) (pss_one (ps_ret (pe_op op_add (pv 3) pe_int)))))), ?_⟩
    have hz2 : (9000000 : Nat) < sizeLine := by decide
    obtain ⟨dx, ta, r, rs, g1, g2, g3, g4⟩ := id hB
    have hlen := sz_len evs
    refine s_set (v_to (w := .int ((min d o : Nat) : Int)) (v_min (v_Bnumber T.toTxtBlocks (v_var rfl) (hide_of g1).2) (v_var rfl)) ?_) ?_
    · show V.int _ = V.int _
      congr 1
      show (if (o : Int) < (d : Int) then (o : Int) else (d : Int)) = _
      by_cases c : o < d
      · rw [if_pos (by omega), Nat.min_eq_right (by omega)]
      · rw [if_neg (by omega), Nat.min_eq_left (by omega)]
    dsimp only
    refine s_ifJ (fun σ H1 => σ = [some (.ref p), some (.int (o : Int)), some (.ref e), some (.int ((min d o : Nat) : Int))] ∧ ∃ ps1 ds1 T1, Same (hide H (evS L ds)) (hide H1 (evS L ds1)) ∧ EvAt T.k_Events.C T.k_Event.C H1 e L ps1 ds1 T1 ∧
      pushAll T1 (Ml.ev 8 :: Ml.running t) = pushAll evs (itemE o d t) ∧ sz T1 + 1 + sz (Ml.running t) ≤ sz evs + sz (itemE o d t)) (a_t (v_eq (v_var rfl) (v_var rfl))) ?_ (fun c J => ?_) fun c J => ?_
    · rintro σ H1 ⟨rfl, ps1, ds1, T1, sm, hE1, ht, hs⟩
      have h1 := sz_len T1
      refine k_drop (k_tell (v_var rfl) hE1 v_c v_c arg_nil (by omega) (by decide) fun H2 ps2 ds2 s2 hE2 => ?_)
      have s12 := sm.trans s2
      have h2 := sz_push T1 ⟨8, 0, []⟩
      have h3 : sz1 ⟨8, 0, []⟩ = 1 := rfl
      refine k_drop (k_call (ka_v (v_Btext T.toTxtBlocks (v_var rfl) (hide_of (s12 _ _ g1)).2) (ka_v (v_var rfl) (ka_nil ?_))))
      refine ⟨ta, e, L, ps2, ds2, _, t, rfl, hE2, SqL.of (hide_of (s12 _ _ g2)).2, hl, by show sz (push T1 ⟨8, 0, []⟩) + sz (Ml.running t) < _; omega, fun H3 ps3 ds3 s3 hE3 => ?_⟩
      refine s_ret (v_add (v_var rfl) v_c) ?_
      refine q H3 ps3 ds3 (s12.trans s3) ?_
      rw [← ht]
      exact hE3
    · have c' := of_decide_eq_true c
      have hod : o ≤ d := by omega
      have e1 : itemE o d t = Ml.ev 6 :: Ml.ev 8 :: Ml.running t := by
        unfold itemE
        rw [if_pos hod]
        rfl
      rw [e1] at hz J
      rw [sz_cons, sz_cons] at hz J
      have h3 : sz1 (Ml.ev 6) = 1 := rfl
      have h4 : sz1 (Ml.ev 8) = 1 := rfl
      have h2 := sz_push evs ⟨6, 0, []⟩
      have h5 : sz1 ⟨6, 0, []⟩ = 1 := rfl
      refine k_drop (k_tell (v_var rfl) hE v_c v_c arg_nil (by omega) (by decide) fun H2 ps2 ds2 s2 hE2 => ?_)
      exact J _ _ ⟨rfl, ps2, ds2, _, s2, hE2, rfl, by show sz (push evs ⟨6, 0, []⟩) + 1 + sz (Ml.running t) ≤ _; omega⟩
    · have c' := of_decide_eq_false c
      have hod : ¬ o ≤ d := by omega
      have hm : min d o = d := by omega
      have e1 : itemE o d t = Ml.leave (o - 1 - d) ++ (Ml.ev 9 :: Ml.ev 8 :: Ml.running t) := by
        unfold itemE
        rw [if_neg hod, List.append_assoc]
        rfl
      rw [e1] at hz J
      rw [sz_append, sz_cons, sz_cons, leave_sz] at hz J
      have h3 : sz1 (Ml.ev 9) = 1 := rfl
      have h4 : sz1 (Ml.ev 8) = 1 := rfl
      refine k_drop (k_call (ka_v (v_sub (v_sub (v_var rfl) (v_var rfl)) v_c) (ka_v (v_var rfl) (ka_nil ?_))))
      refine ⟨o - 1 - d, e, L, ps, ds, evs, ?_, hE, by omega, fun H1 ps1 ds1 s1 hE1 => ?_⟩
      · have : (o : Int) - ((min d o : Nat) : Int) - 1 = ((o - 1 - d : Nat) : Int) := by omega
        rw [this]
      have h2 := sz_pushAll (Ml.leave (o - 1 - d)) evs
      rw [leave_sz] at h2
      have h5 := sz_len (pushAll evs (Ml.leave (o - 1 - d)))
      have h6 := sz_push (pushAll evs (Ml.leave (o - 1 - d))) ⟨9, 0, []⟩
      have h7 : sz1 ⟨9, 0, []⟩ = 1 := rfl
      refine k_drop (k_tell (v_var rfl) hE1 v_c v_c arg_nil (by omega) (by decide) fun H2 ps2 ds2 s2 hE2 => ?_)
      exact J _ _ ⟨rfl, ps2, ds2, _, s1.trans s2, hE2, by rw [pushAll_append]; rfl, by show sz (push (pushAll evs (Ml.leave (o - 1 - d))) ⟨9, 0, []⟩) + 1 + sz (Ml.running t) ≤ _; omega⟩
/-! ### tell_block -/
def sp_tell_block (K : PySem.W.Frag) (C CE CB : Addr) : Sp := fun vs H Q _ => ∃ (p e L : Addr) (ps ds : List Addr) (T : List Ml.Event) (b : Block), vs = [.ref p, .ref e] ∧ isItem b = false ∧ EvAt C CE H e L ps ds T ∧ BlockAt CB (hide H (evS L ds)) p (blockM b) ∧ blockW b < 1000000 ∧
  sz T + sz (blockE b) < 9000000 ∧ Told C CE H e L ds (pushAll T (blockE b)) Q
theorem ok_tell_block (T : TxtMeaning K mg) : FnOk P w K mg base CX0 10 T.d_tell_block.f T.d_tell_block.fd ["block", "events"] (sp_tell_block K T.k_Events.C T.k_Event.C T.k_Block.C) := by
  refine T.d_tell_block.F.ok sc_tell_block (fun vs H Q E h => ?_) (fun cdv A outer s H vs Q E hr h => ?_)
  · obtain ⟨p, e, L, ps, ds, evs, b, rfl, _⟩ := h
    rfl
  · obtain ⟨p, e, L, ps, ds, evs, b, rfl, hi, hE, hB, hl, hz, q⟩ := h
    refine ⟨_, pss_one (ps_if (pt_cmpR op_eq (pe_fld (pv 0) rfl) (pe_k (by rfl) T.c_FENCE) (nomark _)) (pss_cons (ps_expr (pe_meth (pv 1) T.k_Events.cl T.m_Events_tell.m (ok_Events_tell T.toTxtEvents) (hr.mono (by decide)) T.m_Events_tell.b .nil pass0 (pa_cons (pe_k (by rfl) T.c_CODE_BLOCK_BEGINS) (pa_cons pe_int (pa_cons (pe_fld (pv 0) rfl) pa_nil))))) (pss_cons (ps_for PassesOwn.never rfl (pi_list (pe_fld (pv 0) rfl)) (pg_name (i := 2) sc_tell_block.nd rfl (.inl rfl)) (pss_one (ps_expr (pe_meth (pv 1) T.k_Events.cl T.m_Events_tell.m (ok_Events_tell T.toTxtEvents) (hr.mono (by decide)) T.m_Events_tell.b .nil pass0 (pa_cons (pe_k (by rfl) T.c_CODE_BLOCK_LINE) (pa_cons pe_int (pa_cons (pv 2) pa_nil))))))) (pss_one (ps_expr (pe_meth (pv 1) T.k_Events.cl T.m_Events_tell.m (ok_Events_tell T.toTxtEvents) (hr.mono (by decide)) T.m_Events_tell.b .nil pass0 (pa_cons (pe_k (by rfl) T.c_CODE_BLOCK_ENDS) (pa_cons pe_int (pa_cons (pe_lst pa_nil) pa_nil)))))))) (pss_one (ps_if (pt_cmpR op_eq (pe_fld (pv 0) rfl) (pe_k (by rfl) T.c_HEADING) (nomark _)) (pss_cons (ps_expr (pe_meth (pv 1) T.k_Events.cl T.m_Events_tell.m (ok_Events_tell T.toTxtEvents) (hr.mono (by decide)) T.m_Events_tell.b .nil pass0 (pa_cons (pe_k (by rfl) T.c_HEADING_BEGINS) (pa_cons (pe_fld (pv 0) rfl) (pa_cons (pe_lst pa_nil) pa_nil))))) (pss_cons (ps_expr (pe_call (ok_tell_running_text T.toTxtRunning) (hr.mono (by decide)) (by rfl) T.d_tell_running_text.g T.d_tell_running_text.F.kp T.d_tell_running_text.b .nil pass0 (pa_cons (pe_fld (pv 0) rfl) (pa_cons (pv 1) pa_nil)))) (pss_one (ps_expr (pe_meth (pv 1) T.k_Events.cl T.m_Events_tell.m (ok_Events_tell T.toTxtEvents) (hr.mono (by decide)) T.m_Events_tell.b .nil pass0 (pa_cons (pe_k (by rfl) T.c_HEADING_ENDS) (pa_cons (pe_fld (pv 0) rfl) (pa_cons (pe_lst pa_nil) pa_nil)))))))) (pss_cons (ps_expr (pe_meth (pv 1) T.k_Events.cl T.m_Events_tell.m (ok_Events_tell T.toTxtEvents) (hr.mono (by decide)) T.m_Events_tell.b .nil pass0 (pa_cons (pe_k (by rfl) T.c_PARAGRAPH_BEGINS) (pa_cons pe_int (pa_cons (pe_lst pa_nil) pa_nil))))) (pss_cons (ps_expr (pe_call (ok_tell_running_text T.toTxtRunning) (hr.mono (by decide)) (by rfl) T.d_tell_running_text.g T.d_tell_running_text.F.kp T.d_tell_running_text.b .nil pass0 (pa_cons (pe_fld (pv 0) rfl) (pa_cons (pv 1) pa_nil)))) (pss_one (ps_expr (pe_meth (pv 1) T.k_Events.cl T.m_Events_tell.m (ok_Events_tell T.toTxtEvents) (hr.mono (by decide)) T.m_Events_tell.b .nil pass0 (pa_cons (pe_k (by rfl) T.c_PARAGRAPH_ENDS) (pa_cons pe_int (pa_cons (pe_lst pa_nil) pa_nil))))))))))), ?_⟩
    have hz2 : (9000000 : Nat) < sizeLine := by decide
    obtain ⟨dx, ta, r, rs, g1, g2, g3, g4⟩ := id hB
    have hlen := sz_len evs
    cases b with
    | item d t => cases hi
    | para t =>
      have e1 : blockE (.para t) = Ml.ev 2 :: (Ml.running t ++ [Ml.ev 3]) := rfl
      rw [e1] at hz q
      rw [sz_cons, sz_append] at hz
      rw [pushAll_cons, pushAll_append] at q
      have hl' : t.length + 0 < 1000000 := hl
      refine s_if (b := false) (a_to (a_t (v_eq (v_Bkind T.toTxtBlocks (v_var rfl) (hide_of g1).2) v_c)) rfl) nofun fun _ => ?_
      refine s_if (b := false) (a_to (a_t (v_eq (v_Bkind T.toTxtBlocks (v_var rfl) (hide_of g1).2) v_c)) rfl) nofun fun _ => ?_
      have h2 := sz_push evs (Ml.ev 2)
      refine k_drop (k_tell (v_var rfl) hE v_c v_c arg_nil (by omega) (by decide) fun H2 ps2 ds2 s2 hE2 => ?_)
      refine k_drop (k_call (ka_v (v_Btext T.toTxtBlocks (v_var rfl) (hide_of (s2 _ _ g1)).2) (ka_v (v_var rfl) (ka_nil ?_))))
      refine ⟨ta, e, L, ps2, ds2, _, t, rfl, hE2, SqL.of (hide_of (s2 _ _ g2)).2, by omega, ?_, fun H3 ps3 ds3 s3 hE3 => ?_⟩
      · show sz (push evs (Ml.ev 2)) + _ < _
        omega
      have h3 := sz_pushAll (Ml.running t) (push evs (Ml.ev 2))
      have h4 := sz_len (pushAll (push evs (Ml.ev 2)) (Ml.running t))
      exact k_drop (k_tell (v_var rfl) hE3 v_c v_c arg_nil (by show (pushAll (push evs (Ml.ev 2)) (Ml.running t)).length < _; omega) (by decide) fun H4 ps4 ds4 s4 hE4 => q H4 ps4 ds4 ((s2.trans s3).trans s4) hE4)
    | heading n t =>
      have e1 : blockE (.heading n t) = ⟨4, n, []⟩ :: (Ml.running t ++ [⟨5, n, []⟩]) := rfl
      rw [e1] at hz q
      rw [sz_cons, sz_append] at hz
      rw [pushAll_cons, pushAll_append] at q
      have hl' : t.length + 0 < 1000000 := hl
      refine s_if (b := false) (a_to (a_t (v_eq (v_Bkind T.toTxtBlocks (v_var rfl) (hide_of g1).2) v_c)) rfl) nofun fun _ => ?_
      refine s_if (b := true) (a_to (a_t (v_eq (v_Bkind T.toTxtBlocks (v_var rfl) (hide_of g1).2) v_c)) rfl) (fun _ => ?_) nofun
      have h2 := sz_push evs ⟨4, n, []⟩
      refine k_drop (k_tell (v_var rfl) hE v_c (v_Bnumber T.toTxtBlocks (v_var rfl) (hide_of g1).2) arg_nil (by omega) (by decide) fun H2 ps2 ds2 s2 hE2 => ?_)
      refine k_drop (k_call (ka_v (v_Btext T.toTxtBlocks (v_var rfl) (hide_of (s2 _ _ g1)).2) (ka_v (v_var rfl) (ka_nil ?_))))
      refine ⟨ta, e, L, ps2, ds2, _, t, rfl, hE2, SqL.of (hide_of (s2 _ _ g2)).2, by omega, ?_, fun H3 ps3 ds3 s3 hE3 => ?_⟩
      · show sz (push evs ⟨4, n, []⟩) + _ < _
        omega
      have h3 := sz_pushAll (Ml.running t) (push evs ⟨4, n, []⟩)
      have h4 := sz_len (pushAll (push evs ⟨4, n, []⟩) (Ml.running t))
      exact k_drop (k_tell (v_var rfl) hE3 v_c (v_Bnumber T.toTxtBlocks (v_var rfl) (hide_of ((s2.trans s3) _ _ g1)).2) arg_nil (by show (pushAll (push evs ⟨4, n, []⟩) (Ml.running t)).length < _; omega) (by decide) fun H4 ps4 ds4 s4 hE4 => q H4 ps4 ds4 ((s2.trans s3).trans s4) hE4)
    | code t ls =>
      have e1 : blockE (.code t ls) = ⟨10, 0, t⟩ :: (ls.map (fun l => ⟨11, 0, l⟩) ++ [Ml.ev 12]) := rfl
      rw [e1] at hz q
      rw [sz_cons, sz_append] at hz
      rw [pushAll_cons, pushAll_append] at q
      refine s_if (b := true) (a_to (a_t (v_eq (v_Bkind T.toTxtBlocks (v_var rfl) (hide_of g1).2) v_c)) rfl) (fun _ => ?_) nofun
      have h2 := sz_push evs ⟨10, 0, t⟩
      refine k_drop (k_tell (v_var rfl) hE v_c v_c (arg_at (v_Btext T.toTxtBlocks (v_var rfl) (hide_of g1).2) (SqL.of (hide_of g2).2)) (by omega) (by decide) fun H2 ps2 ds2 s2 hE2 => ?_)
      have gl := s2 _ _ g3
      refine s_forL (v_Brows T.toTxtBlocks (v_var rfl) (hide_of (s2 _ _ g1)).2) (SqL.of (hide_of gl).2) (fun i σ H' => ∃ ps' ds' x, σ = [some (.ref p), some (.ref e), x] ∧ Same (hide H (evS L ds)) (hide H' (evS L ds')) ∧
        EvAt T.k_Events.C T.k_Event.C H' e L ps' ds' (pushAll (push evs ⟨10, 0, t⟩) ((ls.take i).map fun l => ⟨11, 0, l⟩))) ⟨ps2, ds2, _, rfl, s2, hE2⟩ ?_ ?_ ?_
      · rintro i σ H' _ ⟨ps', ds', x, rfl, sm, hE'⟩
        exact SqL.of (hide_of (sm _ _ g3)).2
      · rintro i v σ H' hv ⟨ps', ds', x, rfl, sm, hE'⟩
        obtain ⟨rp, hrp, rfl⟩ := refs_of hv
        obtain ⟨l, hll, hR⟩ := g4.getP hrp
        have hll' : ls[i]? = some l := hll
        have h3 : sz ((ls.take i).map fun l => (⟨11, 0, l⟩ : Ml.Event)) ≤ sz (ls.map fun l => (⟨11, 0, l⟩ : Ml.Event)) := by
          rw [rows_sz, rows_sz]
          have := LW_take_drop i ls
          omega
        have h4 := sz_pushAll ((ls.take i).map fun l => (⟨11, 0, l⟩ : Ml.Event)) (push evs ⟨10, 0, t⟩)
        have h5 := sz_len (pushAll (push evs ⟨10, 0, t⟩) ((ls.take i).map fun l => (⟨11, 0, l⟩ : Ml.Event)))
        show tDrop _ _ [some (.ref p), some (.ref e), some (.ref rp)] H'
        refine k_drop (k_tell (v_var rfl) hE' v_c v_c (arg_at (v_var rfl) (SqL.of (hide_of (hR.mono sm)).2)) (by omega) (by decide) fun H3 ps3 ds3 s3 hE3 => ?_)
        refine ⟨ps3, ds3, _, rfl, sm.trans s3, ?_⟩
        rw [take_more hll', List.map_append, pushAll_append]
        exact hE3
      · rintro σ H' ⟨ps', ds', x, rfl, sm, hE'⟩
        have hlr : (refs rs).length = ls.length := by
          rw [refs_len, g4.1]
          rfl
        rw [hlr, List.take_length] at hE'
        have h4 := sz_pushAll (ls.map fun l => (⟨11, 0, l⟩ : Ml.Event)) (push evs ⟨10, 0, t⟩)
        have h5 := sz_len (pushAll (push evs ⟨10, 0, t⟩) (ls.map fun l => (⟨11, 0, l⟩ : Ml.Event)))
        exact k_drop (k_tell (v_var rfl) hE' v_c v_c arg_nil (by omega) (by decide) fun H3 ps3 ds3 s3 hE3 => q H3 ps3 ds3 (sm.trans s3) hE3)
/-! ### events_of -/
/-- an event told, as it stands -/
def EvR (CE : Addr) (H : Hp) (p : Addr) (ev : Ml.Event) : Prop := ∃ dx d, H p = some (.ins CE dx (eventN.zip [.int (ev.kind : Int), .int (ev.num : Int), .ref d])) ∧ H d = some (.lst (bs ev.bytes))
theorem EvR.mono {CE : Addr} {H H' : Hp} (s : Same H H') {p : Addr} {f : Ml.Event} (h : EvR CE H p f) : EvR CE H' p f := by
  obtain ⟨dx, d, a, b⟩ := h
  exact ⟨dx, d, s _ _ a, s _ _ b⟩
/-- no event's object among them -/
def NoEv (CE : Addr) (S : Addr → Prop) (H : Hp) : Prop := ∀ b, S b → ∃ o, H b = some o ∧ ∀ dx fs, o ≠ .ins CE dx fs
theorem NoEv.tr {CE : Addr} {S : Addr → Prop} {H : Hp} (h : NoEv CE S H) : Tr S H := fun b z => by
  obtain ⟨o, e, _⟩ := h b z
  exact ⟨o, e⟩
def sp_events_of (K : PySem.W.Frag) (CE : Addr) : Sp := fun vs H Q _ => ∃ (a : Addr) (t : Bytes) (S : Addr → Prop), vs = [.ref a] ∧ SqL K H a (bs t) ∧ t.length < 900000 ∧ NoEv CE S H ∧
  ∀ L ps H', Same H H' → H L = none → H' L = some (.lst (refs ps)) → AllAt (EvR CE (hide H' S)) ps (Ml.events t) → Q (.ref L) H'
theorem ok_events_of (T : TxtMeaning K mg) : FnOk P w K mg base CX0 11 T.d_events_of.f T.d_events_of.fd ["text"] (sp_events_of K T.k_Event.C) := by
  refine T.d_events_of.F.ok sc_events_of (fun vs H Q E h => ?_) (fun cdv A outer s H vs Q E hr h => ?_)
  · obtain ⟨a, t, S, rfl, _⟩ := h
    rfl
  · obtain ⟨a, t, S, rfl, hS, hl, hSt, q⟩ := h
    refine ⟨_, pss_cons (ps_set (i := 1) sc_events_of.nd rfl (.inl rfl) (pe_make0 T.k_Events.made (ok_Events_init__ T.toTxtEvents) (hr.mono (by decide)) (by rfl) T.k_Events.g T.m_Events_init__.b .nil pass0)) (pss_cons (ps_set (i := 2) sc_events_of.nd rfl (.inl rfl) pe_int) (pss_cons (ps_for PassesOwn.never rfl (pi_list (pe_call (ok_read_blocks T.toTxtBlocks) (hr.mono (by decide)) (by rfl) T.d_read_blocks.g T.d_read_blocks.F.kp T.d_read_blocks.b .nil pass0 (pa_cons (pe_call (ok_read_lines T.toTxtLines) (hr.mono (by decide)) (by rfl) T.d_read_lines.g T.d_read_lines.F.kp T.d_read_lines.b .nil pass0 (pa_cons (pv 0) pa_nil)) pa_nil))) (pg_name (i := 3) sc_events_of.nd rfl (.inl rfl)) (pss_one (ps_if (pt_cmpR op_eq (pe_fld (pv 3) rfl) (pe_k (by rfl) T.c_ITEM) (nomark _)) (pss_one (ps_set (i := 2) sc_events_of.nd rfl (.inl rfl) (pe_call (ok_tell_item T) (hr.mono (by decide)) (by rfl) T.d_tell_item.g T.d_tell_item.F.kp T.d_tell_item.b .nil pass0 (pa_cons (pv 3) (pa_cons (pv 2) (pa_cons (pv 1) pa_nil)))))) (pss_cons (ps_expr (pe_call (ok_end_items T) (hr.mono (by decide)) (by rfl) T.d_end_items.g T.d_end_items.F.kp T.d_end_items.b .nil pass0 (pa_cons (pv 2) (pa_cons (pv 1) pa_nil)))) (pss_cons (ps_set (i := 2) sc_events_of.nd rfl (.inl rfl) pe_int) (pss_one (ps_expr (pe_call (ok_tell_block T) (hr.mono (by decide)) (by rfl) T.d_tell_block.g T.d_tell_block.F.kp T.d_tell_block.b .nil pass0 (pa_cons (pv 3) (pa_cons (pv 1) pa_nil)))))))))) (pss_cons (ps_expr (pe_call (ok_end_items T) (hr.mono (by decide)) (by rfl) T.d_end_items.g T.d_end_items.F.kp T.d_end_items.b .nil pass0 (pa_cons (pv 2) (pa_cons (pv 1) pa_nil)))) (pss_one (ps_ret (pe_fld (pv 1) rfl)))))), ?_⟩
    have hz2 : (9000000 : Nat) < sizeLine := by decide
    refine k_set (k_mk (ka_nil fun e dx ne ndx nde => ?_))
    refine ⟨e, dx, rfl, upd_same, fun L hL => ⟨rfl, ?_⟩⟩
    have nLe : L ≠ e := fun z => by
      rw [z, upd_same] at hL
      cases hL
    have nLd : L ≠ dx := fun z => by
      rw [z, upd_ne nde, upd_same] at hL
      cases hL
    have nL : H L = none := by
      rw [upd_ne nLe, upd_ne nLd] at hL
      exact hL
    generalize eH : upd (upd (upd (upd H dx (.own e)) e (.ins T.k_Events.C dx [])) L (.lst [])) e (.ins T.k_Events.C dx (eventsN.zip [.ref L])) = H1
    have hE1 : EvAt T.k_Events.C T.k_Event.C H1 e L [] [] [] := by
      refine ⟨⟨dx, by rw [← eH, upd_same]⟩, by rw [← eH, upd_ne nLe, upd_same]; rfl, rfl, rfl, fun i p d f h => by simp at h, List.nodup_nil, List.not_mem_nil, fun f hf => by cases hf⟩
    have s1 : Same H H1 := fun z u hu => by
      have n1 : z ≠ e := ne_none hu ne
      have n2 : z ≠ dx := ne_none hu ndx
      have n3 : z ≠ L := ne_none hu nL
      rw [← eH, upd_ne n1, upd_ne n3, upd_ne n1, upd_ne n2]
      exact hu
    clear eH hL
    refine s_set v_c ?_
    refine k_for (k_call (ka (k_call (ka_v (v_var rfl) (ka_nil ?_)))))
    refine ⟨a, t, evS L [], rfl, s1.seq hS, by omega, hE1.tr, fun p1 ps1 H2 s2 n2 h2 hA2 => ka_nil ?_⟩
    refine ⟨p1, ps1, Ml.lines t, evS L [], rfl, SqL.of h2, hA2, hE1.tr.mono s2, by rw [LW_lines]; omega, fun p2 ps2 H3 s3 n3 h3 hA3 => ?_⟩
    have hE3 := (hE1.mono s2).mono s3
    have nS : ¬ evS L [] p2 := (hE1.tr.mono s2).not n3
    have h3' := hide_at h3 nS
    have hsz := text_sz t
    have hlp : (refs ps2).length = (blocksF (Ml.lines t)).length := by
      rw [refs_len, hA3.1, List.length_map]
    refine for_at (SqL.of h3) (fun i σ H' => ∃ (ps' ds' : List Addr) (T' : List Ml.Event) (o : Nat) (x : Option V), σ = [some (.ref a), some (.ref e), some (.int (o : Int)), x] ∧ Same (hide H3 (evS L [])) (hide H' (evS L ds')) ∧ EvAt T.k_Events.C T.k_Event.C H' e L ps' ds' T' ∧
      pushAll T' (Ml.shown o ((blocksF (Ml.lines t)).drop i)) = Ml.events t ∧ sz T' + sz (Ml.shown o ((blocksF (Ml.lines t)).drop i)) ≤ 4 * (t.length + 1)) ⟨[], [], [], 0, _, rfl, Same.refl _, hE3, ?_, ?_⟩ ?_ ?_ ?_
    · rw [List.drop_zero, events_F, merge_push]
    · rw [List.drop_zero, sz_nil]
      omega
    · rintro i σ H' _ ⟨ps', ds', T', o, x, rfl, sm, _⟩
      exact SqL.of (hide_of (sm _ _ h3')).2
    · rintro i v σ H' hv ⟨ps', ds', T', o, x, rfl, sm, hE', ht, hs⟩
      obtain ⟨bp, hbp, rfl⟩ := refs_of hv
      obtain ⟨m, hm, hB0⟩ := hA3.getP hbp
      rw [List.getElem?_map] at hm
      obtain ⟨b, hb, rfl⟩ : ∃ b, (blocksF (Ml.lines t))[i]? = some b ∧ m = blockM b := by
        cases eb : (blocksF (Ml.lines t))[i]? with
        | none =>
          rw [eb] at hm
          cases hm
        | some b =>
          rw [eb] at hm
          exact ⟨b, rfl, (Option.some.inj hm).symm⟩
      have hB := hB0.mono sm
      have hw := text_w (List.mem_of_getElem? hb)
      rw [drop_cons_of hb] at ht hs
      obtain ⟨bdx, bta, br, brs, g1, g2, g3, g4⟩ := id hB
      show tIfS _ _ _ _ [some (.ref a), some (.ref e), some (.int (o : Int)), some (.ref bp)] H'
      refine s_if (a_to (a_t (v_eq (v_Bkind T.toTxtBlocks (v_var rfl) (hide_of g1).2) v_c)) (item_kind b)) (fun c => ?_) fun c => ?_
      · obtain ⟨d, bt, rfl⟩ : ∃ d bt, b = .item d bt := by
          cases b with
          | item d bt => exact ⟨d, bt, rfl⟩
          | para _ => cases c
          | heading _ _ => cases c
          | code _ _ => cases c
        rw [shown_item, pushAll_append] at ht
        rw [shown_item, sz_append] at hs
        have hw' : bt.length + 0 ≤ t.length := hw
        refine k_set (k_call (ka_v (v_var rfl) (ka_v (v_var rfl) (ka_v (v_var rfl) (ka_nil ?_)))))
        refine ⟨bp, e, L, ps', ds', T', d, o, bt, rfl, hE', hB, by omega, by omega, fun H4 ps4 ds4 s4 hE4 => ?_⟩
        have h5 := sz_pushAll (itemE o d bt) T'
        exact ⟨ps4, ds4, _, _, _, rfl, sm.trans s4, hE4, ht, by omega⟩
      · rw [shown_block c, pushAll_append, pushAll_append] at ht
        rw [shown_block c, sz_append, sz_append, leave_sz] at hs
        refine k_drop (k_call (ka_v (v_var rfl) (ka_v (v_var rfl) (ka_nil ?_))))
        refine ⟨o, e, L, ps', ds', T', rfl, hE', by omega, fun H4 ps4 ds4 s4 hE4 => ?_⟩
        have h5 := sz_pushAll (Ml.leave o) T'
        rw [leave_sz] at h5
        dsimp only
        refine s_set v_c ?_
        refine k_drop (k_call (ka_v (v_var rfl) (ka_v (v_var rfl) (ka_nil ?_))))
        refine ⟨bp, e, L, ps4, ds4, _, b, rfl, c, hE4, hB.mono s4, by omega, by omega, fun H5 ps5 ds5 s5 hE5 => ?_⟩
        have h6 := sz_pushAll (blockE b) (pushAll T' (Ml.leave o))
        exact ⟨ps5, ds5, _, 0, _, rfl, (sm.trans s4).trans s5, hE5, ht, by omega⟩
    · rintro σ H' ⟨ps', ds', T', o, x, rfl, sm, hE', ht, hs⟩
      rw [hlp, List.drop_length, shown_nil] at ht hs
      rw [leave_sz] at hs
      refine k_drop (k_call (ka_v (v_var rfl) (ka_v (v_var rfl) (ka_nil ?_))))
      refine ⟨o, e, L, ps', ds', T', rfl, hE', by omega, fun H4 ps4 ds4 s4 hE4 => ?_⟩
      rw [ht] at hE4
      obtain ⟨dxe, he⟩ := hE4.obj
      refine s_ret (v_fld (v_var rfl) he T.k_Events.cl (T.n_Events _ (by decide +kernel)) (lk_zip (by decide +kernel) (i := 0) rfl rfl)) ?_
      have sAll : ∀ z u, H z = some u → hide H4 (evS L ds4) z = some u := fun z u hu => by
        refine (sm.trans s4) _ _ (hide_mono (S := evS L []) (s2.trans s3) _ _ (hide_at (s1 _ _ hu) ?_))
        rintro (y | y)
        · exact ne_none hu nL y
        · cases y
      refine q L ps4 H4 (fun z u hu => (hide_of (sAll z u hu)).2) nL hE4.lst ⟨hE4.lp, fun i p f hp hf => ?_⟩
      obtain ⟨d, hd⟩ : ∃ d, ds4[i]? = some d := by
        have hil : i < ds4.length := by
          rw [hE4.ld]
          exact (List.getElem?_eq_some_iff.mp hf).1
        exact ⟨_, List.getElem?_eq_getElem hil⟩
      obtain ⟨⟨px, k1⟩, k2⟩ := hE4.one i p d f hp hd hf
      refine ⟨px, d, hide_at k1 fun z => ?_, hide_at k2 fun z => ?_⟩
      · obtain ⟨o, hx, hn⟩ := hSt p z
        rw [(hide_of (sAll _ _ hx)).2] at k1
        exact hn _ _ (Option.some.inj k1)
      · obtain ⟨o, hx, _⟩ := hSt d z
        exact (hide_of (sAll _ _ hx)).1 (.inr (List.mem_of_getElem? hd))
end
end Mk
namespace Mk
open PySem PySem.Spec PyProof.Rows L2
open Ml (Bytes Piece Block)
abbrev s_told_bytes : Stmt := top 91
theorem sc_told_bytes : FnScope ["data"] ["data"] (defScope s_told_bytes) := ⟨rfl, rfl, rfl, by decide +kernel, rfl, by decide +kernel, by decide +kernel⟩
abbrev s_told_event : Stmt := top 92
theorem sc_told_event : FnScope ["event"] ["event"] (defScope s_told_event) := ⟨rfl, rfl, rfl, by decide +kernel, rfl, by decide +kernel, by decide +kernel⟩
abbrev s_told_line : Stmt := top 93
theorem sc_told_line : FnScope ["line"] ["line"] (defScope s_told_line) := ⟨rfl, rfl, rfl, by decide +kernel, rfl, by decide +kernel, by decide +kernel⟩
structure TxtTelling (K : PySem.W.Frag) (mg : Str → Option Value) extends TxtMeaning K mg where
  d_told_bytes : DefT K mg "told_bytes" s_told_bytes ["data"]
  d_told_event : DefT K mg "told_event" s_told_event ["event"]
  d_told_line : DefT K mg "told_line" s_told_line ["line"]
section
variable {P : Program} {w : World} {K : PySem.W.Frag} {mg : Str → Option Value} {base : Heap}
section
variable {σ : L2.St} {H : Hp} {te : TE} {p dx d : Addr} {k n : Int}
theorem v_Ekind (T : TxtEvents K mg) (h : Val te σ H (.ref p)) (ho : H p = some (.ins T.k_Event.C dx (eventN.zip [.int k, .int n, .ref d]))) : Val (tFld K te "kind") σ H (.int k) :=
  v_fld h ho T.k_Event.cl (T.n_Event _ (by decide +kernel)) (lk_zip eventN_nd (i := 0) rfl rfl)
theorem v_Enumber (T : TxtEvents K mg) (h : Val te σ H (.ref p)) (ho : H p = some (.ins T.k_Event.C dx (eventN.zip [.int k, .int n, .ref d]))) : Val (tFld K te "number") σ H (.int n) :=
  v_fld h ho T.k_Event.cl (T.n_Event _ (by decide +kernel)) (lk_zip eventN_nd (i := 1) rfl rfl)
theorem v_Edata (T : TxtEvents K mg) (h : Val te σ H (.ref p)) (ho : H p = some (.ins T.k_Event.C dx (eventN.zip [.int k, .int n, .ref d]))) : Val (tFld K te "data") σ H (.ref d) :=
  v_fld h ho T.k_Event.cl (T.n_Event _ (by decide +kernel)) (lk_zip eventN_nd (i := 2) rfl rfl)
end
theorem byteInts_bs (b : Bytes) : (byteInts b).map V.int = bs b := by
  unfold byteInts bs
  rw [List.map_map]
  rfl
theorem bytes_len (b : Bytes) : (Mark.bytes b).length = b.length + 1 := by
  unfold Mark.bytes
  rw [List.length_cons, List.length_map]
theorem bytes_V (b : Bytes) : (Mark.bytes b).map V.int = [V.int (b.length : Int)] ++ bs b := by
  rw [← byteInts_bs]
  rfl
/-! ### told_bytes -/
def sp_told_bytes : Sp := fun vs H Q _ => ∃ (a : Addr) (b : Bytes), vs = [.ref a] ∧ H a = some (.lst (bs b)) ∧ b.length ≤ 16000000 ∧ ∀ p H', Same H H' → H p = none → H' p = some (.lst ((Mark.bytes b).map V.int)) → Q (.ref p) H'
theorem ok_told_bytes (T : TxtTelling K mg) : FnOk P w K mg base CX0 1 T.d_told_bytes.f T.d_told_bytes.fd ["data"] sp_told_bytes := by
  refine T.d_told_bytes.F.ok sc_told_bytes (fun vs H Q E h => ?_) (fun cdv A outer s H vs Q E hr h => ?_)
  · obtain ⟨a, b, rfl, _⟩ := h
    rfl
  · obtain ⟨a, b, rfl, ha, hb, q⟩ := h
    refine ⟨_, pss_one (ps_ret (pe_op op_cat (pe_lst (pa_cons (pe_callB call_len_seq (by rfl) T.b_len PySem.boot_len (pa_cons (pv 0) pa_nil)) pa_nil)) (pv 0))), ?_⟩
    have hz2 : (16000001 : Nat) ≤ sizeLine := by decide
    refine k_ret (k_cat ?_)
    refine k_n (n_lst (va1 (v_len (v_var rfl) (SqL.of ha))) (by show 1 ≤ sizeLine; decide)) fun x nx => ?_
    have s1 : Same H (upd H x (.lst [.int ((bs b).length : Int)])) := same_upd nx
    refine v_var rfl _ ?_
    refine ⟨x, a, _, _, rfl, rfl, upd_same, s1 _ _ ha, ?_, fun y ny => ?_⟩
    · rw [bs_len]
      show 1 + b.length ≤ _
      omega
    refine q y _ (s1.trans (same_upd ny)) (Same.none s1 ny) ?_
    rw [upd_same, bs_len, bytes_V]
theorem ns_told_bytes {σ : L2.St} {H : Hp} {te : TE} {E : XK} {a : Addr} {b : Bytes} (h : Val te σ H (.ref a)) (ha : H a = some (.lst (bs b))) (hb : b.length ≤ 16000000) : NewS (tCall sp_told_bytes [] E (tCons te tNil)) σ H ((Mark.bytes b).map V.int) :=
  fun Q q => k_call (ka_v h (ka_nil ⟨a, b, rfl, ha, hb, q⟩))
/-! ### told_event -/
def sp_told_event (CE : Addr) : Sp := fun vs H Q _ => ∃ (e : Addr) (f : Ml.Event), vs = [.ref e] ∧ EvR CE H e f ∧ f.bytes.length ≤ 15000000 ∧ ∀ p H', Same H H' → H p = none → H' p = some (.lst ((Mark.eventNums f).map V.int)) → Q (.ref p) H'
theorem ok_told_event (T : TxtTelling K mg) : FnOk P w K mg base CX0 2 T.d_told_event.f T.d_told_event.fd ["event"] (sp_told_event T.k_Event.C) := by
  refine T.d_told_event.F.ok sc_told_event (fun vs H Q E h => ?_) (fun cdv A outer s H vs Q E hr h => ?_)
  · obtain ⟨e, f, rfl, _⟩ := h
    rfl
  · obtain ⟨e, f, rfl, ⟨dx, d, h1, h2⟩, hl, q⟩ := h
    refine ⟨_, pss_one (ps_ret (pe_op op_cat (pe_lst (pa_cons (pe_fld (pv 0) rfl) (pa_cons (pe_fld (pv 0) rfl) pa_nil))) (pe_call (ok_told_bytes T) (hr.mono (by decide)) (by rfl) T.d_told_bytes.g T.d_told_bytes.F.kp T.d_told_bytes.b .nil pass0 (pa_cons (pe_fld (pv 0) rfl) pa_nil)))), ?_⟩
    have hz2 : (15000003 : Nat) ≤ sizeLine := by decide
    refine k_ret (k_cat ?_)
    refine k_n (n_lst (va_cons (v_Ekind T.toTxtEvents (v_var rfl) h1) (va1 (v_Enumber T.toTxtEvents (v_var rfl) h1))) (by show 2 ≤ sizeLine; decide)) fun a na => ?_
    have s1 : Same H (upd H a (.lst [.int (f.kind : Int), .int (f.num : Int)])) := same_upd na
    refine ns_told_bytes (v_Edata T.toTxtEvents (v_var rfl) (s1 _ _ h1)) (s1 _ _ h2) (by omega) _ fun y H2 s2 ny hy => ?_
    refine ⟨a, y, _, _, rfl, rfl, s2 _ _ upd_same, hy, ?_, fun b nb => ?_⟩
    · rw [List.length_map, bytes_len]
      show 2 + (f.bytes.length + 1) ≤ _
      omega
    refine q b _ ((s1.trans s2).trans (same_upd nb)) (Same.none (s1.trans s2) nb) ?_
    rw [upd_same]
    rfl
theorem ns_told_event {σ : L2.St} {H : Hp} {te : TE} {E : XK} {CE e : Addr} {f : Ml.Event} (h : Val te σ H (.ref e)) (he : EvR CE H e f) (hb : f.bytes.length ≤ 15000000) : NewS (tCall (sp_told_event CE) [] E (tCons te tNil)) σ H ((Mark.eventNums f).map V.int) :=
  fun Q q => k_call (ka_v h (ka_nil ⟨e, f, rfl, he, hb, q⟩))
/-! ### told_line -/
def sp_told_line (C : Addr) : Sp := fun vs H Q _ => ∃ (p : Addr) (m : LineM), vs = [.ref p] ∧ LineAt C H p m ∧ m.kind ≤ 4 ∧ m.text.length ≤ 15000000 ∧ ∀ y H', Same H H' → H y = none → H' y = some (.lst ((lineNumsM m).map V.int)) → Q (.ref y) H'
theorem lineNumsM_0 {m : LineM} (h : m.kind = 0) : lineNumsM m = [(m.kind : Int)] := by
  unfold lineNumsM
  rw [h]
  rfl
theorem lineNumsM_n {m : LineM} (h : m.kind = 2 ∨ m.kind = 3) : lineNumsM m = (m.kind : Int) :: (m.number : Int) :: Mark.bytes m.text := by
  unfold lineNumsM
  rcases h with h | h <;> rw [h] <;> rfl
theorem lineNumsM_t {m : LineM} (h : m.kind = 1 ∨ m.kind = 4) : lineNumsM m = (m.kind : Int) :: Mark.bytes m.text := by
  unfold lineNumsM
  rcases h with h | h <;> rw [h] <;> rfl
theorem ok_told_line (T : TxtTelling K mg) : FnOk P w K mg base CX0 2 T.d_told_line.f T.d_told_line.fd ["line"] (sp_told_line T.k_Line.C) := by
  refine T.d_told_line.F.ok sc_told_line (fun vs H Q E h => ?_) (fun cdv A outer s H vs Q E hr h => ?_)
  · obtain ⟨p, m, rfl, _⟩ := h
    rfl
  · obtain ⟨p, m, rfl, ⟨dx, t, r, h1, h2, h3⟩, hk, hl, q⟩ := h
    refine ⟨_, pss_cons (ps_if (pt_cmpR op_eq (pe_fld (pv 0) rfl) (pe_k (by rfl) T.c_BLANK) (nomark _)) (pss_one (ps_ret (pe_lst (pa_cons (pe_fld (pv 0) rfl) pa_nil)))) pss_nil) (pss_cons (ps_if (pw_or (pt_cmpR op_eq (pe_fld (pv 0) rfl) (pe_k (by rfl) T.c_HEADING) (nomark _)) (pw_or1 (pt_cmpR op_eq (pe_fld (pv 0) rfl) (pe_k (by rfl) T.c_ITEM) (nomark _)))).pt (pss_one (ps_ret (pe_op op_cat (pe_lst (pa_cons (pe_fld (pv 0) rfl) (pa_cons (pe_fld (pv 0) rfl) pa_nil))) (pe_call (ok_told_bytes T) (hr.mono (by decide)) (by rfl) T.d_told_bytes.g T.d_told_bytes.F.kp T.d_told_bytes.b .nil pass0 (pa_cons (pe_fld (pv 0) rfl) pa_nil))))) pss_nil) (pss_one (ps_ret (pe_op op_cat (pe_lst (pa_cons (pe_fld (pv 0) rfl) pa_nil)) (pe_call (ok_told_bytes T) (hr.mono (by decide)) (by rfl) T.d_told_bytes.g T.d_told_bytes.F.kp T.d_told_bytes.b .nil pass0 (pa_cons (pe_fld (pv 0) rfl) pa_nil)))))), ?_⟩
    have hz2 : (15000003 : Nat) ≤ sizeLine := by decide
    refine s_if (a_t (v_eq (v_Lkind T.toTxtLines (v_var rfl) h1) v_c)) (fun c => ?_) fun c => ?_
    · have c' : (m.kind : Int) = 0 := of_decide_eq_true c
      refine s_retN (n_lst (va1 (v_Lkind T.toTxtLines (v_var rfl) h1)) (by show 1 ≤ sizeLine; decide)) fun y ny => ?_
      refine q y _ (same_upd ny) ny ?_
      rw [upd_same, lineNumsM_0 (by omega)]
      rfl
    have c0 : ¬ (m.kind : Int) = 0 := of_decide_eq_false c
    refine s_if (a_or (a_t (v_eq (v_Lkind T.toTxtLines (v_var rfl) h1) v_c)) fun _ => a_t (v_eq (v_Lkind T.toTxtLines (v_var rfl) h1) v_c)) (fun c => ?_) fun c => ?_
    · have c' : m.kind = 2 ∨ m.kind = 3 := by
        rw [Bool.or_eq_true, decide_eq_true_iff, decide_eq_true_iff] at c
        omega
      refine k_ret (k_cat ?_)
      refine k_n (n_lst (va_cons (v_Lkind T.toTxtLines (v_var rfl) h1) (va1 (v_Lnumber T.toTxtLines (v_var rfl) h1))) (by show 2 ≤ sizeLine; decide)) fun a na => ?_
      have s1 : Same H (upd H a (.lst [.int (m.kind : Int), .int (m.number : Int)])) := same_upd na
      refine ns_told_bytes (v_Ltext T.toTxtLines (v_var rfl) (s1 _ _ h1)) (s1 _ _ h2) (by omega) _ fun y H2 s2 ny hy => ?_
      refine ⟨a, y, _, _, rfl, rfl, s2 _ _ upd_same, hy, ?_, fun b nb => ?_⟩
      · rw [List.length_map, bytes_len]
        show 2 + (m.text.length + 1) ≤ _
        omega
      refine q b _ ((s1.trans s2).trans (same_upd nb)) (Same.none (s1.trans s2) nb) ?_
      rw [upd_same, lineNumsM_n c']
      rfl
    · have c' : m.kind = 1 ∨ m.kind = 4 := by
        rw [Bool.or_eq_false_iff, decide_eq_false_iff_not, decide_eq_false_iff_not] at c
        omega
      unfold tNext
      dsimp only
      refine k_ret (k_cat ?_)
      refine k_n (n_lst (va1 (v_Lkind T.toTxtLines (v_var rfl) h1)) (by show 1 ≤ sizeLine; decide)) fun a na => ?_
      have s1 : Same H (upd H a (.lst [.int (m.kind : Int)])) := same_upd na
      refine ns_told_bytes (v_Ltext T.toTxtLines (v_var rfl) (s1 _ _ h1)) (s1 _ _ h2) (by omega) _ fun y H2 s2 ny hy => ?_
      refine ⟨a, y, _, _, rfl, rfl, s2 _ _ upd_same, hy, ?_, fun b nb => ?_⟩
      · rw [List.length_map, bytes_len]
        show 1 + (m.text.length + 1) ≤ _
        omega
      refine q b _ ((s1.trans s2).trans (same_upd nb)) (Same.none (s1.trans s2) nb) ?_
      rw [upd_same, lineNumsM_t c']
      rfl
theorem ns_told_line {σ : L2.St} {H : Hp} {te : TE} {E : XK} {C p : Addr} {m : LineM} (h : Val te σ H (.ref p)) (hp : LineAt C H p m) (hk : m.kind ≤ 4) (hb : m.text.length ≤ 15000000) : NewS (tCall (sp_told_line C) [] E (tCons te tNil)) σ H ((lineNumsM m).map V.int) :=
  fun Q q => k_call (ka_v h (ka_nil ⟨p, m, rfl, hp, hk, hb, q⟩))
end
end Mk
namespace Mk
open PySem PySem.Spec PyProof.Rows L2
open Ml (Bytes Piece Block)
abbrev s_all_events : Stmt := top 96
theorem sc_all_events : FnScope ["text", "event"] ["text"] (defScope s_all_events) := ⟨rfl, rfl, rfl, by decide +kernel, rfl, by decide +kernel, by decide +kernel⟩
abbrev s_all_lines : Stmt := top 97
theorem sc_all_lines : FnScope ["text", "line"] ["text"] (defScope s_all_lines) := ⟨rfl, rfl, rfl, by decide +kernel, rfl, by decide +kernel, by decide +kernel⟩
abbrev s_one_by_one : Stmt := top 98
theorem sc_one_by_one : FnScope ["parts", "numbers", "part"] ["parts"] (defScope s_one_by_one) := ⟨rfl, rfl, rfl, by decide +kernel, rfl, by decide +kernel, by decide +kernel⟩
structure TxtAlone (K : PySem.W.Frag) (mg : Str → Option Value) extends TxtTelling K mg where
  c_LONGEST_ALONE : IntT mg "LONGEST_ALONE" 2048
  d_all_events : DefT K mg "all_events" s_all_events ["text"]
  d_all_lines : DefT K mg "all_lines" s_all_lines ["text"]
  d_one_by_one : DefT K mg "one_by_one" s_one_by_one ["parts"]
theorem events_sz (t : Bytes) : sz (Ml.events t) ≤ 4 * (t.length + 1) := by
  rw [events_F, merge_push]
  have h1 := sz_pushAll (Ml.shown 0 (blocksF (Ml.lines t))) []
  have h2 := text_sz t
  rw [sz_nil] at h1
  omega
theorem flatten_take_len (xs : List (List Int)) (i : Nat) : (xs.take i).flatten.length ≤ xs.flatten.length := by
  conv => rhs; rw [← List.take_append_drop i xs, List.flatten_append, List.length_append]
  omega
theorem events_mem {t : Bytes} {e : Ml.Event} (h : e ∈ Ml.events t) : e.bytes.length + 1 ≤ 4 * (t.length + 1) := by
  have h1 := events_sz t
  have h2 := sz_mem h
  unfold sz1 at h2
  omega
theorem lines_mem {t l : Bytes} (h : l ∈ Ml.lines t) : (lineM l).text.length ≤ t.length := by
  have h1 := LW_mem h
  have h2 := LW_lines t
  have h3 := lineM_text_len l
  omega
section
variable {P : Program} {w : World} {K : PySem.W.Frag} {mg : Str → Option Value} {base : Heap}
/-! ### one_by_one -/
def sp_one_by_one : Sp := fun vs H Q _ => ∃ (a : Addr) (ps : List Addr) (xs : List (List Int)), vs = [.ref a] ∧ H a = some (.lst (refs ps)) ∧ AllAt (IntsAt H) ps xs ∧ xs.flatten.length ≤ 15000000 ∧
  ∀ y H', Same H H' → H y = none → H' y = some (.lst (((xs.length : Int) :: xs.flatten).map V.int)) → Q (.ref y) H'
theorem ok_one_by_one (T : TxtAlone K mg) : FnOk P w K mg base CX0 1 T.d_one_by_one.f T.d_one_by_one.fd ["parts"] sp_one_by_one := by
  refine T.d_one_by_one.F.ok sc_one_by_one (fun vs H Q E h => ?_) (fun cdv A outer s H vs Q E hr h => ?_)
  · obtain ⟨a, ps, xs, rfl, _⟩ := h
    rfl
  · obtain ⟨a, ps, xs, rfl, ha, hA, hz, q⟩ := h
    refine ⟨_, pss_cons (ps_set (i := 1) sc_one_by_one.nd rfl (.inl rfl) (pe_lst (pa_cons (pe_callB call_len_seq (by rfl) T.b_len PySem.boot_len (pa_cons (pv 0) pa_nil)) pa_nil))) (pss_cons (ps_for PassesOwn.never rfl (pi_list (pv 0)) (pg_name (i := 2) sc_one_by_one.nd rfl (.inl rfl)) (pss_one (ps_expr (pe_bm PySem.F.plainAttrs_list PySem.F.slot_list_extend PySem.F.type_list_extend mt_extend (pv 1) (pa_cons (pv 2) pa_nil))))) (pss_one (ps_ret (pv 1)))), ?_⟩
    have hz2 : (15000001 : Nat) ≤ sizeLine := by decide
    refine s_setN (n_lst (va1 (v_len (v_var rfl) (SqL.of ha))) (by show 1 ≤ sizeLine; decide)) fun o no => ?_
    have s1 : Same H (upd H o (.lst [.int ((refs ps).length : Int)])) := same_upd no
    refine s_forL (v_var rfl) (SqL.of (s1 _ _ ha)) (fun i σ H' => ∃ x, σ = [some (.ref a), some (.ref o), x] ∧ Same H H' ∧ H' o = some (.lst (((xs.length : Int) :: (xs.take i).flatten).map V.int))) ⟨_, rfl, s1, ?_⟩ ?_ ?_ ?_
    · rw [upd_same, refs_len, hA.1, List.take_zero]
      rfl
    · rintro i σ' H' _ ⟨x, rfl, sm, _⟩
      exact SqL.of (sm _ _ ha)
    · rintro i v σ' H' hv ⟨x, rfl, sm, ho⟩
      obtain ⟨p, hp, rfl⟩ := refs_of hv
      obtain ⟨l, hl, hI⟩ := hA.getP hp
      have h1 := flatten_take_len xs (i + 1)
      rw [take_more hl, List.flatten_append, List.length_append] at h1
      have h2 : ([l] : List (List Int)).flatten = l := by
        show l ++ [] = l
        rw [List.append_nil]
      rw [h2] at h1
      refine s_extend (v_var rfl) (v_var rfl) ho (sm _ _ hI) ?_ ⟨_, rfl, fun z u hu => ?_, ?_⟩
      · rw [List.length_map, List.length_map, List.length_cons]
        omega
      · rw [upd_ne (ne_none hu no)]
        exact sm _ _ hu
      · rw [upd_same, take_more hl, List.flatten_append, h2, ← List.map_append]
        rfl
    · rintro σ' H' ⟨x, rfl, sm, ho⟩
      rw [refs_len, hA.1, List.take_length] at ho
      exact s_ret (v_var rfl) (q o H' sm no ho)
/-! ### all_events -/
def allA (t : Bytes) : List Int := if Mark.ALONE < t.length then [-1] else ((Ml.events t).length : Int) :: (Ml.events t).flatMap Mark.eventNums
def linesA (t : Bytes) : List Int := if Mark.ALONE < t.length then [-1] else ((Ml.lines t).length : Int) :: (Ml.lines t).flatMap fun l => Mark.lineNums (Ml.lineOf l)
theorem step_all (st : Mark.State) (t : Bytes) : Mark.step st (.all t) = (st, allA t) := rfl
theorem step_lines (st : Mark.State) (t : Bytes) : Mark.step st (.lines t) = (st, linesA t) := rfl
def sp_all_events : Sp := fun vs H Q _ => ∃ (a : Addr) (t : Bytes), vs = [.ref a] ∧ H a = some (.lst (bs t)) ∧ t.length ≤ 2200 ∧ ∀ y H', Same H H' → H y = none → H' y = some (.lst ((allA t).map V.int)) → Q (.ref y) H'
theorem ok_all_events (T : TxtAlone K mg) : FnOk P w K mg base CX0 12 T.d_all_events.f T.d_all_events.fd ["text"] sp_all_events := by
  refine T.d_all_events.F.ok sc_all_events (fun vs H Q E h => ?_) (fun cdv A outer s H vs Q E hr h => ?_)
  · obtain ⟨a, t, rfl, _⟩ := h
    rfl
  · obtain ⟨a, t, rfl, ha, hz, q⟩ := h
    refine ⟨_, pss_cons (ps_if (pt_cmpR op_gt (pe_callB call_len_seq (by rfl) T.b_len PySem.boot_len (pa_cons (pv 0) pa_nil)) (pe_k (by rfl) T.c_LONGEST_ALONE) (nomark _)) (pss_one (ps_ret (pe_lst (pa_cons (pe_un un_neg pe_int) pa_nil)))) pss_nil) (pss_one (ps_ret (pe_call (ok_one_by_one T) (hr.mono (by decide)) (by rfl) T.d_one_by_one.g T.d_one_by_one.F.kp T.d_one_by_one.b .nil pass0 (pa_cons (pe_lc (own := [("event", 1)]) (g := gName 1) (tt := tYes) rfl sc_all_events.nd (pi_list (pe_call (ok_events_of T.toTxtMeaning) (hr.mono (by decide)) (by rfl) T.d_events_of.g T.d_events_of.F.kp T.d_events_of.b .nil pass0 (pa_cons (pv 0) pa_nil))) (blkOk_by (N := ["text", "event"]) (sc := defScope s_all_events) (by decide +kernel)) (fun _ _ _ _ _ => pg_name (i := 1) sc_all_events.nd rfl (Or.inl rfl)) (fun _ _ _ _ _ => pts_nil) (fun _ _ _ _ _ => (pe_call (ok_told_event T.toTxtTelling) (hr.mono (by decide)) (by rfl) T.d_told_event.g T.d_told_event.F.kp T.d_told_event.b .nil pass0 (pa_cons (pv 1) pa_nil)))) pa_nil)))), ?_⟩
    have hz2 : (15000001 : Nat) ≤ sizeLine := by decide
    refine s_if (a_t (v_gt (v_len (v_var rfl) (SqL.of ha)) v_c)) (fun c => ?_) fun c => ?_
    · have c' := of_decide_eq_true c
      rw [bs_len] at c'
      refine s_retN (n_lst (va1 (v_neg v_c)) (by show 1 ≤ sizeLine; decide)) fun y ny => q y _ (same_upd ny) ny ?_
      have e : allA t = [-1] := if_pos (show Mark.ALONE < _ by unfold Mark.ALONE; omega)
      rw [upd_same, e]
      rfl
    · have c' := of_decide_eq_false c
      rw [bs_len] at c'
      have e : allA t = ((Ml.events t).length : Int) :: (Ml.events t).flatMap Mark.eventNums := if_neg (show ¬ Mark.ALONE < _ by unfold Mark.ALONE; omega)
      unfold tNext
      dsimp only
      refine k_ret (k_call (ka (k_lc (k_call (ka_v (v_var rfl) (ka_nil ?_))))))
      refine ⟨a, t, fun _ => False, rfl, SqL.of ha, by omega, nofun, fun L ps H1 s1 nL hL hA => ?_⟩
      rw [hide_none] at hA
      have h1 := events_sz t
      have h2 := sz_len (Ml.events t)
      have h3 := allNums_len (Ml.events t)
      refine lc_nums (R := EvR T.k_Event.C) (F := Mark.eventNums) (fun H H' p x s h => h.mono s) hL hA (by omega) (fun _ => rfl) (fun p x H' hp hx => ns_told_event (v_var rfl) hp (by have := events_mem hx; omega)) fun D H2 qs s2 nD hD hQ => ?_
      refine ka_nil ⟨D, qs, _, rfl, hD, hQ, ?_, fun y H3 s3 ny hy => ?_⟩
      · show ((Ml.events t).flatMap Mark.eventNums).length ≤ _
        omega
      · refine q y H3 ((s1.trans s2).trans s3) (Same.none (s1.trans s2) ny) ?_
        rw [hy, e, List.length_map]
        rfl
/-! ### all_lines -/
def sp_all_lines : Sp := fun vs H Q _ => ∃ (a : Addr) (t : Bytes), vs = [.ref a] ∧ H a = some (.lst (bs t)) ∧ t.length ≤ 2200 ∧ ∀ y H', Same H H' → H y = none → H' y = some (.lst ((linesA t).map V.int)) → Q (.ref y) H'
theorem ok_all_lines (T : TxtAlone K mg) : FnOk P w K mg base CX0 5 T.d_all_lines.f T.d_all_lines.fd ["text"] sp_all_lines := by
  refine T.d_all_lines.F.ok sc_all_lines (fun vs H Q E h => ?_) (fun cdv A outer s H vs Q E hr h => ?_)
  · obtain ⟨a, t, rfl, _⟩ := h
    rfl
  · obtain ⟨a, t, rfl, ha, hz, q⟩ := h
    refine ⟨_, pss_cons (ps_if (pt_cmpR op_gt (pe_callB call_len_seq (by rfl) T.b_len PySem.boot_len (pa_cons (pv 0) pa_nil)) (pe_k (by rfl) T.c_LONGEST_ALONE) (nomark _)) (pss_one (ps_ret (pe_lst (pa_cons (pe_un un_neg pe_int) pa_nil)))) pss_nil) (pss_one (ps_ret (pe_call (ok_one_by_one T) (hr.mono (by decide)) (by rfl) T.d_one_by_one.g T.d_one_by_one.F.kp T.d_one_by_one.b .nil pass0 (pa_cons (pe_lc (own := [("line", 1)]) (g := gName 1) (tt := tYes) rfl sc_all_lines.nd (pi_list (pe_call (ok_read_lines T.toTxtLines) (hr.mono (by decide)) (by rfl) T.d_read_lines.g T.d_read_lines.F.kp T.d_read_lines.b .nil pass0 (pa_cons (pv 0) pa_nil))) (blkOk_by (N := ["text", "line"]) (sc := defScope s_all_lines) (by decide +kernel)) (fun _ _ _ _ _ => pg_name (i := 1) sc_all_lines.nd rfl (Or.inl rfl)) (fun _ _ _ _ _ => pts_nil) (fun _ _ _ _ _ => (pe_call (ok_told_line T.toTxtTelling) (hr.mono (by decide)) (by rfl) T.d_told_line.g T.d_told_line.F.kp T.d_told_line.b .nil pass0 (pa_cons (pv 1) pa_nil)))) pa_nil)))), ?_⟩
    have hz2 : (15000001 : Nat) ≤ sizeLine := by decide
    refine s_if (a_t (v_gt (v_len (v_var rfl) (SqL.of ha)) v_c)) (fun c => ?_) fun c => ?_
    · have c' := of_decide_eq_true c
      rw [bs_len] at c'
      refine s_retN (n_lst (va1 (v_neg v_c)) (by show 1 ≤ sizeLine; decide)) fun y ny => q y _ (same_upd ny) ny ?_
      have e : linesA t = [-1] := if_pos (show Mark.ALONE < _ by unfold Mark.ALONE; omega)
      rw [upd_same, e]
      rfl
    · have c' := of_decide_eq_false c
      rw [bs_len] at c'
      have e : linesA t = ((Ml.lines t).length : Int) :: (Ml.lines t).flatMap fun l => Mark.lineNums (Ml.lineOf l) := if_neg (show ¬ Mark.ALONE < _ by unfold Mark.ALONE; omega)
      unfold tNext
      dsimp only
      refine k_ret (k_call (ka (k_lc (k_call (ka_v (v_var rfl) (ka_nil ?_))))))
      refine ⟨a, t, fun _ => False, rfl, SqL.of ha, by omega, tr_none, fun L ps H1 s1 nL hL hA => ?_⟩
      rw [hide_none] at hA
      have h1 := lines_nums_len (Ml.lines t)
      rw [LW_lines] at h1
      have h2 := lines_count t
      refine lc_nums (R := LineAt T.k_Line.C) (F := lineNumsM) (fun H H' p x s h => h.mono s) hL hA (by rw [List.length_map]; omega) (fun _ => rfl) (fun p x H' hp hx => ?_) fun D H2 qs s2 nD hD hQ => ?_
      · obtain ⟨l, hl, rfl⟩ := List.mem_map.mp hx
        exact ns_told_line (v_var rfl) hp (lineM_kind l) (by have := lines_mem hl; omega)
      have e2 : (((Ml.lines t).map lineM).map lineNumsM).flatten = (Ml.lines t).flatMap fun l => Mark.lineNums (Ml.lineOf l) := by
        rw [List.map_map]
        show ((Ml.lines t).map fun l => lineNumsM (lineM l)).flatten = ((Ml.lines t).map fun l => Mark.lineNums (Ml.lineOf l)).flatten
        congr 1
        refine List.map_congr_left fun l _ => ?_
        exact (lineNums_M l).symm
      refine ka_nil ⟨D, qs, _, rfl, hD, hQ, ?_, fun y H3 s3 ny hy => ?_⟩
      · rw [e2]
        omega
      · refine q y H3 ((s1.trans s2).trans s3) (Same.none (s1.trans s2) ny) ?_
        rw [hy, e, e2, List.length_map, List.length_map]
theorem ns_all {σ : L2.St} {H : Hp} {E : XK} {a : Addr} {t : Bytes} {Q : VK} (ha : H a = some (.lst (bs t))) (hz : t.length ≤ 2200) (q : ∀ y H', Same H H' → H y = none → H' y = some (.lst ((allA t).map V.int)) → Q (.ref y) H') : sp_all_events [.ref a] H Q E := ⟨a, t, rfl, ha, hz, q⟩
theorem ns_lines {σ : L2.St} {H : Hp} {E : XK} {a : Addr} {t : Bytes} {Q : VK} (ha : H a = some (.lst (bs t))) (hz : t.length ≤ 2200) (q : ∀ y H', Same H H' → H y = none → H' y = some (.lst ((linesA t).map V.int)) → Q (.ref y) H') : sp_all_lines [.ref a] H Q E := ⟨a, t, rfl, ha, hz, q⟩
end
end Mk
namespace Mk
open PySem PySem.Spec PyProof.Rows L2
open Ml (Bytes Piece Block)
abbrev s_html_of : Stmt := top 102
theorem sc_html_of : FnScope ["events", "page", "event"] ["events"] (defScope s_html_of) := ⟨rfl, rfl, rfl, by decide +kernel, rfl, by decide +kernel, by decide +kernel⟩
abbrev s_written : Stmt := top 103
theorem sc_written : FnScope ["signs", "sign"] ["signs"] (defScope s_written) := ⟨rfl, rfl, rfl, by decide +kernel, rfl, by decide +kernel, by decide +kernel⟩
abbrev s_escaped : Stmt := top 104
theorem sc_escaped : FnScope ["data", "page", "byte"] ["data"] (defScope s_escaped) := ⟨rfl, rfl, rfl, by decide +kernel, rfl, by decide +kernel, by decide +kernel⟩
/-! ### the tables -/
def tagsS : List (Str × Str) := [("", ""), ("<code>", "</code>"), ("<p>", ""), ("</p>\n", ""), ("<h", ">"), ("</h", ">\n"), ("<ul>\n", ""), ("</ul>\n", ""), ("<li>", ""), ("</li>\n", ""), ("<pre title=\"", "\">\n"), ("", "\n"), ("</pre>\n", ""), ("<em>", ""), ("</em>", ""), ("<a href=\"", "\">"), ("</a>", "")]
def escS : List (Int × Str) := [(34, "&quot;"), (38, "&amp;"), (60, "&lt;"), (62, "&gt;")]
/-- the text's codes are these bytes -/
def Codes (z : Str) (b : Bytes) : Prop := z.cps.toList = b.map UInt8.toNat
theorem tags_all : tagsS.map (fun p => (p.1.cps.toList, p.2.cps.toList)) = tagsA.map (fun p => (p.1.map UInt8.toNat, p.2.map UInt8.toNat)) := by decide +kernel
theorem tags_small : (tagsA.all fun p => decide (p.1.length ≤ 20) && decide (p.2.length ≤ 20)) = true := by decide +kernel
theorem tags_get {k : Nat} (h : k ≤ 16) : ∃ z z' a b, tagsS[k]? = some (z, z') ∧ tagsA[k]? = some (a, b) ∧ Codes z a ∧ Codes z' b ∧ a.length ≤ 20 ∧ b.length ≤ 20 := by
  obtain ⟨a, b, h1⟩ := tagsA_get h
  have hl : k < tagsS.length := Nat.lt_succ_of_le h
  have h2 : tagsS[k]? = some (tagsS[k].1, tagsS[k].2) := List.getElem?_eq_getElem hl
  have h3 := congrArg (fun l : List (List Nat × List Nat) => l[k]?) tags_all
  rw [List.getElem?_map, List.getElem?_map, h1, h2, Option.map_some, Option.map_some] at h3
  have h4 := Option.some.inj h3
  have h5 := List.all_eq_true.mp tags_small _ (List.mem_of_getElem? h1)
  rw [Bool.and_eq_true, decide_eq_true_iff, decide_eq_true_iff] at h5
  exact ⟨_, _, a, b, h2, h1, (Prod.mk.inj h4).1, (Prod.mk.inj h4).2, h5.1, h5.2⟩
theorem esc_look (c : UInt8) : (escS.lookup (c.toNat : Int) = none ∧ esc1 c = [c]) ∨ ∃ z, escS.lookup (c.toNat : Int) = some z ∧ Codes z (esc1 c) := by
  by_cases h1 : c = 34
  · subst h1
    exact .inr ⟨_, rfl, by unfold Codes; decide +kernel⟩
  by_cases h2 : c = 38
  · subst h2
    exact .inr ⟨_, rfl, by unfold Codes; decide +kernel⟩
  by_cases h3 : c = 60
  · subst h3
    exact .inr ⟨_, rfl, by unfold Codes; decide +kernel⟩
  by_cases h4 : c = 62
  · subst h4
    exact .inr ⟨_, rfl, by unfold Codes; decide +kernel⟩
  have no : ∀ k : UInt8, c ≠ k → ((c.toNat : Int) == (k.toNat : Int)) = false := fun k h => beq_eq_false_iff_ne.mpr fun z => h ((u8i c k).mp z)
  refine .inl ⟨?_, ?_⟩
  · have e1 : ((c.toNat : Int) == 34) = false := no 34 h1
    have e2 : ((c.toNat : Int) == 38) = false := no 38 h2
    have e3 : ((c.toNat : Int) == 60) = false := no 60 h3
    have e4 : ((c.toNat : Int) == 62) = false := no 62 h4
    unfold escS
    simp only [List.lookup, e1, e2, e3, e4]
  · unfold esc1
    rw [if_neg h2, if_neg h3, if_neg h4, if_neg h1]
theorem level_codes (n : Nat) (h : n ≤ 9) : Codes (toString (n : Int)) (Ml.level n) := by
  have e : n = 0 ∨ n = 1 ∨ n = 2 ∨ n = 3 ∨ n = 4 ∨ n = 5 ∨ n = 6 ∨ n = 7 ∨ n = 8 ∨ n = 9 := by omega
  unfold Codes
  rcases e with z | z | z | z | z | z | z | z | z | z <;> subst z <;> decide +kernel
structure TxtMarkup (K : PySem.W.Frag) (mg : Str → Option Value) extends TxtAlone K mg where
  b_ord : mg "ord" = none
  b_str : mg "str" = none
  c_TAGS : PairsT K mg "TAGS" tagsS
  c_ESCAPES : DctT K mg "ESCAPES" escS
  d_html_of : DefT K mg "html_of" s_html_of ["events"]
  d_written : DefT K mg "written" s_written ["signs"]
  d_escaped : DefT K mg "escaped" s_escaped ["data"]
section
variable {P : Program} {w : World} {K : PySem.W.Frag} {mg : Str → Option Value} {base : Heap}
/-! ### written -/
def sp_written : Sp := fun vs H Q _ => ∃ (z : Str) (b : Bytes), vs = [.str z] ∧ Codes z b ∧ b.length ≤ 100 ∧ ∀ p H', Same H H' → H p = none → H' p = some (.lst (bs b)) → Q (.ref p) H'
theorem ok_written (T : TxtMarkup K mg) : FnOk P w K mg base CX0 1 T.d_written.f T.d_written.fd ["signs"] sp_written := by
  refine T.d_written.F.ok sc_written (fun vs H Q E h => ?_) (fun cdv A outer s H vs Q E hr h => ?_)
  · obtain ⟨z, b, rfl, _⟩ := h
    rfl
  · obtain ⟨z, b, rfl, hz, hl, q⟩ := h
    refine ⟨_, pss_one (ps_ret (pe_lc (own := [("sign", 1)]) (g := gName 1) (tt := tYes) rfl sc_written.nd (pi_str (pv 0)) (blkOk_by (N := ["signs", "sign"]) (sc := defScope s_written) (by decide +kernel)) (fun _ _ _ _ _ => pg_name (i := 1) sc_written.nd rfl (Or.inl rfl)) (fun _ _ _ _ _ => pts_nil) (fun _ _ _ _ _ => (pe_callB call_ord (by rfl) T.b_ord (by decide +kernel) (pa_cons (pv 1) pa_nil))))), ?_⟩
    have hs : z.cps.size = b.length := by
      have := congrArg List.length hz
      rw [Array.length_toList, List.length_map] at this
      exact this
    have hz2 : (1000 : Nat) < sizeLine := by decide
    refine k_ret (s_lcS (f := fun n => .int (n : Int)) (v_var rfl) (by omega) (fun _ => rfl) (fun c H' => v_ord (v_var rfl)) fun p H' s1 np hp => q p H' s1 np ?_)
    rw [hp, show z.cps.toList = b.map UInt8.toNat from hz, List.map_map]
    rfl
theorem ns_written {σ : L2.St} {H : Hp} {te : TE} {E : XK} {z : Str} {b : Bytes} (h : Val te σ H (.str z)) (hz : Codes z b) (hb : b.length ≤ 100) : NewS (tCall sp_written [] E (tCons te tNil)) σ H (bs b) :=
  fun Q q => k_call (ka_v h (ka_nil ⟨z, b, rfl, hz, hb, q⟩))
/-! ### escaped -/
def sp_escaped (K : PySem.W.Frag) : Sp := fun vs H Q _ => ∃ (a : Addr) (b : Bytes), vs = [.ref a] ∧ SqL K H a (bs b) ∧ (Ml.esc b).length ≤ 15000000 ∧ ∀ p H', Same H H' → H p = none → H' p = some (.lst (bs (Ml.esc b))) → Q (.ref p) H'
theorem esc_take_len (b : Bytes) (i : Nat) : (Ml.esc (b.take i)).length ≤ (Ml.esc b).length := by
  conv => rhs; rw [← List.take_append_drop i b, esc_append, List.length_append]
  omega
theorem ok_escaped (T : TxtMarkup K mg) : FnOk P w K mg base CX0 2 T.d_escaped.f T.d_escaped.fd ["data"] (sp_escaped K) := by
  refine T.d_escaped.F.ok sc_escaped (fun vs H Q E h => ?_) (fun cdv A outer s H vs Q E hr h => ?_)
  · obtain ⟨a, b, rfl, _⟩ := h
    rfl
  · obtain ⟨a, b, rfl, hS, hz, q⟩ := h
    refine ⟨_, pss_cons (ps_set (i := 1) sc_escaped.nd rfl (.inl rfl) (pe_lst pa_nil)) (pss_cons (ps_for PassesOwn.never rfl (pi_list (pv 0)) (pg_name (i := 2) sc_escaped.nd rfl (.inl rfl)) (pss_one (ps_if (pt_cmpR (op_inI T.c_ESCAPES) (pv 2) (pe_kd (by rfl) T.c_ESCAPES) (by with_unfolding_all rfl)) (pss_one (ps_expr (pe_bm PySem.F.plainAttrs_list PySem.F.slot_list_extend PySem.F.type_list_extend mt_extend (pv 1) (pa_cons (pe_call (ok_written T) (hr.mono (by decide)) (by rfl) T.d_written.g T.d_written.F.kp T.d_written.b .nil pass0 (pa_cons (pe_ix (ix_I T.c_ESCAPES) (pe_kd (by rfl) T.c_ESCAPES) (pv 2) (fun _ _ => rfl)) pa_nil)) pa_nil)))) (pss_one (ps_expr (pe_bm PySem.F.plainAttrs_list PySem.F.slot_list_append PySem.F.type_list_append mt_append (pv 1) (pa_cons (pv 2) pa_nil))))))) (pss_one (ps_ret (pv 1)))), ?_⟩
    have hz2 : (15000001 : Nat) < sizeLine := by decide
    refine s_setN (n_lst va_nil (Nat.zero_le _)) fun o no => ?_
    refine s_forL (v_var rfl) ((same_upd no).seq hS) (fun i σ H' => ∃ x, σ = [some (.ref a), some (.ref o), x] ∧ Same H H' ∧ H' o = some (.lst (bs (Ml.esc (b.take i))))) ⟨_, rfl, same_upd no, upd_same⟩ ?_ ?_ ?_
    · rintro i σ' H' _ ⟨x, rfl, sm, _⟩
      exact sm.seq hS
    · rintro i v σ' H' hv ⟨x, rfl, sm, ho⟩
      obtain ⟨c, hc, rfl⟩ := bs_of hv
      have h1 := esc_take_len b (i + 1)
      have e1 : Ml.esc (b.take (i + 1)) = Ml.esc (b.take i) ++ esc1 c := by rw [take_more hc, esc_snoc]
      rw [e1, List.length_append] at h1
      rcases esc_look c with ⟨l1, l2⟩ | ⟨z, l1, l2⟩
      · refine s_if (b := false) (a_to (a_t (v_inI (v_var rfl) v_c)) (by rw [l1]; rfl)) nofun fun _ => ?_
        refine s_append (v_var rfl) (v_var rfl) ho (by rw [bs_len]; omega) ⟨_, rfl, fun z u hu => ?_, ?_⟩
        · rw [upd_ne (ne_none hu no)]
          exact sm _ _ hu
        · rw [upd_same, e1, l2, bs_append]
          rfl
      · refine s_if (b := true) (a_to (a_t (v_inI (v_var rfl) v_c)) (by rw [l1]; rfl)) (fun _ => ?_) nofun
        refine k_ext no sm ho (v_var rfl) (by omega) (ns_written (v_ixI2 v_c (v_var rfl) l1) l2 (Nat.le_trans (esc1_len c) (by decide))) fun H2 s2 h2 => ⟨_, rfl, s2, ?_⟩
        rw [e1]
        exact h2
    · rintro σ' H' ⟨x, rfl, sm, ho⟩
      rw [bs_len, List.take_length] at ho
      exact s_ret (v_var rfl) (q o H' sm no ho)
theorem ns_escaped {σ : L2.St} {H : Hp} {te : TE} {E : XK} {a : Addr} {b : Bytes} (h : Val te σ H (.ref a)) (ha : H a = some (.lst (bs b))) (hb : (Ml.esc b).length ≤ 15000000) : NewS (tCall (sp_escaped K) [] E (tCons te tNil)) σ H (bs (Ml.esc b)) :=
  fun Q q => k_call (ka_v h (ka_nil ⟨a, b, rfl, SqL.of ha, hb, q⟩))
/-! ### html_of -/
def sp_html_of (CE : Addr) : Sp := fun vs H Q _ => ∃ (a : Addr) (ps : List Addr) (es : List Ml.Event), vs = [.ref a] ∧ H a = some (.lst (refs ps)) ∧ AllAt (EvR CE H) ps es ∧ Fits es ∧ (Ml.html es).length ≤ 15000000 ∧
  ∀ p H', Same H H' → H p = none → H' p = some (.lst (bs (Ml.html es))) → Q (.ref p) H'
theorem ok_html_of (T : TxtMarkup K mg) : FnOk P w K mg base CX0 3 T.d_html_of.f T.d_html_of.fd ["events"] (sp_html_of T.k_Event.C) := by
  refine T.d_html_of.F.ok sc_html_of (fun vs H Q E h => ?_) (fun cdv A outer s H vs Q E hr h => ?_)
  · obtain ⟨a, ps, es, rfl, _⟩ := h
    rfl
  · obtain ⟨a, ps, es, rfl, ha, hA, hF, hz, q⟩ := h
    refine ⟨_, pss_cons (ps_set (i := 1) sc_html_of.nd rfl (.inl rfl) (pe_lst pa_nil)) (pss_cons (ps_for PassesOwn.never rfl (pi_list (pv 0)) (pg_name (i := 2) sc_html_of.nd rfl (.inl rfl)) (pss_cons (ps_expr (pe_bm PySem.F.plainAttrs_list PySem.F.slot_list_extend PySem.F.type_list_extend mt_extend (pv 1) (pa_cons (pe_call (ok_written T) (hr.mono (by decide)) (by rfl) T.d_written.g T.d_written.F.kp T.d_written.b .nil pass0 (pa_cons (pe_ix ix_tup (pe_ix ix_tup (pe_kp (by rfl) T.c_TAGS) (pe_fld (pv 2) rfl) (fun _ _ => rfl)) pe_int (fun _ _ => rfl)) pa_nil)) pa_nil))) (pss_cons (ps_if (pw_or (pt_cmpR op_eq (pe_fld (pv 2) rfl) (pe_k (by rfl) T.c_HEADING_BEGINS) (nomark _)) (pw_or1 (pt_cmpR op_eq (pe_fld (pv 2) rfl) (pe_k (by rfl) T.c_HEADING_ENDS) (nomark _)))).pt (pss_one (ps_expr (pe_bm PySem.F.plainAttrs_list PySem.F.slot_list_extend PySem.F.type_list_extend mt_extend (pv 1) (pa_cons (pe_call (ok_written T) (hr.mono (by decide)) (by rfl) T.d_written.g T.d_written.F.kp T.d_written.b .nil pass0 (pa_cons (pe_callTy call_str_int (by rfl) T.b_str (by decide +kernel) (pa_cons (pe_fld (pv 2) rfl) pa_nil)) pa_nil)) pa_nil)))) pss_nil) (pss_cons (ps_expr (pe_bm PySem.F.plainAttrs_list PySem.F.slot_list_extend PySem.F.type_list_extend mt_extend (pv 1) (pa_cons (pe_call (ok_escaped T) (hr.mono (by decide)) (by rfl) T.d_escaped.g T.d_escaped.F.kp T.d_escaped.b .nil pass0 (pa_cons (pe_fld (pv 2) rfl) pa_nil)) pa_nil))) (pss_one (ps_expr (pe_bm PySem.F.plainAttrs_list PySem.F.slot_list_extend PySem.F.type_list_extend mt_extend (pv 1) (pa_cons (pe_call (ok_written T) (hr.mono (by decide)) (by rfl) T.d_written.g T.d_written.F.kp T.d_written.b .nil pass0 (pa_cons (pe_ix ix_tup (pe_ix ix_tup (pe_kp (by rfl) T.c_TAGS) (pe_fld (pv 2) rfl) (fun _ _ => rfl)) pe_int (fun _ _ => rfl)) pa_nil)) pa_nil)))))))) (pss_one (ps_ret (pv 1)))), ?_⟩
    refine s_setN (n_lst va_nil (Nat.zero_le _)) fun o no => ?_
    refine s_forL (v_var rfl) (SqL.of (same_upd no _ _ ha)) (fun i σ H' => ∃ x, σ = [some (.ref a), some (.ref o), x] ∧ Same H H' ∧ H' o = some (.lst (bs (Ml.html (es.take i))))) ⟨_, rfl, same_upd no, upd_same⟩ ?_ ?_ ?_
    · rintro i σ' H' _ ⟨x, rfl, sm, _⟩
      exact SqL.of (sm _ _ ha)
    · rintro i v σ' H' hv ⟨x, rfl, sm, ho⟩
      obtain ⟨p, hp, rfl⟩ := refs_of hv
      obtain ⟨f, hf, hE⟩ := hA.getP hp
      obtain ⟨dx, d, g1, g2⟩ := id hE
      have fit := hF f (List.mem_of_getElem? hf)
      obtain ⟨z, z', ta, tb, t1, t2, t3, t4, t5, t6⟩ := tags_get fit.1
      obtain ⟨pr, pr1, pr2⟩ := T.c_TAGS.rows.get t1
      have hparts := html_parts fit t2
      have h1 := html_take_len es (i + 1)
      have e1 : Ml.html (es.take (i + 1)) = Ml.html (es.take i) ++ f.html := by rw [take_more hf, html_snoc]
      rw [e1, ← hparts] at h1
      simp only [List.length_append] at h1
      generalize hacc : Ml.html (es.take i) = acc at ho h1 e1
      have kd : ∀ {H' : Hp} {σ : L2.St}, Same H H' → σ[2]? = some (some (.ref p)) → Val (tFld K (tVar 2) "kind") σ H' (.int (f.kind : Int)) := fun sm hv => v_Ekind T.toTxtEvents (v_var hv) (sm _ _ g1)
      show tSeq _ _ _ [some (.ref a), some (.ref o), some (.ref p)] H'
      refine k_ext no sm ho (v_var rfl) (by omega) (ns_written (v_ixT (n := 0) (v_ixT (v_c (v := .ref T.c_TAGS.a)) (kd sm rfl) (T.c_TAGS.q _) rfl (refs_get pr1)) v_c (pr2 _) rfl rfl) t3 (by omega)) fun H2 s2 h2 => ?_
      refine s_ifJ (fun σ H3 => σ = [some (.ref a), some (.ref o), some (.ref p)] ∧ Same H H3 ∧ H3 o = some (.lst (bs (acc ++ ta ++ levelA f)))) (a_or (a_t (v_eq (kd s2 rfl) v_c)) fun _ => a_t (v_eq (kd s2 rfl) v_c)) ?_ (fun c J => ?_) fun c J => ?_
      · rintro σ H3 ⟨rfl, s3, h3⟩
        show tSeq _ _ _ [some (.ref a), some (.ref o), some (.ref p)] H3
        refine k_ext no s3 h3 (v_var rfl) ?_ (ns_escaped (v_Edata T.toTxtEvents (v_var (σ := [some (.ref a), some (.ref o), some (.ref p)]) (i := 2) rfl) (s3 _ _ g1)) (s3 _ _ g2) (by omega)) fun H4 s4 h4 => ?_
        · simp only [List.length_append]
          omega
        refine k_ext no s4 h4 (v_var rfl) ?_ (ns_written (v_ixT (n := 1) (v_ixT (v_c (v := .ref T.c_TAGS.a)) (kd s4 rfl) (T.c_TAGS.q _) rfl (refs_get pr1)) v_c (pr2 _) rfl rfl) t4 (by omega)) fun H5 s5 h5 => ?_
        · simp only [List.length_append]
          omega
        refine ⟨_, rfl, s5, ?_⟩
        rw [e1, ← hparts, h5]
        simp only [List.append_assoc]
      · have c' : f.kind = 4 ∨ f.kind = 5 := by
          rw [Bool.or_eq_true, decide_eq_true_iff, decide_eq_true_iff] at c
          omega
        have hn := fit.2.1 c'
        have el : levelA f = Ml.level f.num := if_pos c'
        have l1 : (Ml.level f.num).length = 1 := rfl
        refine k_ext no s2 h2 (v_var rfl) ?_ (ns_written (v_str (v_Enumber T.toTxtEvents (v_var rfl) (s2 _ _ g1)) ?_) (level_codes f.num hn) (by omega)) fun H3 s3 h3 => J _ _ ⟨rfl, s3, ?_⟩
        · rw [el] at h1
          simp only [List.length_append]
          omega
        · have : ((f.num : Int)).natAbs = f.num := rfl
          rw [this]
          have hlog : f.num.log2 ≤ f.num := Nat.log2_le_self _
          omega
        · rw [el]
          exact h3
      · have c' : ¬ (f.kind = 4 ∨ f.kind = 5) := by
          rw [Bool.or_eq_false_iff, decide_eq_false_iff_not, decide_eq_false_iff_not] at c
          omega
        have el : levelA f = [] := if_neg c'
        refine J _ _ ⟨rfl, s2, ?_⟩
        rw [el, List.append_nil]
        exact h2
    · rintro σ' H' ⟨x, rfl, sm, ho⟩
      rw [refs_len, hA.1, List.take_length] at ho
      exact s_ret (v_var rfl) (q o H' sm no ho)
theorem ns_html_of {σ : L2.St} {H : Hp} {te : TE} {E : XK} {CE a : Addr} {ps : List Addr} {t : Bytes} (h : Val te σ H (.ref a)) (ha : H a = some (.lst (refs ps))) (hA : AllAt (EvR CE H) ps (Ml.events t)) (hz : t.length ≤ 16384) : NewS (tCall (sp_html_of CE) [] E (tCons te tNil)) σ H (bs (Ml.html (Ml.events t))) :=
  fun Q q => k_call (ka_v h (ka_nil ⟨a, ps, Ml.events t, rfl, ha, hA, fits_events t, by have h1 := html_len (Ml.events t); have h2 := events_sz t; omega, q⟩))
end
end Mk
namespace Mk
open PySem PySem.Spec PyProof.Rows L2
/-! ### what the end finds, put together -/
def BindOk (x qual : Str) (st : Stmt) (ps : List Str) : Prop := ∀ (kV doc pm : Value) (an : Option Addr) (cdv ct : Value) (us : List Value), us.length = ps.length →
  bindArgs (PySem.W.fnOf x qual (defArgs st) (defBody st) (defScope st) .none kV doc pm an cdv ct) ⟨us, []⟩ = pure (ps.zip us)
section
variable {K : PySem.W.Frag} {mg : Str → Option Value} {h : Heap} {x qual : Str} {st : Stmt} {ps : List Str} {f C : Addr} {od an : Option Addr} {oc kV doc pm cdv ct : Value} {osl : Array (Option Value)}
@[reducible] def mkDef (X : K.In h) (G : h.Ns mainGlobals mg) (a : PySem.W.nsIn K mainGlobals x = some (some (.ref f))) (l : K.lookup f = some ⟨oc, od, .func (PySem.W.fnOf x x (defArgs st) (defBody st) (defScope st) .none kV doc pm an cdv ct), osl⟩)
    (c : PySem.W.codeIn K cdv x = true) (k : PySem.W.keepIn K (.ref f) = true) (b : BindOk x x st ps) : DefT K mg x st ps := ⟨f, _, fun_mk l c k, (fun_mk l c k).binds b, PySem.W.mg_of X G a⟩
@[reducible] def mkInit (l : K.lookup f = some ⟨oc, od, .func (PySem.W.fnOf "__init__" qual (defArgs st) (defBody st) (defScope st) .none kV doc pm an cdv ct), osl⟩)
    (c : PySem.W.codeIn K cdv qual = true) (k : PySem.W.keepIn K (.ref f) = true) (b : BindOk "__init__" qual st ps) : InitT K qual st ps := ⟨f, _, fun_mk l c k, (fun_mk l c k).binds b⟩
@[reducible] def mkCls (X : K.In h) (G : h.Ns mainGlobals mg) (a : PySem.W.nsIn K mainGlobals x = some (some (.ref C))) (pg : PySem.W.plainGet K C Str.empty = true) (hd : PySem.W.hasDictIn K C = true) (po : PySem.W.plainOver K C = true)
    (sa : PySem.W.findIn K (.ref C) "__setattr__" = some (some (.builtin "object.__setattr__"))) (mk : PySem.W.makesIn K C = true) (kc : PySem.W.keepIn K (.ref C) = true) (a1 : PySem.W.findIn K (.ref C) "__init__" = some (some (.ref f))) (i1 : PySem.W.isFn K (.ref f) = true) :
    ClsT K mg x f := ⟨C, ⟨pg, hd, po, sa⟩, PySem.W.mg_of X G a, ⟨mk, a1, i1, kc⟩⟩
@[reducible] def mkMeth (a : PySem.W.findIn K (.ref C) x = some (some (.ref f))) (i : PySem.W.isFn K (.ref f) = true) (l : K.lookup f = some ⟨oc, od, .func (PySem.W.fnOf x qual (defArgs st) (defBody st) (defScope st) .none kV doc pm an cdv ct), osl⟩)
    (c : PySem.W.codeIn K cdv qual = true) (k : PySem.W.keepIn K (.ref f) = true) (b : BindOk x qual st ps) : MethT K C x qual st ps := ⟨f, _, fun_mk l c k, (fun_mk l c k).binds b, ⟨a, i, k⟩⟩
theorem mkInt {n : Int} {t : PySem.Tok} (X : K.In h) (G : h.Ns mainGlobals mg) (a : PySem.W.nsIn K mainGlobals x = some (some (.int n t))) : IntT mg x n := ⟨t, PySem.W.mg_of X G a⟩
@[reducible] def mkTup {xs : List V} {its : Array Value} {n : Nat} (X : K.In h) (G : h.Ns mainGlobals mg) (a : PySem.W.nsIn K mainGlobals x = some (some (.ref f))) (l : K.lookup f = some ⟨.type "tuple", od, .seq its n, osl⟩) (z : its.size ≤ sizeLine) (v : Vals xs its.toList) : TupT K mg x xs :=
  ⟨f, PySem.W.mg_of X G a, fun _ => .inr ⟨_, its, n, l, rfl, rfl, z, v⟩⟩
theorem pairRow {p : Addr} {a b : Str} {its : Array Value} {n : Nat} (l : K.lookup p = some ⟨.type "tuple", od, .seq its n, osl⟩) (z : its.size ≤ sizeLine) (v : Vals [.str a, .str b] its.toList) : ∀ H : Hp, SqT K H p [.str a, .str b] :=
  fun _ => .inr ⟨_, its, n, l, rfl, rfl, z, v⟩
@[reducible] def mkPairs {ps : List Addr} {ts : List (Str × Str)} {its : Array Value} {n : Nat} (X : K.In h) (G : h.Ns mainGlobals mg) (a : PySem.W.nsIn K mainGlobals x = some (some (.ref f))) (l : K.lookup f = some ⟨.type "tuple", od, .seq its n, osl⟩) (z : its.size ≤ sizeLine) (v : Vals (refs ps) its.toList)
    (r : PairsAt K ps ts) : PairsT K mg x ts := ⟨f, PySem.W.mg_of X G a, ps, fun _ => .inr ⟨_, its, n, l, rfl, rfl, z, v⟩, r⟩
@[reducible] def mkDct {kvs : List (Int × Str)} {es : Array DictEntry} {n : Nat} (X : K.In h) (G : h.Ns mainGlobals mg) (a : PySem.W.nsIn K mainGlobals x = some (some (.ref f))) (l : K.lookup f = some ⟨.type "dict", none, .dict es n, #[]⟩) (r : Ents kvs es.toList) (o : (f == sysModules) = false) :
    DctT K mg x kvs := ⟨f, PySem.W.mg_of X G a, es, n, l, r, o⟩
theorem allNo_nil : ∀ g ∈ ([] : List Str), NoAttr K C g := nofun
theorem allNo {xs : List Str} (a : PySem.W.findIn K (.ref C) x = some none) (r : ∀ g ∈ xs, NoAttr K C g) : ∀ g ∈ x :: xs, NoAttr K C g := fun g hg => by
  rcases List.mem_cons.mp hg with z | z
  · rw [z]
    exact a
  · exact r g z
end
end Mk
namespace Mk
open PySem PySem.Spec PyProof.Rows L2
open Ml (Bytes Piece Block)
abbrev s_Session_init__ : Stmt := inClass (top 107) 0
theorem sc_Session_init__ : FnScope ["self"] ["self"] (defScope s_Session_init__) := ⟨rfl, rfl, rfl, by decide +kernel, rfl, by decide +kernel, by decide +kernel⟩
abbrev s_Session_begin : Stmt := inClass (top 107) 1
theorem sc_Session_begin : FnScope ["self"] ["self"] (defScope s_Session_begin) := ⟨rfl, rfl, rfl, by decide +kernel, rfl, by decide +kernel, by decide +kernel⟩
abbrev s_Session_feed : Stmt := inClass (top 107) 2
theorem sc_Session_feed : FnScope ["self", "piece"] ["self", "piece"] (defScope s_Session_feed) := ⟨rfl, rfl, rfl, by decide +kernel, rfl, by decide +kernel, by decide +kernel⟩
abbrev s_Session_end : Stmt := inClass (top 107) 3
theorem sc_Session_end : FnScope ["self"] ["self"] (defScope s_Session_end) := ⟨rfl, rfl, rfl, by decide +kernel, rfl, by decide +kernel, by decide +kernel⟩
abbrev s_Session_event : Stmt := inClass (top 107) 4
theorem sc_Session_event : FnScope ["self", "place"] ["self", "place"] (defScope s_Session_event) := ⟨rfl, rfl, rfl, by decide +kernel, rfl, by decide +kernel, by decide +kernel⟩
abbrev s_Session_html : Stmt := inClass (top 107) 5
theorem sc_Session_html : FnScope ["self"] ["self"] (defScope s_Session_html) := ⟨rfl, rfl, rfl, by decide +kernel, rfl, by decide +kernel, by decide +kernel⟩
structure TxtSession (K : PySem.W.Frag) (mg : Str → Option Value) extends TxtMarkup K mg where
  m_Session_init__ : InitT K "Session.__init__" s_Session_init__ ["self"]
  k_Session : ClsT K mg "Session" m_Session_init__.f
  n_Session : ∀ f ∈ (["text", "ended", "events"] : List Str), NoAttr K k_Session.C f
  m_Session_begin : MethT K k_Session.C "begin" "Session.begin" s_Session_begin ["self"]
  m_Session_feed : MethT K k_Session.C "feed" "Session.feed" s_Session_feed ["self", "piece"]
  m_Session_end : MethT K k_Session.C "end" "Session.end" s_Session_end ["self"]
  m_Session_event : MethT K k_Session.C "event" "Session.event" s_Session_event ["self", "place"]
  m_Session_html : MethT K k_Session.C "html" "Session.html" s_Session_html ["self"]
  c_LONGEST_TEXT : IntT mg "LONGEST_TEXT" 16384
  x_SE : k_Session.C ≠ k_Event.C
def sesN : List Str := ["text", "ended", "events"]
theorem sesN_nd : sesN.Nodup := by decide +kernel
/-- the session at s, its text at t -/
def SesAt (CS CE : Addr) (H : Hp) (s t : Addr) (st : Mark.State) : Prop := ∃ dx e, H s = some (.ins CS dx (sesN.zip [.ref t, .bl st.ended, .ref e])) ∧ H t = some (.lst (bs st.text)) ∧ st.text.length ≤ 16384 ∧
  (st.ended = true → ∃ ps, H e = some (.lst (refs ps)) ∧ AllAt (EvR CE H) ps (Ml.events st.text))
theorem SesAt.mono {CS CE : Addr} {H H' : Hp} {s t : Addr} {st : Mark.State} (k : Same H H') (h : SesAt CS CE H s t st) : SesAt CS CE H' s t st := by
  obtain ⟨dx, e, a, b, c, d⟩ := h
  refine ⟨dx, e, k _ _ a, k _ _ b, c, fun z => ?_⟩
  obtain ⟨ps, d1, d2⟩ := d z
  exact ⟨ps, k _ _ d1, d2.mono fun _ _ y => y.mono k⟩
/-- all stands but what is at s and at t -/
def Kept (H H' : Hp) (s t : Addr) : Prop := ∀ b o, H b = some o → b ≠ s → b ≠ t → H' b = some o
theorem Kept.same {H H' : Hp} {s t : Addr} (k : Same H H') : Kept H H' s t := fun b o h _ _ => k b o h
theorem Kept.trans {H H' H2 : Hp} {s t : Addr} (k : Kept H H' s t) (j : Same H' H2) : Kept H H2 s t := fun b o h n1 n2 => j _ _ (k b o h n1 n2)
theorem Kept.upd_s {H H' : Hp} {s t : Addr} {o : HO} (k : Kept H H' s t) : Kept H (upd H' s o) s t := fun b o h n1 n2 => by
  rw [upd_ne n1]
  exact k b o h n1 n2
theorem Kept.upd_t {H H' : Hp} {s t : Addr} {o : HO} (k : Kept H H' s t) : Kept H (upd H' t o) s t := fun b o h n1 n2 => by
  rw [upd_ne n2]
  exact k b o h n1 n2
/-- what a call is to leave -/
def Done (CS CE : Addr) (R : Addr → Prop) (H : Hp) (s t : Addr) (st : Mark.State) (ans : List Int) (Q : VK) : Prop :=
  ∀ p t' H', Kept H H' s t → H p = none → H' p = some (.lst (ans.map V.int)) → (t' = t ∨ H t' = none) → SesAt CS CE (hide H' R) s t' st → Q (.ref p) H'
section
variable {P : Program} {w : World} {K : PySem.W.Frag} {mg : Str → Option Value} {base : Heap}
section
variable {σ : L2.St} {H : Hp} {te : TE} {s dx : Addr} {t e en : V}
theorem v_Stext (T : TxtSession K mg) (h : Val te σ H (.ref s)) (ho : H s = some (.ins T.k_Session.C dx (sesN.zip [t, en, e]))) : Val (tFld K te "text") σ H t :=
  v_fld h ho T.k_Session.cl (T.n_Session _ (by decide +kernel)) (lk_zip sesN_nd (i := 0) rfl rfl)
theorem v_Sended (T : TxtSession K mg) (h : Val te σ H (.ref s)) (ho : H s = some (.ins T.k_Session.C dx (sesN.zip [t, en, e]))) : Val (tFld K te "ended") σ H en :=
  v_fld h ho T.k_Session.cl (T.n_Session _ (by decide +kernel)) (lk_zip sesN_nd (i := 1) rfl rfl)
theorem v_Sevents (T : TxtSession K mg) (h : Val te σ H (.ref s)) (ho : H s = some (.ins T.k_Session.C dx (sesN.zip [t, en, e]))) : Val (tFld K te "events") σ H e :=
  v_fld h ho T.k_Session.cl (T.n_Session _ (by decide +kernel)) (lk_zip sesN_nd (i := 2) rfl rfl)
end
/-! ### Session() -/
def sp_Session_init__ (CS CE : Addr) : Sp := fun vs H Q _ => ∃ (p dx : Addr), vs = [.ref p] ∧ H p = some (.ins CS dx []) ∧ ∀ t H', H t = none → (∀ b o, H b = some o → b ≠ p → H' b = some o) → SesAt CS CE H' p t Mark.start → Q .non H'
theorem ok_Session_init__ (T : TxtSession K mg) : FnOk P w K mg base CX0 1 T.m_Session_init__.f T.m_Session_init__.fd ["self"] (sp_Session_init__ T.k_Session.C T.k_Event.C) := by
  refine T.m_Session_init__.F.ok sc_Session_init__ (fun vs H Q E h => ?_) (fun cdv A outer s H vs Q E hr h => ?_)
  · obtain ⟨p, dx, rfl, _⟩ := h
    rfl
  · obtain ⟨p, dx, rfl, hp, q⟩ := h
    refine ⟨_, pss_cons (ps_fld (pv 0) (pe_lst pa_nil) rfl) (pss_cons (ps_fld (pv 0) pe_bl rfl) (pss_one (ps_fld (pv 0) (pe_lst pa_nil) rfl))), ?_⟩
    refine s_fldN (n_lst va_nil (Nat.zero_le _)) (fun _ _ => v_var rfl) hp T.k_Session.cl (T.n_Session _ (by decide +kernel)) (by show 0 < 1000; decide) fun t nt => ?_
    have ntp : t ≠ p := fun z => by rw [z, hp] at nt; cases nt
    refine s_fld v_c (v_var rfl) upd_same T.k_Session.cl (T.n_Session _ (by decide +kernel)) (by show 1 < 1000; decide) ?_
    rw [upd_upd]
    refine s_fldN (n_lst va_nil (Nat.zero_le _)) (fun _ _ => v_var rfl) upd_same T.k_Session.cl (T.n_Session _ (by decide +kernel)) (by show 2 < 1000; decide) fun e ne => ?_
    have nep : e ≠ p := fun z => by rw [z, upd_same] at ne; cases ne
    have net : e ≠ t := fun z => by rw [z, upd_ne ntp, upd_same] at ne; cases ne
    have neH : H e = none := by
      rw [upd_ne nep, upd_ne net] at ne
      exact ne
    refine q t _ nt (fun b o hb n1 => ?_) ⟨dx, e, upd_same, ?_, Nat.zero_le _, nofun⟩
    · rw [upd_ne n1, upd_ne (ne_none hb neH), upd_ne n1, upd_ne (ne_none hb nt)]
      exact hb
    · rw [upd_ne ntp, upd_ne net.symm, upd_ne ntp, upd_same]
      rfl
/-! ### begin -/
def sp_begin (CS CE : Addr) : Sp := fun vs H Q _ => ∃ (s t : Addr) (st : Mark.State) (R : Addr → Prop), vs = [.ref s] ∧ SesAt CS CE (hide H R) s t st ∧ Tr R H ∧ Done CS CE R H s t Mark.start [0] Q
theorem ok_Session_begin (T : TxtSession K mg) : FnOk P w K mg base CX0 1 T.m_Session_begin.f T.m_Session_begin.fd ["self"] (sp_begin T.k_Session.C T.k_Event.C) := by
  refine T.m_Session_begin.F.ok sc_Session_begin (fun vs H Q E h => ?_) (fun cdv A outer s H vs Q E hr h => ?_)
  · obtain ⟨s, t, st, R, rfl, _⟩ := h
    rfl
  · obtain ⟨p, t0, st, R, rfl, ⟨dx, e0, h1, h2, h3, h4⟩, hR, q⟩ := h
    refine ⟨_, pss_cons (ps_fld (pv 0) (pe_lst pa_nil) rfl) (pss_cons (ps_fld (pv 0) pe_bl rfl) (pss_cons (ps_fld (pv 0) (pe_lst pa_nil) rfl) (pss_one (ps_ret (pe_lst (pa_cons pe_int pa_nil)))))), ?_⟩
    obtain ⟨nRp, hp⟩ := hide_of h1
    refine s_fldN (n_lst va_nil (Nat.zero_le _)) (fun _ _ => v_var rfl) hp T.k_Session.cl (T.n_Session _ (by decide +kernel)) (by show 3 < 1000; decide) fun t nt => ?_
    rw [put_zip sesN_nd rfl (i := 0) rfl]
    have ntp : t ≠ p := fun z => by rw [z, hp] at nt; cases nt
    refine s_fld v_c (v_var rfl) upd_same T.k_Session.cl (T.n_Session _ (by decide +kernel)) (by show 3 < 1000; decide) ?_
    rw [upd_upd, put_zip sesN_nd rfl (i := 1) rfl]
    refine s_fldN (n_lst va_nil (Nat.zero_le _)) (fun _ _ => v_var rfl) upd_same T.k_Session.cl (T.n_Session _ (by decide +kernel)) (by show 3 < 1000; decide) fun e ne => ?_
    rw [put_zip sesN_nd rfl (i := 2) rfl]
    have nep : e ≠ p := fun z => by rw [z, upd_same] at ne; cases ne
    have net : e ≠ t := fun z => by rw [z, upd_ne ntp, upd_same] at ne; cases ne
    have neH : H e = none := by
      rw [upd_ne nep, upd_ne net] at ne
      exact ne
    dsimp only
    refine s_retN (n_lst (va1 v_c) (by show 1 ≤ sizeLine; decide)) fun a na => ?_
    have nap : a ≠ p := fun z => by rw [z, upd_same] at na; cases na
    have nae : a ≠ e := fun z => by rw [z, upd_ne nep, upd_same] at na; cases na
    have nat : a ≠ t := fun z => by rw [z, upd_ne ntp, upd_ne net.symm, upd_ne ntp, upd_same] at na; cases na
    have naH : H a = none := by
      rw [upd_ne nap, upd_ne nae, upd_ne nap, upd_ne nat] at na
      exact na
    refine q a t _ (fun b o hb n1 n2 => ?_) naH upd_same (.inr nt) ⟨dx, e, ?_, ?_, Nat.zero_le _, nofun⟩
    · rw [upd_ne (ne_none hb naH), upd_ne n1, upd_ne (ne_none hb neH), upd_ne n1, upd_ne (ne_none hb nt)]
      exact hb
    · refine hide_at ?_ nRp
      rw [upd_ne nap.symm, upd_same]
      rfl
    · refine hide_at ?_ (hR.not nt)
      rw [upd_ne nat.symm, upd_ne ntp, upd_ne net.symm, upd_ne ntp, upd_same]
      rfl
/-! ### feed -/
def sp_feed (CS CE : Addr) : Sp := fun vs H Q _ => ∃ (s t c : Addr) (st : Mark.State) (b : Bytes) (R : Addr → Prop), vs = [.ref s, .ref c] ∧ SesAt CS CE (hide H R) s t st ∧ Tr R H ∧ H c = some (.lst (bs b)) ∧ b.length ≤ 17000 ∧
  Done CS CE R H s t (Mark.step st (.feed b)).1 (Mark.step st (.feed b)).2 Q
theorem step_feed (st : Mark.State) (b : Bytes) : Mark.step st (.feed b) = if st.ended = true then (st, [-2]) else if Mark.LIMIT < st.text.length + b.length then (st, [-1]) else ({ st with text := st.text ++ b }, [0]) := rfl
theorem ok_Session_feed (T : TxtSession K mg) : FnOk P w K mg base CX0 1 T.m_Session_feed.f T.m_Session_feed.fd ["self", "piece"] (sp_feed T.k_Session.C T.k_Event.C) := by
  refine T.m_Session_feed.F.ok sc_Session_feed (fun vs H Q E h => ?_) (fun cdv A outer s H vs Q E hr h => ?_)
  · obtain ⟨s, t, c, st, b, R, rfl, _⟩ := h
    rfl
  · obtain ⟨p, t, c, st, b, R, rfl, hSe, hR, hc, hb, q⟩ := h
    refine ⟨_, pss_cons (ps_if (pt_val (pe_fld (pv 0) rfl)) (pss_one (ps_ret (pe_lst (pa_cons (pe_un un_neg pe_int) pa_nil)))) pss_nil) (pss_cons (ps_if (pt_cmpR op_gt (pe_op op_add (pe_callB call_len_seq (by rfl) T.b_len PySem.boot_len (pa_cons (pe_fld (pv 0) rfl) pa_nil)) (pe_callB call_len_seq (by rfl) T.b_len PySem.boot_len (pa_cons (pv 1) pa_nil))) (pe_k (by rfl) T.c_LONGEST_TEXT) (nomark _)) (pss_one (ps_ret (pe_lst (pa_cons (pe_un un_neg pe_int) pa_nil)))) pss_nil) (pss_cons (ps_expr (pe_bm PySem.F.plainAttrs_list PySem.F.slot_list_extend PySem.F.type_list_extend mt_extend (pe_fld (pv 0) rfl) (pa_cons (pv 1) pa_nil))) (pss_one (ps_ret (pe_lst (pa_cons pe_int pa_nil)))))), ?_⟩
    obtain ⟨dx, e, h1, h2, h3, h4⟩ := id hSe
    obtain ⟨nRp, hp⟩ := hide_of h1
    obtain ⟨nRt, ht⟩ := hide_of h2
    have hz : (40000 : Nat) < sizeLine := by decide
    have ref : ∀ (D : Ends) (te : TE) (x : Int), (∀ σ, Val te σ H (.int x)) → (Mark.step st (.feed b)) = (st, [x]) → D.rt = Q → tRet (tLst (tCons te tNil)) D [some (.ref p), some (.ref c)] H := by
      intro D te x hx hs hD
      rw [hs] at q
      refine s_retN (n_lst (va1 (hx _)) (by show 1 ≤ sizeLine; decide)) fun a na => ?_
      rw [hD]
      exact q a t _ (Kept.same (same_upd na)) na upd_same (.inl rfl) (hSe.mono (hide_mono (same_upd na)))
    refine s_if (a_b (v_Sended T (v_var rfl) hp)) (fun z => ?_) fun z => ?_
    · refine ref _ _ (-2) (fun _ => v_neg v_c) ?_ rfl
      rw [step_feed, if_pos z]
    refine s_if (a_t (v_gt (v_add (v_len (v_Stext T (v_var rfl) hp) (SqL.of ht)) (v_len (v_var rfl) (SqL.of hc))) v_c)) (fun y => ?_) fun y => ?_
    · refine ref _ _ (-1) (fun _ => v_neg v_c) ?_ rfl
      have y' := of_decide_eq_true y
      rw [bs_len, bs_len] at y'
      rw [step_feed, if_neg (by rw [z]; exact Bool.false_ne_true), if_pos (show Mark.LIMIT < _ by unfold Mark.LIMIT; omega)]
    · have y' := of_decide_eq_false y
      rw [bs_len, bs_len] at y'
      have hs : Mark.step st (.feed b) = ({ st with text := st.text ++ b }, [0]) := by
        rw [step_feed, if_neg (by rw [z]; exact Bool.false_ne_true), if_neg (show ¬ Mark.LIMIT < _ by unfold Mark.LIMIT; omega)]
      rw [hs] at q
      refine s_extend (v_Stext T (v_var rfl) hp) (v_var rfl) ht hc (by rw [bs_len, bs_len]; omega) ?_
      rw [← bs_append]
      have npt : p ≠ t := fun y => by rw [y, ht] at hp; cases hp
      dsimp only
      refine s_retN (n_lst (va1 v_c) (by show 1 ≤ sizeLine; decide)) fun a na => ?_
      have nat : a ≠ t := fun y => by rw [y, upd_same] at na; cases na
      have naH : H a = none := by
        rw [upd_ne nat] at na
        exact na
      have nap : a ≠ p := fun y => by rw [y, hp] at naH; cases naH
      refine q a t _ (fun b o hb n1 n2 => ?_) naH upd_same (.inl rfl) ⟨dx, e, ?_, ?_, ?_, fun y => ?_⟩
      · rw [upd_ne (ne_none hb naH), upd_ne n2]
        exact hb
      · refine hide_at ?_ nRp
        rw [upd_ne nap.symm, upd_ne npt]
        exact hp
      · refine hide_at ?_ nRt
        rw [upd_ne nat.symm, upd_same]
      · show (st.text ++ b).length ≤ _
        rw [List.length_append]
        omega
      · rw [show st.ended = true from y] at z
        cases z
/-! ### end -/
def sp_end (CS CE : Addr) : Sp := fun vs H Q _ => ∃ (s t : Addr) (st : Mark.State) (R : Addr → Prop), vs = [.ref s] ∧ SesAt CS CE (hide H R) s t st ∧ NoEv CE R H ∧ Done CS CE R H s t (Mark.step st .end_).1 (Mark.step st .end_).2 Q
theorem ok_Session_end (T : TxtSession K mg) : FnOk P w K mg base CX0 12 T.m_Session_end.f T.m_Session_end.fd ["self"] (sp_end T.k_Session.C T.k_Event.C) := by
  refine T.m_Session_end.F.ok sc_Session_end (fun vs H Q E h => ?_) (fun cdv A outer s H vs Q E hr h => ?_)
  · obtain ⟨s, t, st, R, rfl, _⟩ := h
    rfl
  · obtain ⟨p, t, st, R, rfl, hSe, hR, q⟩ := h
    refine ⟨_, pss_cons (ps_if (pt_not (pt_val (pe_fld (pv 0) rfl))) (pss_cons (ps_fld (pv 0) (pe_call (ok_events_of T.toTxtMeaning) (hr.mono (by decide)) (by rfl) T.d_events_of.g T.d_events_of.F.kp T.d_events_of.b .nil pass0 (pa_cons (pe_fld (pv 0) rfl) pa_nil)) rfl) (pss_one (ps_fld (pv 0) pe_bl rfl))) pss_nil) (pss_one (ps_ret (pe_lst (pa_cons (pe_callB call_len_seq (by rfl) T.b_len PySem.boot_len (pa_cons (pe_fld (pv 0) rfl) pa_nil)) pa_nil)))), ?_⟩
    obtain ⟨dx, e, h1, h2, h3, h4⟩ := id hSe
    obtain ⟨nRp, hp⟩ := hide_of h1
    obtain ⟨nRt, ht⟩ := hide_of h2
    have npt : p ≠ t := fun y => by rw [y, ht] at hp; cases hp
    refine s_ifJ (fun σ H1 => σ = [some (.ref p)] ∧ Kept H H1 p t ∧ ∃ e ps, H1 p = some (.ins T.k_Session.C dx (sesN.zip [.ref t, .bl true, .ref e])) ∧ H1 t = some (.lst (bs st.text)) ∧ hide H1 R e = some (.lst (refs ps)) ∧ AllAt (EvR T.k_Event.C (hide H1 R)) ps (Ml.events st.text))
      (a_not (a_b (v_Sended T (v_var rfl) hp))) ?_ (fun z J => ?_) fun z J => ?_
    · rintro σ H1 ⟨rfl, kp, e1, ps, hp1, ht1, he1, hA1⟩
      refine s_retN (n_lst (va1 (v_len (v_Sevents T (v_var rfl) hp1) (SqL.of (hide_of he1).2))) (by show 1 ≤ sizeLine; decide)) fun a na => ?_
      have s1 : Same H1 (upd H1 a (.lst [.int ((refs ps).length : Int)])) := same_upd na
      have naH : H a = none := by
        cases ha : H a with
        | none => rfl
        | some o =>
          by_cases c1 : a = p
          · rw [c1, hp1] at na
            cases na
          · by_cases c2 : a = t
            · rw [c2, ht1] at na
              cases na
            · rw [kp _ _ ha c1 c2] at na
              cases na
      refine q a t _ (kp.trans s1) naH ?_ (.inl rfl) (SesAt.mono (hide_mono s1) ⟨dx, e1, hide_at hp1 nRp, hide_at ht1 nRt, h3, fun _ => ⟨ps, he1, hA1⟩⟩)
      rw [upd_same, refs_len, hA1.1]
      rfl
    · have z' : st.ended = false := by
        cases y : st.ended with
        | false => rfl
        | true => rw [y] at z; cases z
      refine k_fld (k_call (ka_v (v_Stext T (v_var rfl) hp) (ka_nil ?_)))
      refine ⟨t, st.text, wi R p, rfl, SqL.of ht, by omega, ?_, fun L ps H1 s1 nL hL hA => ?_⟩
      · intro b hb
        rcases hb with y | y
        · exact hR b y
        · refine ⟨_, y ▸ hp, fun dx fs y => ?_⟩
          injection y with y1 _ _
          exact T.x_SE y1
      refine v_var rfl _ ⟨p, _, dx, _, rfl, s1 _ _ hp, T.k_Session.cl, T.n_Session _ (by decide +kernel), (by show 3 < 1000; decide), ?_⟩
      rw [put_zip sesN_nd rfl (i := 2) rfl]
      refine s_fld v_c (v_var rfl) upd_same T.k_Session.cl (T.n_Session _ (by decide +kernel)) (by show 3 < 1000; decide) ?_
      rw [upd_upd, put_zip sesN_nd rfl (i := 1) rfl]
      have nLp : L ≠ p := fun y => by rw [y, hp] at nL; cases nL
      refine J _ _ ⟨rfl, (Kept.same s1).upd_s, L, ps, upd_same, ?_, hide_at ?_ (hR.tr.not nL), ?_⟩
      · rw [upd_ne npt.symm]
        exact s1 _ _ ht
      · rw [upd_ne nLp]
        exact hL
      · rw [← wi_write (H := H1) (S := R) (D := p)] at hA
        exact hA.mono fun _ _ y => y.mono wi_sub
    · have z' : st.ended = true := by
        cases y : st.ended with
        | true => rfl
        | false => rw [y] at z; cases z
      obtain ⟨ps, h5, h6⟩ := h4 z'
      rw [z'] at hp
      exact J _ _ ⟨rfl, Kept.same (Same.refl _), e, ps, hp, ht, h5, h6⟩
/-! ### event -/
def sp_event (CS CE : Addr) : Sp := fun vs H Q _ => ∃ (s t : Addr) (st : Mark.State) (i : Nat) (R : Addr → Prop), vs = [.ref s, .int (i : Int)] ∧ SesAt CS CE (hide H R) s t st ∧ Tr R H ∧ Done CS CE R H s t (Mark.step st (.event i)).1 (Mark.step st (.event i)).2 Q
theorem step_event (st : Mark.State) (i : Nat) : Mark.step st (.event i) = (st, if st.ended = false then [-3] else match (Ml.events st.text)[i]? with
    | none => [-3]
    | some e => Mark.eventNums e) := rfl
theorem ok_Session_event (T : TxtSession K mg) : FnOk P w K mg base CX0 3 T.m_Session_event.f T.m_Session_event.fd ["self", "place"] (sp_event T.k_Session.C T.k_Event.C) := by
  refine T.m_Session_event.F.ok sc_Session_event (fun vs H Q E h => ?_) (fun cdv A outer s H vs Q E hr h => ?_)
  · obtain ⟨s, t, st, i, R, rfl, _⟩ := h
    rfl
  · obtain ⟨p, t, st, i, R, rfl, hSe, hR, q⟩ := h
    refine ⟨_, pss_cons (ps_if (pw_or (pt_not (pt_val (pe_fld (pv 0) rfl))) (pw_or1 (pt_cmpR op_ge (pv 1) (pe_callB call_len_seq (by rfl) T.b_len PySem.boot_len (pa_cons (pe_fld (pv 0) rfl) pa_nil)) (nomark _)))).pt (pss_one (ps_ret (pe_lst (pa_cons (pe_un un_neg pe_int) pa_nil)))) pss_nil) (pss_one (ps_ret (pe_call (ok_told_event T.toTxtTelling) (hr.mono (by decide)) (by rfl) T.d_told_event.g T.d_told_event.F.kp T.d_told_event.b .nil pass0 (pa_cons (pe_ix ix_list (pe_fld (pv 0) rfl) (pv 1) (fun _ _ => rfl)) pa_nil)))), ?_⟩
    obtain ⟨dx, e, h1, h2, h3, h4⟩ := id hSe
    obtain ⟨nRp, hp⟩ := hide_of h1
    have hz : (100000 : Nat) < sizeLine := by decide
    have ref : ∀ (D : Ends) (te : TE), (∀ σ, Val te σ H (.int (-3))) → (Mark.step st (.event i)) = (st, [-3]) → D.rt = Q → tRet (tLst (tCons te tNil)) D [some (.ref p), some (.int (i : Int)), none] H := by
      intro D te hx hs hD
      rw [hs] at q
      refine s_retN (n_lst (va1 (hx _)) (by show 1 ≤ sizeLine; decide)) fun a na => ?_
      rw [hD]
      exact q a t _ (Kept.same (same_upd na)) na upd_same (.inl rfl) (hSe.mono (hide_mono (same_upd na)))
    cases z : st.ended with
    | false =>
      rw [z] at hp
      refine s_if (b := true) (a_or (b := false) (a_not (a_b (v_Sended T (v_var rfl) hp))) nofun) (fun _ => ref _ _ (fun _ => v_neg v_c) ?_ rfl) nofun
      rw [step_event, if_pos z]
    | true =>
      obtain ⟨ps, h5, h6⟩ := h4 z
      rw [z] at hp
      have hs0 : Mark.step st (.event i) = (st, match (Ml.events st.text)[i]? with
        | none => [-3]
        | some e => Mark.eventNums e) := by
        rw [step_event, if_neg (by rw [z]; exact fun y => Bool.noConfusion y)]
      refine s_if (a_or (a_not (a_b (v_Sended T (v_var rfl) hp))) fun _ => a_t (v_ge (v_var rfl) (v_len (v_Sevents T (v_var rfl) hp) (SqL.of (hide_of h5).2)))) (fun y => ?_) fun y => ?_
      · have y' : ((refs ps).length : Int) ≤ (i : Int) := of_decide_eq_true y
        rw [refs_len, h6.1] at y'
        refine ref _ _ (fun _ => v_neg v_c) ?_ rfl
        rw [hs0, List.getElem?_eq_none (by omega)]
      · have y' : ¬ ((refs ps).length : Int) ≤ (i : Int) := of_decide_eq_false y
        rw [refs_len, h6.1] at y'
        obtain ⟨f, hf, _⟩ := drop_lt (l := Ml.events st.text) (i := i) (by omega)
        obtain ⟨ep, hep, edx, ed, g1, g2⟩ := h6.get hf
        rw [hs0, hf] at q
        have hfl := events_mem (List.mem_of_getElem? hf)
        unfold tNext
        dsimp only
        refine k_ret (ns_told_event (v_ix (v_Sevents T (v_var rfl) hp) (v_var rfl) (SqL.of (hide_of h5).2) rfl (refs_get hep)) (EvR.mono hide_same ⟨edx, ed, g1, g2⟩) (by omega) _ fun b H2 s2 nb hb => ?_)
        exact q b t _ (Kept.same s2) nb hb (.inl rfl) (hSe.mono (hide_mono s2))
/-! ### html -/
def sp_html (CS CE : Addr) : Sp := fun vs H Q _ => ∃ (s t : Addr) (st : Mark.State) (R : Addr → Prop), vs = [.ref s] ∧ SesAt CS CE (hide H R) s t st ∧ Tr R H ∧ Done CS CE R H s t (Mark.step st .html).1 (Mark.step st .html).2 Q
theorem step_html (st : Mark.State) : Mark.step st .html = (st, if st.ended = false then [-3] else Mark.bytes (Ml.html (Ml.events st.text))) := rfl
theorem ok_Session_html (T : TxtSession K mg) : FnOk P w K mg base CX0 4 T.m_Session_html.f T.m_Session_html.fd ["self"] (sp_html T.k_Session.C T.k_Event.C) := by
  refine T.m_Session_html.F.ok sc_Session_html (fun vs H Q E h => ?_) (fun cdv A outer s H vs Q E hr h => ?_)
  · obtain ⟨s, t, st, R, rfl, _⟩ := h
    rfl
  · obtain ⟨p, t, st, R, rfl, hSe, hR, q⟩ := h
    refine ⟨_, pss_cons (ps_if (pt_not (pt_val (pe_fld (pv 0) rfl))) (pss_one (ps_ret (pe_lst (pa_cons (pe_un un_neg pe_int) pa_nil)))) pss_nil) (pss_one (ps_ret (pe_call (ok_told_bytes T.toTxtTelling) (hr.mono (by decide)) (by rfl) T.d_told_bytes.g T.d_told_bytes.F.kp T.d_told_bytes.b .nil pass0 (pa_cons (pe_call (ok_html_of T.toTxtMarkup) (hr.mono (by decide)) (by rfl) T.d_html_of.g T.d_html_of.F.kp T.d_html_of.b .nil pass0 (pa_cons (pe_fld (pv 0) rfl) pa_nil)) pa_nil)))), ?_⟩
    obtain ⟨dx, e, h1, h2, h3, h4⟩ := id hSe
    obtain ⟨nRp, hp⟩ := hide_of h1
    rw [step_html] at q
    cases z : st.ended with
    | false =>
      rw [if_pos z] at q
      rw [z] at hp
      refine s_if (b := true) (a_not (a_b (v_Sended T (v_var rfl) hp))) (fun _ => ?_) nofun
      refine s_retN (n_lst (va1 (v_neg v_c)) (by show 1 ≤ sizeLine; decide)) fun a na => ?_
      exact q a t _ (Kept.same (same_upd na)) na upd_same (.inl rfl) (hSe.mono (hide_mono (same_upd na)))
    | true =>
      rw [if_neg (by rw [z]; exact fun y => Bool.noConfusion y)] at q
      obtain ⟨ps, h5, h6⟩ := h4 z
      rw [z] at hp
      refine s_if (b := false) (a_not (a_b (v_Sended T (v_var rfl) hp))) nofun fun _ => ?_
      unfold tNext
      dsimp only
      have hlen : (Ml.html (Ml.events st.text)).length ≤ 15000000 := by
        have k1 := html_len (Ml.events st.text)
        have k2 := events_sz st.text
        omega
      refine k_ret (k_call (ka (ns_html_of (v_Sevents T (v_var rfl) hp) (hide_of h5).2 (h6.mono fun _ _ y => y.mono hide_same) h3 _ fun a H2 s2 na ha => ka_nil ?_)))
      refine ⟨a, _, rfl, ha, by omega, fun b H3 s3 nb hb => ?_⟩
      have sm := s2.trans s3
      exact q b t _ (Kept.same sm) (Same.none s2 nb) hb (.inl rfl) (hSe.mono (hide_mono sm))
end
end Mk
namespace Mk
open PySem PySem.Spec PyProof.Rows L2
open Ml (Bytes Piece Block)
abbrev s_answers : Stmt := top 117
theorem sc_answers : FnScope ["calls", "session", "answered", "at", "end", "numbers"] ["calls"] (defScope s_answers) := ⟨rfl, rfl, rfl, by decide +kernel, rfl, by decide +kernel, by decide +kernel⟩
abbrev s_call_end : Stmt := top 118
theorem sc_call_end : FnScope ["calls", "at"] ["calls", "at"] (defScope s_call_end) := ⟨rfl, rfl, rfl, by decide +kernel, rfl, by decide +kernel, by decide +kernel⟩
abbrev s_answer : Stmt := top 119
theorem sc_answer : FnScope ["session", "call"] ["session", "call"] (defScope s_answer) := ⟨rfl, rfl, rfl, by decide +kernel, rfl, by decide +kernel, by decide +kernel⟩
structure TxtNotes (K : PySem.W.Frag) (mg : Str → Option Value) extends TxtSession K mg where
  d_answers : DefT K mg "answers" s_answers ["calls"]
  d_call_end : DefT K mg "call_end" s_call_end ["calls", "at"]
  d_answer : DefT K mg "answer" s_answer ["session", "call"]
  c_BEGIN : IntT mg "BEGIN" 1
  c_FEED : IntT mg "FEED" 2
  c_END : IntT mg "END" 3
  c_EVENT : IntT mg "EVENT" 4
  c_HTML : IntT mg "HTML" 5
  c_ALL : IntT mg "ALL" 6
  c_LINES : IntT mg "LINES" 7
section
variable {P : Program} {w : World} {K : PySem.W.Frag} {mg : Str → Option Value} {base : Heap}
/-! ### call_end -/
def sp_call_end (K : PySem.W.Frag) : Sp := fun vs H Q _ => ∃ (a : Addr) (l rest : List Int) (i : Nat) (m : Mark.Call), vs = [.ref a, .int (i : Int)] ∧ SqL K H a (l.map V.int) ∧ l.drop i = flatM m ++ rest ∧ ∀ H', Same H H' → Q (.int ((i + (flatM m).length : Nat) : Int)) H'
theorem get_of_drop {l a r : List Int} {i : Nat} {k : Nat} {x : Int} (h : l.drop i = a ++ r) (hx : a[k]? = some x) : (l.map V.int)[i + k]? = some (.int x) := by
  have hk : k < a.length := (List.getElem?_eq_some_iff.mp hx).1
  have e : l[i + k]? = some x := by
    rw [← List.getElem?_drop, h, List.getElem?_append_left hk]
    exact hx
  rw [List.getElem?_map, e]
  rfl
theorem s_ifIn {σ : L2.St} {H : Hp} {D : Ends} {ta : TE} {tc : TA} {t1 t2 : TS} {k : Int} {xs : List V} {b : Bool} (ha : Val ta σ H (.int k)) (hc : VA tc σ H xs) (hf : xs.all flatV = true) (hz : xs.length ≤ sizeLine) (hb : inV (.int k) xs = b)
    (h1 : b = true → ∀ H', Same H H' → t1 D σ H') (h2 : b = false → ∀ H', Same H H' → t2 D σ H') : tIfS (tTest (tOp (rIn K false) ta (tTup tc))) t1 t2 D σ H := by
  refine ha _ (hc _ ⟨hz, fun p np => ⟨p, xs, rfl, .inr (SqT.of upd_same), rfl, hf, _, rfl, ?_⟩⟩)
  rw [if_neg Bool.false_ne_true, hb]
  have s1 : Same H (upd H p (.tup xs)) := same_upd np
  cases b with
  | false => exact (by dsimp only; rw [if_neg Bool.false_ne_true]; exact h2 rfl _ s1)
  | true => exact (by dsimp only; rw [if_pos rfl]; exact h1 rfl _ s1)
theorem in3 (i a b c : Int) : inV (.int i) [.int a, .int b, .int c] = (a == i || (b == i || (c == i || false))) := rfl
theorem ok_call_end (T : TxtNotes K mg) : FnOk P w K mg base CX0 1 T.d_call_end.f T.d_call_end.fd ["calls", "at"] (sp_call_end K) := by
  refine T.d_call_end.F.ok sc_call_end (fun vs H Q E h => ?_) (fun cdv A outer s H vs Q E hr h => ?_)
  · obtain ⟨a, l, rest, i, m, rfl, _⟩ := h
    rfl
  · obtain ⟨a, l, rest, i, m, rfl, hS, hd, q⟩ := h
    refine ⟨_, pss_cons (ps_if (pt_cmpR op_in_seq (pe_ix ix_list (pv 0) (pv 1) (fun _ _ => rfl)) (pe_tup (pa_cons (pe_k (by rfl) T.c_FEED) (pa_cons (pe_k (by rfl) T.c_ALL) (pa_cons (pe_k (by rfl) T.c_LINES) pa_nil)))) (by with_unfolding_all rfl)) (pss_one (ps_ret (pe_op op_add (pe_op op_add (pv 1) pe_int) (pe_ix ix_list (pv 0) (pe_op op_add (pv 1) pe_int) (fun _ _ => rfl))))) pss_nil) (pss_cons (ps_if (pt_cmpR op_eq (pe_ix ix_list (pv 0) (pv 1) (fun _ _ => rfl)) (pe_k (by rfl) T.c_EVENT) (nomark _)) (pss_one (ps_ret (pe_op op_add (pv 1) pe_int))) pss_nil) (pss_one (ps_ret (pe_op op_add (pv 1) pe_int)))), ?_⟩
    have first : ∀ {k : Int}, (flatM m)[0]? = some k → (l.map V.int)[i]? = some (.int k) := fun h => get_of_drop hd h
    have out : ∀ {n : Nat} {H' : Hp} {te : TE} {D : Ends} {σ : L2.St}, Same H H' → Val te σ H' (.int ((i + n : Nat) : Int)) → (flatM m).length = n → D.rt = Q → tRet te D σ H' := fun sm hv hn hD => by
      refine s_ret hv ?_
      rw [hD, ← hn]
      exact q _ sm
    have hbl : ∀ t : Bytes, (byteInts t).length = t.length := fun t => List.length_map _
    -- a call without numbers of its own
    have one : ∀ {k : Int}, flatM m = [k] → inV (.int k) [.int 2, .int 6, .int 7] = false → k ≠ 4 → tSeq (tIfS (tTest (tOp (rIn K false) (tOp (rIxL K) (tVar 0) (tVar 1)) (tTup (tCons (tC (.int 2)) (tCons (tC (.int 6)) (tCons (tC (.int 7)) tNil))))))
        (tRet (tOp (rI0 fun i j => .int (i + j)) (tOp (rI0 fun i j => .int (i + j)) (tVar 1) (tC (.int 2))) (tOp (rIxL K) (tVar 0) (tOp (rI0 fun i j => .int (i + j)) (tVar 1) (tC (.int 1)))))) tNext)
        (tSeq (tIfS (tTest (tOp rEq (tOp (rIxL K) (tVar 0) (tVar 1)) (tC (.int 4)))) (tRet (tOp (rI0 fun i j => .int (i + j)) (tVar 1) (tC (.int 2)))) tNext) (tRet (tOp (rI0 fun i j => .int (i + j)) (tVar 1) (tC (.int 1)))))
        { nx := fun x H' => Q .non H', rt := Q } [some (.ref a), some (.int (i : Int))] H := fun hf hi h4 => by
      have hk := first (by rw [hf]; rfl)
      refine s_ifIn (v_ix (v_var rfl) (v_var rfl) hS rfl hk) (va_cons v_c (va_cons v_c (va1 v_c))) rfl (by show 3 ≤ sizeLine; decide) hi nofun fun _ H1 s1 => ?_
      refine s_if (b := false) (a_to (a_t (v_eq (v_ix (v_var rfl) (v_var rfl) (s1.seq hS) rfl hk) v_c)) (decide_eq_false h4)) nofun fun _ => ?_
      unfold tNext
      dsimp only
      refine out (n := 1) s1 (v_to (v_add (v_var rfl) v_c) rfl) ?_ rfl
      rw [hf]
      rfl
    have rows : ∀ {k : Int} {t : Bytes}, flatM m = k :: (t.length : Int) :: byteInts t → inV (.int k) [.int 2, .int 6, .int 7] = true → tSeq (tIfS (tTest (tOp (rIn K false) (tOp (rIxL K) (tVar 0) (tVar 1)) (tTup (tCons (tC (.int 2)) (tCons (tC (.int 6)) (tCons (tC (.int 7)) tNil))))))
        (tRet (tOp (rI0 fun i j => .int (i + j)) (tOp (rI0 fun i j => .int (i + j)) (tVar 1) (tC (.int 2))) (tOp (rIxL K) (tVar 0) (tOp (rI0 fun i j => .int (i + j)) (tVar 1) (tC (.int 1)))))) tNext)
        (tSeq (tIfS (tTest (tOp rEq (tOp (rIxL K) (tVar 0) (tVar 1)) (tC (.int 4)))) (tRet (tOp (rI0 fun i j => .int (i + j)) (tVar 1) (tC (.int 2)))) tNext) (tRet (tOp (rI0 fun i j => .int (i + j)) (tVar 1) (tC (.int 1)))))
        { nx := fun x H' => Q .non H', rt := Q } [some (.ref a), some (.int (i : Int))] H := fun {k t} hf hi => by
      have hk := first (by rw [hf]; rfl)
      have hl : (l.map V.int)[i + 1]? = some (.int (t.length : Int)) := get_of_drop hd (by rw [hf]; rfl)
      refine s_ifIn (v_ix (v_var rfl) (v_var rfl) hS rfl hk) (va_cons v_c (va_cons v_c (va1 v_c))) rfl (by show 3 ≤ sizeLine; decide) hi (fun _ H1 s1 => ?_) nofun
      refine out (n := 2 + t.length) s1 (v_to (v_add (v_add (v_var rfl) v_c) (v_ix (n := i + 1) (v_var rfl) (v_add (v_var rfl) v_c) (s1.seq hS) rfl hl)) ?_) ?_ rfl
      · congr 1
        omega
      · rw [hf, List.length_cons, List.length_cons, hbl]
        omega
    cases m with
    | begin_ => exact one rfl rfl (by decide)
    | feed t => exact rows rfl rfl
    | end_ => exact one rfl rfl (by decide)
    | event k =>
      have hk := first rfl
      refine s_ifIn (v_ix (v_var rfl) (v_var rfl) hS rfl hk) (va_cons v_c (va_cons v_c (va1 v_c))) rfl (by show 3 ≤ sizeLine; decide) rfl nofun fun _ H1 s1 => ?_
      refine s_if (b := true) (a_to (a_t (v_eq (v_ix (v_var rfl) (v_var rfl) (s1.seq hS) rfl hk) v_c)) rfl) (fun _ => ?_) nofun
      refine out (n := 2) s1 (v_to (v_add (v_var rfl) v_c) rfl) rfl rfl
    | html => exact one rfl rfl (by decide)
    | all t => exact rows rfl rfl
    | lines t => exact rows rfl rfl
theorem ce_ok {H : Hp} {E : XK} {Q : VK} {a : Addr} {l rest : List Int} {i : Nat} {m : Mark.Call} (hS : SqL K H a (l.map V.int)) (hd : l.drop i = flatM m ++ rest) (q : ∀ H', Same H H' → Q (.int ((i + (flatM m).length : Nat) : Int)) H') : sp_call_end K [.ref a, .int (i : Int)] H Q E := ⟨a, l, rest, i, m, rfl, hS, hd, q⟩
/-! ### answer -/
def sp_answer (CS CE : Addr) : Sp := fun vs H Q _ => ∃ (s t c : Addr) (st : Mark.State) (m : Mark.Call) (R : Addr → Prop), vs = [.ref s, .ref c] ∧ SesAt CS CE (hide H R) s t st ∧ NoEv CE R H ∧ H c = some (.lst ((flatM m).map V.int)) ∧ okM m ∧
  Done CS CE R H s t (Mark.step st m).1 (Mark.step st m).2 Q
theorem Done.from {CS CE : Addr} {R : Addr → Prop} {H H1 : Hp} {s t : Addr} {st : Mark.State} {ans : List Int} {Q : VK} (s1 : Same H H1) (q : Done CS CE R H s t st ans Q) : Done CS CE R H1 s t st ans Q :=
  fun p t' H' k np hp ht hs => q p t' H' (fun b o hb n1 n2 => k b o (s1 _ _ hb) n1 n2) (Same.none s1 np) hp (ht.imp id fun z => Same.none s1 z) hs
theorem flat_cut {k : Int} (t : Bytes) : cutV ((k :: (t.length : Int) :: byteInts t).map V.int) (some 2) none = bs t := by
  have e := cut_n ((k :: (t.length : Int) :: byteInts t).map V.int) 2 (by rw [List.length_map]; exact Nat.le_add_left 2 _)
  rw [← byteInts_bs]
  exact e
theorem sesN_no {f : Str} {vs : List V} (h : f ∉ sesN) : (sesN.zip vs).lookup f = none := lk_no h
theorem ok_answer (T : TxtNotes K mg) : FnOk P w K mg base CX0 13 T.d_answer.f T.d_answer.fd ["session", "call"] (sp_answer T.k_Session.C T.k_Event.C) := by
  refine T.d_answer.F.ok sc_answer (fun vs H Q E h => ?_) (fun cdv A outer s H vs Q E hr h => ?_)
  · obtain ⟨s, t, c, st, m, R, rfl, _⟩ := h
    rfl
  · obtain ⟨p, t, c, st, m, R, rfl, hSe, hR, hc, hm, q⟩ := h
    refine ⟨_, pss_cons (ps_if (pt_cmpR op_eq (pe_ix ix_list (pv 1) pe_int (fun _ _ => rfl)) (pe_k (by rfl) T.c_BEGIN) (nomark _)) (pss_one (ps_ret (pe_meth0 (pv 0) T.k_Session.cl T.m_Session_begin.m (ok_Session_begin T.toTxtSession) (hr.mono (by decide)) T.m_Session_begin.b .nil pass0))) pss_nil) (pss_cons (ps_if (pt_cmpR op_eq (pe_ix ix_list (pv 1) pe_int (fun _ _ => rfl)) (pe_k (by rfl) T.c_FEED) (nomark _)) (pss_one (ps_ret (pe_meth (pv 0) T.k_Session.cl T.m_Session_feed.m (ok_Session_feed T.toTxtSession) (hr.mono (by decide)) T.m_Session_feed.b .nil pass0 (pa_cons (pe_slice sl_list (pv 1) (po_some pe_int) po_none) pa_nil)))) pss_nil) (pss_cons (ps_if (pt_cmpR op_eq (pe_ix ix_list (pv 1) pe_int (fun _ _ => rfl)) (pe_k (by rfl) T.c_END) (nomark _)) (pss_one (ps_ret (pe_meth0 (pv 0) T.k_Session.cl T.m_Session_end.m (ok_Session_end T.toTxtSession) (hr.mono (by decide)) T.m_Session_end.b .nil pass0))) pss_nil) (pss_cons (ps_if (pt_cmpR op_eq (pe_ix ix_list (pv 1) pe_int (fun _ _ => rfl)) (pe_k (by rfl) T.c_EVENT) (nomark _)) (pss_one (ps_ret (pe_meth (pv 0) T.k_Session.cl T.m_Session_event.m (ok_Session_event T.toTxtSession) (hr.mono (by decide)) T.m_Session_event.b .nil pass0 (pa_cons (pe_ix ix_list (pv 1) pe_int (fun _ _ => rfl)) pa_nil)))) pss_nil) (pss_cons (ps_if (pt_cmpR op_eq (pe_ix ix_list (pv 1) pe_int (fun _ _ => rfl)) (pe_k (by rfl) T.c_HTML) (nomark _)) (pss_one (ps_ret (pe_meth0 (pv 0) T.k_Session.cl T.m_Session_html.m (ok_Session_html T.toTxtSession) (hr.mono (by decide)) T.m_Session_html.b .nil pass0))) pss_nil) (pss_cons (ps_if (pt_cmpR op_eq (pe_ix ix_list (pv 1) pe_int (fun _ _ => rfl)) (pe_k (by rfl) T.c_ALL) (nomark _)) (pss_one (ps_ret (pe_call (ok_all_events T.toTxtAlone) (hr.mono (by decide)) (by rfl) T.d_all_events.g T.d_all_events.F.kp T.d_all_events.b .nil pass0 (pa_cons (pe_slice sl_list (pv 1) (po_some pe_int) po_none) pa_nil)))) pss_nil) (pss_cons (ps_if (pt_cmpR op_eq (pe_ix ix_list (pv 1) pe_int (fun _ _ => rfl)) (pe_k (by rfl) T.c_LINES) (nomark _)) (pss_one (ps_ret (pe_call (ok_all_lines T.toTxtAlone) (hr.mono (by decide)) (by rfl) T.d_all_lines.g T.d_all_lines.F.kp T.d_all_lines.b .nil pass0 (pa_cons (pe_slice sl_list (pv 1) (po_some pe_int) po_none) pa_nil)))) pss_nil) (pss_one ps_never))))))), ?_⟩
    obtain ⟨dx, e, h1, h2, h3, h4⟩ := id hSe
    obtain ⟨nRp, hp⟩ := hide_of h1
    have hcS : SqL K H c ((flatM m).map V.int) := SqL.of hc
    have tst : ∀ {n k : Int} {σ : L2.St} {b : Bool}, σ[1]? = some (some (.ref c)) → ((flatM m).map V.int)[0]? = some (.int n) → decide (n = k) = b → Ans (tTest (tOp rEq (tOp (rIxL K) (tVar 1) (tC (.int 0))) (tC (.int k)))) σ H b := fun hv hn hb =>
      a_to (a_t (v_eq (v_ix (n := 0) (v_var hv) v_c hcS rfl hn) v_c)) hb
    have sl : ∀ {k : Int} {t : Bytes}, flatM m = k :: (t.length : Int) :: byteInts t → New (tSl (rSlL K) (tVar 1) (tPart (tC (.int 2))) tNoPart) [some (.ref p), some (.ref c)] H (bs t) := fun {k t} hf => by
      refine (n_cut (v_var rfl) (o_some v_c) o_none hcS).to ?_
      rw [hf]
      exact flat_cut t
    cases m with
    | begin_ =>
      refine s_if (tst rfl rfl rfl) (fun _ => ?_) nofun
      exact k_ret (k_meth (v_var rfl) hp (sesN_no (by decide +kernel)) (ka_nil ⟨p, t, st, R, rfl, hSe, hR.tr, q⟩))
    | feed b =>
      refine s_if (tst rfl rfl rfl) nofun fun _ => ?_
      refine s_if (tst rfl rfl rfl) (fun _ => ?_) nofun
      refine k_ret (k_meth (v_var rfl) hp (sesN_no (by decide +kernel)) (ka_n (sl rfl) fun d nd => ka_nil ?_))
      have s1 : Same H (upd H d (.lst (bs b))) := same_upd nd
      exact ⟨p, t, d, st, b, R, rfl, hSe.mono (hide_mono s1), hR.tr.mono s1, upd_same, hm, q.from s1⟩
    | end_ =>
      refine s_if (tst rfl rfl rfl) nofun fun _ => ?_
      refine s_if (tst rfl rfl rfl) nofun fun _ => ?_
      refine s_if (tst rfl rfl rfl) (fun _ => ?_) nofun
      exact k_ret (k_meth (v_var rfl) hp (sesN_no (by decide +kernel)) (ka_nil ⟨p, t, st, R, rfl, hSe, hR, q⟩))
    | event i =>
      refine s_if (tst rfl rfl rfl) nofun fun _ => ?_
      refine s_if (tst rfl rfl rfl) nofun fun _ => ?_
      refine s_if (tst rfl rfl rfl) nofun fun _ => ?_
      refine s_if (tst rfl rfl rfl) (fun _ => ?_) nofun
      exact k_ret (k_meth (v_var rfl) hp (sesN_no (by decide +kernel)) (ka_v (v_ix (n := 1) (v_var rfl) v_c hcS rfl rfl) (ka_nil ⟨p, t, st, i, R, rfl, hSe, hR.tr, q⟩)))
    | html =>
      refine s_if (tst rfl rfl rfl) nofun fun _ => ?_
      refine s_if (tst rfl rfl rfl) nofun fun _ => ?_
      refine s_if (tst rfl rfl rfl) nofun fun _ => ?_
      refine s_if (tst rfl rfl rfl) nofun fun _ => ?_
      refine s_if (tst rfl rfl rfl) (fun _ => ?_) nofun
      exact k_ret (k_meth (v_var rfl) hp (sesN_no (by decide +kernel)) (ka_nil ⟨p, t, st, R, rfl, hSe, hR.tr, q⟩))
    | all b =>
      refine s_if (tst rfl rfl rfl) nofun fun _ => ?_
      refine s_if (tst rfl rfl rfl) nofun fun _ => ?_
      refine s_if (tst rfl rfl rfl) nofun fun _ => ?_
      refine s_if (tst rfl rfl rfl) nofun fun _ => ?_
      refine s_if (tst rfl rfl rfl) nofun fun _ => ?_
      refine s_if (tst rfl rfl rfl) (fun _ => ?_) nofun
      refine k_ret (k_call (ka_n (sl rfl) fun d nd => ka_nil ?_))
      have s1 : Same H (upd H d (.lst (bs b))) := same_upd nd
      refine ns_all (σ := []) upd_same hm fun y H' s2 ny hy => ?_
      rw [step_all] at q
      have s3 := s1.trans s2
      exact q y t H' (Kept.same s3) (Same.none s1 ny) hy (.inl rfl) (hSe.mono (hide_mono s3))
    | lines b =>
      refine s_if (tst rfl rfl rfl) nofun fun _ => ?_
      refine s_if (tst rfl rfl rfl) nofun fun _ => ?_
      refine s_if (tst rfl rfl rfl) nofun fun _ => ?_
      refine s_if (tst rfl rfl rfl) nofun fun _ => ?_
      refine s_if (tst rfl rfl rfl) nofun fun _ => ?_
      refine s_if (tst rfl rfl rfl) nofun fun _ => ?_
      refine s_if (tst rfl rfl rfl) (fun _ => ?_) nofun
      refine k_ret (k_call (ka_n (sl rfl) fun d nd => ka_nil ?_))
      have s1 : Same H (upd H d (.lst (bs b))) := same_upd nd
      refine ns_lines (σ := []) upd_same hm fun y H' s2 ny hy => ?_
      rw [step_lines] at q
      have s3 := s1.trans s2
      exact q y t H' (Kept.same s3) (Same.none s1 ny) hy (.inl rfl) (hSe.mono (hide_mono s3))
/-! ### answers -/
def stM (cs : List Mark.Call) : Mark.State := cs.foldl (fun s c => (Mark.step s c).1) Mark.start
theorem stM_snoc (cs : List Mark.Call) (m : Mark.Call) : stM (cs ++ [m]) = (Mark.step (stM cs) m).1 := by
  unfold stM
  rw [List.foldl_append]
  rfl
def toldM (cs : List Mark.Call) : List Int := PyFlat.told (playedM Mark.start cs)
theorem toldM_snoc (cs : List Mark.Call) (m : Mark.Call) : toldM (cs ++ [m]) = toldM cs ++ (((Mark.step (stM cs) m).2.length : Int) :: (Mark.step (stM cs) m).2) := by
  unfold toldM
  rw [playedM_append, told_append]
  congr 1
  exact told_one _
theorem toldM_le (a b : List Mark.Call) : (toldM a).length ≤ (toldM (a ++ b)).length := by
  unfold toldM
  rw [playedM_append, told_append, List.length_append]
  omega
theorem flatM_pos (m : Mark.Call) : 0 < (flatM m).length := by
  cases m <;> exact Nat.zero_lt_succ _
def spAns (K : PySem.W.Frag) : Sp := fun vs H Q _ => ∃ (a : Addr) (ns : List Int), vs = [.ref a] ∧ SqL K H a (ns.map V.int) ∧ ns.length ≤ 31000 ∧ PyWqagaf.answers_asked ns = true ∧
  ∀ (H' : Hp) (p : Addr), H' p = some (.lst ((PyWqagaf.answers ns).map V.int)) → Q (.ref p) H'
theorem ok_answers (T : TxtNotes K mg) : FnOk P w K mg base CX0 14 T.d_answers.f T.d_answers.fd ["calls"] (spAns K) := by
  refine T.d_answers.F.ok sc_answers (fun vs H Q E h => ?_) (fun cdv A outer s H vs Q E hr h => ?_)
  · obtain ⟨a, ns, rfl, _⟩ := h
    rfl
  · obtain ⟨a, ns, rfl, hS, hn, hask, q⟩ := h
    refine ⟨_, pss_cons (ps_set (i := 1) sc_answers.nd rfl (.inl rfl) (pe_make0 T.k_Session.made (ok_Session_init__ T.toTxtSession) (hr.mono (by decide)) (by rfl) T.k_Session.g T.m_Session_init__.b .nil pass0)) (pss_cons (ps_set (i := 2) sc_answers.nd rfl (.inl rfl) (pe_lst pa_nil)) (pss_cons (ps_set (i := 3) sc_answers.nd rfl (.inl rfl) pe_int) (pss_cons (ps_while PassesOwn.never (pt_cmpR op_lt (pv 3) (pe_callB call_len_seq (by rfl) T.b_len PySem.boot_len (pa_cons (pv 0) pa_nil)) (nomark _)) (pss_cons (ps_set (i := 4) sc_answers.nd rfl (.inl rfl) (pe_call (ok_call_end T) (hr.mono (by decide)) (by rfl) T.d_call_end.g T.d_call_end.F.kp T.d_call_end.b .nil pass0 (pa_cons (pv 0) (pa_cons (pv 3) pa_nil)))) (pss_cons (ps_set (i := 5) sc_answers.nd rfl (.inl rfl) (pe_call (ok_answer T) (hr.mono (by decide)) (by rfl) T.d_answer.g T.d_answer.F.kp T.d_answer.b .nil pass0 (pa_cons (pv 1) (pa_cons (pe_slice sl_list (pv 0) (po_some (pv 3)) (po_some (pv 4))) pa_nil)))) (pss_cons (ps_expr (pe_bm PySem.F.plainAttrs_list PySem.F.slot_list_append PySem.F.type_list_append mt_append (pv 2) (pa_cons (pe_callB call_len_seq (by rfl) T.b_len PySem.boot_len (pa_cons (pv 5) pa_nil)) pa_nil))) (pss_cons (ps_expr (pe_bm PySem.F.plainAttrs_list PySem.F.slot_list_extend PySem.F.type_list_extend mt_extend (pv 2) (pa_cons (pv 5) pa_nil))) (pss_one (ps_set (i := 3) sc_answers.nd rfl (.inl rfl) (pv 4)))))))) (pss_one (ps_ret (pv 2)))))), ?_⟩
    have hz : (10000000 : Nat) < sizeLine := by decide
    obtain ⟨cs, rfl, hok, hans, hlen⟩ := asked_inv hask
    rw [hans] at q
    have hlen' : (toldM cs).length ≤ 10000000 := hlen
    refine k_set (k_mk (ka_nil fun x dx nx ndx ne => ?_))
    refine ⟨x, dx, rfl, upd_same, fun t H1 nt kp hSe => ⟨rfl, ?_⟩⟩
    have s1 : Same H H1 := fun b o hb => kp _ _ (by rw [upd_ne (ne_none hb nx), upd_ne (ne_none hb ndx)]; exact hb) (ne_none hb nx)
    have ntH : H t = none := by
      cases ht : H t with
      | none => rfl
      | some o =>
        have e1 : t ≠ x := ne_none ht nx
        have e2 : t ≠ dx := ne_none ht ndx
        rw [upd_ne e1, upd_ne e2, ht] at nt
        cases nt
    refine s_setN (n_lst va_nil (Nat.zero_le _)) fun r nr => ?_
    have nrH := Same.none s1 nr
    have s2 : Same H1 (upd H1 r (.lst [])) := same_upd nr
    refine s_set v_c ?_
    refine s_while (fun m σ H' => ∃ (done rest : List Mark.Call) (t : Addr) (y z : Option V), cs = done ++ rest ∧ m = rest.length ∧ σ = [some (.ref a), some (.ref x), some (.ref r), some (.int ((done.flatMap flatM).length : Int)), y, z] ∧ Same H H' ∧
      H' r = some (.lst ((toldM done).map V.int)) ∧ SesAt T.k_Session.C T.k_Event.C (hide H' fun b => b = r) x t (stM done) ∧ H t = none) cs.length ⟨[], cs, t, _, _, rfl, rfl, rfl, s1.trans s2, upd_same, ?_, ntH⟩ ?_
    · exact hSe.mono fun b o hb => hide_at (s2 _ _ hb) (ne_none hb nr)
    · rintro m σ H' ⟨done, rest, t', y, z, rfl, rfl, rfl, sm, hr', hSe', nt'⟩
      cases rest with
      | nil =>
        refine ⟨false, a_to (a_t (v_lt (v_var rfl) (v_len (v_var rfl) (sm.seq hS)))) (decide_eq_false ?_), nofun, fun _ => ?_⟩
        · rw [List.length_map, List.append_nil]
          omega
        · refine s_ret (v_var rfl) (q H' r ?_)
          rw [List.append_nil] 
          exact hr'
      | cons m rest =>
        have hfl : (done ++ m :: rest).flatMap flatM = done.flatMap flatM ++ (flatM m ++ rest.flatMap flatM) := by
          rw [List.flatMap_append, List.flatMap_cons]
        have hpos := flatM_pos m
        have hll : ((done ++ m :: rest).flatMap flatM).length = (done.flatMap flatM).length + ((flatM m).length + (rest.flatMap flatM).length) := by
          rw [hfl, List.length_append, List.length_append]
        have hd : ((done ++ m :: rest).flatMap flatM).drop (done.flatMap flatM).length = flatM m ++ rest.flatMap flatM := by
          rw [hfl, List.drop_left]
        have hsn : (done ++ [m]).flatMap flatM = done.flatMap flatM ++ flatM m := by
          rw [List.flatMap_append, List.flatMap_cons, List.flatMap_nil, List.append_nil]
        refine ⟨true, a_to (a_t (v_lt (v_var rfl) (v_len (v_var rfl) (sm.seq hS)))) (decide_eq_true ?_), fun _ => ?_, nofun⟩
        · rw [List.length_map]
          omega
        refine k_set (k_call (ka_v (v_var rfl) (ka_v (v_var rfl) (ka_nil (ce_ok (sm.seq hS) hd fun H0 s0 => ?_)))))
        replace sm := sm.trans s0
        replace hr' := s0 _ _ hr'
        replace hSe' := hSe'.mono (hide_mono (S := fun b => b = r) s0)
        refine k_set (k_call (ka_v (v_var rfl) (ka_n ((n_cut (v_var rfl) (o_some (v_var rfl)) (o_some (v_var rfl)) (sm.seq hS)).to (ys := (flatM m).map V.int) ?_) fun c nc => ka_nil ?_)))
        · rw [cut_nn _ _ _ (Nat.le_add_right _ _) (by rw [List.length_map]; omega), ← List.map_drop, hd, ← List.map_take, Nat.add_sub_cancel_left, List.take_left]
        have s3 : Same H0 (upd H0 c (.lst ((flatM m).map V.int))) := same_upd nc
        have hc : (upd H0 c (.lst ((flatM m).map V.int))) c = some (.lst ((flatM m).map V.int)) := upd_same
        generalize upd H0 c (.lst ((flatM m).map V.int)) = H2 at s3 hc ⊢
        have hr2 := s3 _ _ hr'
        have hSe2 := hSe'.mono (hide_mono (S := fun b => b = r) s3)
        obtain ⟨sdx, se, g1, g2, _⟩ := id hSe2
        refine ⟨x, t', c, stM done, m, fun b => b = r, rfl, hSe2, ?_, hc, hok m (List.mem_append.mpr (.inr (List.mem_cons_self ..))), fun p t2 H3 k3 np hp3 ht2 hSe3 => ?_⟩
        · intro b hb
          exact ⟨_, hb ▸ hr2, fun _ _ e => by cases e⟩
        have nrx : r ≠ x := fun e => (hide_of g1).1 e.symm
        have nrt : r ≠ t' := fun e => (hide_of g2).1 e.symm
        have hr3 := k3 _ _ hr2 nrx nrt
        have npr : p ≠ r := fun e => by rw [e, hr2] at np; cases np
        have hle := toldM_le (done ++ [m]) rest
        rw [List.append_assoc] at hle
        have hle2 : (toldM (done ++ [m])).length ≤ 10000000 := Nat.le_trans hle hlen'
        rw [toldM_snoc, List.length_append, List.length_cons] at hle2
        dsimp only
        refine s_append (v_var rfl) (v_len (v_var rfl) (SqL.of hp3)) hr3 (by rw [List.length_map]; omega) ?_
        refine s_extend (v_var rfl) (v_var rfl) upd_same (by rw [upd_ne npr]; exact hp3) (by simp only [List.length_append, List.length_map, List.length_cons, List.length_nil]; omega) ?_
        refine s_set (v_var rfl) ?_
        rw [upd_upd]
        have nxH : x ≠ r := nrx.symm
        refine ⟨rest.length, Nat.lt_succ_self _, done ++ [m], rest, t2, some (.int (((done.flatMap flatM).length + (flatM m).length : Nat) : Int)), some (.ref p), by rw [List.append_assoc]; rfl, rfl, ?_, fun b o hb => ?_, ?_, ?_, ?_⟩
        · rw [hsn, List.length_append]
          rfl
        · have e1 : b ≠ r := ne_none hb nrH
          have e2 : b ≠ x := ne_none hb nx
          have e3 : b ≠ t' := ne_none hb nt'
          rw [upd_ne e1]
          exact k3 _ _ (s3 _ _ (sm _ _ hb)) e2 e3
        · rw [upd_same, toldM_snoc, List.map_append, List.append_assoc, List.length_map]
          rfl
        · have hw : hide (upd H3 r (.lst ((toldM done).map V.int ++ [V.int ((((Mark.step (stM done) m).2.map V.int).length : Nat) : Int)] ++ (Mark.step (stM done) m).2.map V.int))) (fun b => b = r) = hide H3 fun b => b = r := hide_write (S := fun b => b = r) rfl
          rw [stM_snoc, hw]
          exact hSe3
        · rcases ht2 with e | e
          · rw [e]
            exact nt'
          · exact Same.none (sm.trans s3) e
end
end Mk
namespace Mk
open PySem PySem.Spec PyProof.Rows L2
theorem bd_d_is_sign : BindOk "is_sign" "is_sign" s_is_sign ["byte"] := fun _ _ _ _ _ _ us hl => match us, hl with | [_], _ => rfl
theorem bd_d_trimmed : BindOk "trimmed" "trimmed" s_trimmed ["row"] := fun _ _ _ _ _ _ us hl => match us, hl with | [_], _ => rfl
theorem bd_m_Line_init__ : BindOk "__init__" "Line.__init__" s_Line_init__ ["self", "kind", "number", "text", "row"] := fun _ _ _ _ _ _ us hl => match us, hl with | [_, _, _, _, _], _ => rfl
theorem bd_d_read_lines : BindOk "read_lines" "read_lines" s_read_lines ["text"] := fun _ _ _ _ _ _ us hl => match us, hl with | [_], _ => rfl
theorem bd_d_split_rows : BindOk "split_rows" "split_rows" s_split_rows ["text"] := fun _ _ _ _ _ _ us hl => match us, hl with | [_], _ => rfl
theorem bd_d_read_line : BindOk "read_line" "read_line" s_read_line ["row"] := fun _ _ _ _ _ _ us hl => match us, hl with | [_], _ => rfl
theorem bd_d_run_length : BindOk "run_length" "run_length" s_run_length ["row", "begin", "byte"] := fun _ _ _ _ _ _ us hl => match us, hl with | [_, _, _], _ => rfl
theorem bd_d_is_blank_or_end : BindOk "is_blank_or_end" "is_blank_or_end" s_is_blank_or_end ["row", "at"] := fun _ _ _ _ _ _ us hl => match us, hl with | [_, _], _ => rfl
theorem bd_m_Block_init__ : BindOk "__init__" "Block.__init__" s_Block_init__ ["self", "kind", "number", "text", "rows"] := fun _ _ _ _ _ _ us hl => match us, hl with | [_, _, _, _, _], _ => rfl
theorem bd_d_read_blocks : BindOk "read_blocks" "read_blocks" s_read_blocks ["lines"] := fun _ _ _ _ _ _ us hl => match us, hl with | [_], _ => rfl
theorem bd_d_block_end : BindOk "block_end" "block_end" s_block_end ["lines", "at"] := fun _ _ _ _ _ _ us hl => match us, hl with | [_, _], _ => rfl
theorem bd_d_closes_code : BindOk "closes_code" "closes_code" s_closes_code ["line"] := fun _ _ _ _ _ _ us hl => match us, hl with | [_], _ => rfl
theorem bd_d_joined_texts : BindOk "joined_texts" "joined_texts" s_joined_texts ["lines"] := fun _ _ _ _ _ _ us hl => match us, hl with | [_], _ => rfl
theorem bd_m_Event_init__ : BindOk "__init__" "Event.__init__" s_Event_init__ ["self", "kind", "number", "data"] := fun _ _ _ _ _ _ us hl => match us, hl with | [_, _, _, _], _ => rfl
theorem bd_m_Events_init__ : BindOk "__init__" "Events.__init__" s_Events_init__ ["self"] := fun _ _ _ _ _ _ us hl => match us, hl with | [_], _ => rfl
theorem bd_m_Events_tell : BindOk "tell" "Events.tell" s_Events_tell ["self", "kind", "number", "data"] := fun _ _ _ _ _ _ us hl => match us, hl with | [_, _, _, _], _ => rfl
theorem bd_m_Events_tell_text : BindOk "tell_text" "Events.tell_text" s_Events_tell_text ["self", "data"] := fun _ _ _ _ _ _ us hl => match us, hl with | [_, _], _ => rfl
theorem bd_m_Thing_init__ : BindOk "__init__" "Thing.__init__" s_Thing_init__ ["self", "kind", "data", "inner"] := fun _ _ _ _ _ _ us hl => match us, hl with | [_, _, _, _], _ => rfl
theorem bd_d_read_things : BindOk "read_things" "read_things" s_read_things ["text"] := fun _ _ _ _ _ _ us hl => match us, hl with | [_], _ => rfl
theorem bd_d_is_backslashed : BindOk "is_backslashed" "is_backslashed" s_is_backslashed ["text", "at"] := fun _ _ _ _ _ _ us hl => match us, hl with | [_, _], _ => rfl
theorem bd_d_code_end : BindOk "code_end" "code_end" s_code_end ["text", "at"] := fun _ _ _ _ _ _ us hl => match us, hl with | [_, _], _ => rfl
theorem bd_d_kind_of_byte : BindOk "kind_of_byte" "kind_of_byte" s_kind_of_byte ["byte"] := fun _ _ _ _ _ _ us hl => match us, hl with | [_], _ => rfl
theorem bd_d_is_byte : BindOk "is_byte" "is_byte" s_is_byte ["thing", "byte"] := fun _ _ _ _ _ _ us hl => match us, hl with | [_, _], _ => rfl
theorem bd_d_is_wide_space : BindOk "is_wide_space" "is_wide_space" s_is_wide_space ["thing"] := fun _ _ _ _ _ _ us hl => match us, hl with | [_], _ => rfl
theorem bd_d_with_links : BindOk "with_links" "with_links" s_with_links ["things"] := fun _ _ _ _ _ _ us hl => match us, hl with | [_], _ => rfl
theorem bd_d_link_end : BindOk "link_end" "link_end" s_link_end ["things", "at"] := fun _ _ _ _ _ _ us hl => match us, hl with | [_, _], _ => rfl
theorem bd_d_link_between : BindOk "link_between" "link_between" s_link_between ["things", "at", "end"] := fun _ _ _ _ _ _ us hl => match us, hl with | [_, _, _], _ => rfl
theorem bd_d_bracket_behind : BindOk "bracket_behind" "bracket_behind" s_bracket_behind ["things", "at"] := fun _ _ _ _ _ _ us hl => match us, hl with | [_, _], _ => rfl
theorem bd_d_address_end : BindOk "address_end" "address_end" s_address_end ["things", "begin"] := fun _ _ _ _ _ _ us hl => match us, hl with | [_, _], _ => rfl
theorem bd_d_may_be_in_address : BindOk "may_be_in_address" "may_be_in_address" s_may_be_in_address ["thing"] := fun _ _ _ _ _ _ us hl => match us, hl with | [_], _ => rfl
theorem bd_d_is_bracket : BindOk "is_bracket" "is_bracket" s_is_bracket ["thing"] := fun _ _ _ _ _ _ us hl => match us, hl with | [_], _ => rfl
theorem bd_d_tell_running_text : BindOk "tell_running_text" "tell_running_text" s_tell_running_text ["text", "events"] := fun _ _ _ _ _ _ us hl => match us, hl with | [_, _], _ => rfl
theorem bd_d_tell_things : BindOk "tell_things" "tell_things" s_tell_things ["things", "events"] := fun _ _ _ _ _ _ us hl => match us, hl with | [_, _], _ => rfl
theorem bd_d_tell_thing : BindOk "tell_thing" "tell_thing" s_tell_thing ["thing", "events"] := fun _ _ _ _ _ _ us hl => match us, hl with | [_, _], _ => rfl
theorem bd_d_begins_emphasis : BindOk "begins_emphasis" "begins_emphasis" s_begins_emphasis ["things", "at", "ends"] := fun _ _ _ _ _ _ us hl => match us, hl with | [_, _, _], _ => rfl
theorem bd_d_emphasis_ends : BindOk "emphasis_ends" "emphasis_ends" s_emphasis_ends ["things"] := fun _ _ _ _ _ _ us hl => match us, hl with | [_], _ => rfl
theorem bd_d_events_of : BindOk "events_of" "events_of" s_events_of ["text"] := fun _ _ _ _ _ _ us hl => match us, hl with | [_], _ => rfl
theorem bd_d_tell_item : BindOk "tell_item" "tell_item" s_tell_item ["block", "nested", "events"] := fun _ _ _ _ _ _ us hl => match us, hl with | [_, _, _], _ => rfl
theorem bd_d_end_items : BindOk "end_items" "end_items" s_end_items ["count", "events"] := fun _ _ _ _ _ _ us hl => match us, hl with | [_, _], _ => rfl
theorem bd_d_tell_block : BindOk "tell_block" "tell_block" s_tell_block ["block", "events"] := fun _ _ _ _ _ _ us hl => match us, hl with | [_, _], _ => rfl
theorem bd_d_told_bytes : BindOk "told_bytes" "told_bytes" s_told_bytes ["data"] := fun _ _ _ _ _ _ us hl => match us, hl with | [_], _ => rfl
theorem bd_d_told_event : BindOk "told_event" "told_event" s_told_event ["event"] := fun _ _ _ _ _ _ us hl => match us, hl with | [_], _ => rfl
theorem bd_d_told_line : BindOk "told_line" "told_line" s_told_line ["line"] := fun _ _ _ _ _ _ us hl => match us, hl with | [_], _ => rfl
theorem bd_d_all_events : BindOk "all_events" "all_events" s_all_events ["text"] := fun _ _ _ _ _ _ us hl => match us, hl with | [_], _ => rfl
theorem bd_d_all_lines : BindOk "all_lines" "all_lines" s_all_lines ["text"] := fun _ _ _ _ _ _ us hl => match us, hl with | [_], _ => rfl
theorem bd_d_one_by_one : BindOk "one_by_one" "one_by_one" s_one_by_one ["parts"] := fun _ _ _ _ _ _ us hl => match us, hl with | [_], _ => rfl
theorem bd_d_html_of : BindOk "html_of" "html_of" s_html_of ["events"] := fun _ _ _ _ _ _ us hl => match us, hl with | [_], _ => rfl
theorem bd_d_written : BindOk "written" "written" s_written ["signs"] := fun _ _ _ _ _ _ us hl => match us, hl with | [_], _ => rfl
theorem bd_d_escaped : BindOk "escaped" "escaped" s_escaped ["data"] := fun _ _ _ _ _ _ us hl => match us, hl with | [_], _ => rfl
theorem bd_m_Session_init__ : BindOk "__init__" "Session.__init__" s_Session_init__ ["self"] := fun _ _ _ _ _ _ us hl => match us, hl with | [_], _ => rfl
theorem bd_m_Session_begin : BindOk "begin" "Session.begin" s_Session_begin ["self"] := fun _ _ _ _ _ _ us hl => match us, hl with | [_], _ => rfl
theorem bd_m_Session_feed : BindOk "feed" "Session.feed" s_Session_feed ["self", "piece"] := fun _ _ _ _ _ _ us hl => match us, hl with | [_, _], _ => rfl
theorem bd_m_Session_end : BindOk "end" "Session.end" s_Session_end ["self"] := fun _ _ _ _ _ _ us hl => match us, hl with | [_], _ => rfl
theorem bd_m_Session_event : BindOk "event" "Session.event" s_Session_event ["self", "place"] := fun _ _ _ _ _ _ us hl => match us, hl with | [_, _], _ => rfl
theorem bd_m_Session_html : BindOk "html" "Session.html" s_Session_html ["self"] := fun _ _ _ _ _ _ us hl => match us, hl with | [_], _ => rfl
theorem bd_d_answers : BindOk "answers" "answers" s_answers ["calls"] := fun _ _ _ _ _ _ us hl => match us, hl with | [_], _ => rfl
theorem bd_d_call_end : BindOk "call_end" "call_end" s_call_end ["calls", "at"] := fun _ _ _ _ _ _ us hl => match us, hl with | [_, _], _ => rfl
theorem bd_d_answer : BindOk "answer" "answer" s_answer ["session", "call"] := fun _ _ _ _ _ _ us hl => match us, hl with | [_, _], _ => rfl
@[reducible] def mk_TxtSigns {K : PySem.W.Frag} {h : Heap} {mg : Str → Option Value} (X : K.In h) (G : h.Ns mainGlobals mg) 
    {f1 : Addr} {od3 : Option Addr} {an4 : Option Addr} {oc5 : Value} {kV6 : Value} {dc7 : Value} {pm8 : Value} {cd9 : Value} {ct10 : Value} {sl11 : Array (Option Value)} {f15 : Addr} {od17 : Option Addr} {an18 : Option Addr} {oc19 : Value} {kV20 : Value} {dc21 : Value} {pm22 : Value} {cd23 : Value} {ct24 : Value} {sl25 : Array (Option Value)} {f30 : Addr} {od31 : Option Addr} {its32 : Array Value} {m33 : Nat} {sl34 : Array (Option Value)} {f39 : Addr} {od40 : Option Addr} {its41 : Array Value} {m42 : Nat} {sl43 : Array (Option Value)} {t48 : PySem.Tok} {t50 : PySem.Tok} {t52 : PySem.Tok} {t54 : PySem.Tok} {t56 : PySem.Tok} {t58 : PySem.Tok} {t60 : PySem.Tok} {t62 : PySem.Tok} {t64 : PySem.Tok} {t66 : PySem.Tok} {t68 : PySem.Tok}
    (a2 : PySem.W.nsIn K mainGlobals "is_sign" = some (some (.ref f1)))
    (l12 : K.lookup f1 = some ⟨oc5, od3, .func (PySem.W.fnOf "is_sign" "is_sign" (defArgs s_is_sign) (defBody s_is_sign) (defScope s_is_sign) .none kV6 dc7 pm8 an4 cd9 ct10), sl11⟩)
    (c13 : PySem.W.codeIn K cd9 "is_sign" = true)
    (k14 : PySem.W.keepIn K (.ref f1) = true)
    (a16 : PySem.W.nsIn K mainGlobals "trimmed" = some (some (.ref f15)))
    (l26 : K.lookup f15 = some ⟨oc19, od17, .func (PySem.W.fnOf "trimmed" "trimmed" (defArgs s_trimmed) (defBody s_trimmed) (defScope s_trimmed) .none kV20 dc21 pm22 an18 cd23 ct24), sl25⟩)
    (c27 : PySem.W.codeIn K cd23 "trimmed" = true)
    (k28 : PySem.W.keepIn K (.ref f15) = true)
    (b29 : PySem.W.nsIn K mainGlobals "len" = some none)
    (a35 : PySem.W.nsIn K mainGlobals "BLANKS" = some (some (.ref f30)))
    (l36 : K.lookup f30 = some ⟨.type "tuple", od31, .seq its32 m33, sl34⟩)
    (z37 : its32.size ≤ sizeLine)
    (v38 : Vals [.int 9, .int 13, .int 32] its32.toList)
    (a44 : PySem.W.nsIn K mainGlobals "WIDE_SPACES" = some (some (.ref f39)))
    (l45 : K.lookup f39 = some ⟨.type "tuple", od40, .seq its41 m42, sl43⟩)
    (z46 : its41.size ≤ sizeLine)
    (v47 : Vals [.int 9, .int 10, .int 13, .int 32] its41.toList)
    (a49 : PySem.W.nsIn K mainGlobals "NEWLINE" = some (some (.int 10 t48)))
    (a51 : PySem.W.nsIn K mainGlobals "SPACE" = some (some (.int 32 t50)))
    (a53 : PySem.W.nsIn K mainGlobals "NUMBER_SIGN" = some (some (.int 35 t52)))
    (a55 : PySem.W.nsIn K mainGlobals "OPENING_PARENTHESIS" = some (some (.int 40 t54)))
    (a57 : PySem.W.nsIn K mainGlobals "CLOSING_PARENTHESIS" = some (some (.int 41 t56)))
    (a59 : PySem.W.nsIn K mainGlobals "STAR_SIGN" = some (some (.int 42 t58)))
    (a61 : PySem.W.nsIn K mainGlobals "HYPHEN" = some (some (.int 45 t60)))
    (a63 : PySem.W.nsIn K mainGlobals "OPENING_BRACKET" = some (some (.int 91 t62)))
    (a65 : PySem.W.nsIn K mainGlobals "BACKSLASH" = some (some (.int 92 t64)))
    (a67 : PySem.W.nsIn K mainGlobals "CLOSING_BRACKET" = some (some (.int 93 t66)))
    (a69 : PySem.W.nsIn K mainGlobals "BACKQUOTE" = some (some (.int 96 t68))) : TxtSigns K mg := { d_is_sign := mkDef X G a2 l12 c13 k14 bd_d_is_sign, d_trimmed := mkDef X G a16 l26 c27 k28 bd_d_trimmed, b_len := PySem.W.mg_none_of X G b29, c_BLANKS := mkTup X G a35 l36 z37 v38, c_WIDE_SPACES := mkTup X G a44 l45 z46 v47, c_NEWLINE := mkInt X G a49, c_SPACE := mkInt X G a51, c_NUMBER_SIGN := mkInt X G a53, c_OPENING_PARENTHESIS := mkInt X G a55, c_CLOSING_PARENTHESIS := mkInt X G a57, c_STAR_SIGN := mkInt X G a59, c_HYPHEN := mkInt X G a61, c_OPENING_BRACKET := mkInt X G a63, c_BACKSLASH := mkInt X G a65, c_CLOSING_BRACKET := mkInt X G a67, c_BACKQUOTE := mkInt X G a69 }
@[reducible] def mk_TxtLines {K : PySem.W.Frag} {h : Heap} {mg : Str → Option Value} (X : K.In h) (G : h.Ns mainGlobals mg) (T : TxtSigns K mg) 
    {C71 : Addr} {f72 : Addr} {od82 : Option Addr} {an83 : Option Addr} {oc84 : Value} {kV85 : Value} {dc86 : Value} {pm87 : Value} {cd88 : Value} {ct89 : Value} {sl90 : Array (Option Value)} {f98 : Addr} {od100 : Option Addr} {an101 : Option Addr} {oc102 : Value} {kV103 : Value} {dc104 : Value} {pm105 : Value} {cd106 : Value} {ct107 : Value} {sl108 : Array (Option Value)} {f112 : Addr} {od114 : Option Addr} {an115 : Option Addr} {oc116 : Value} {kV117 : Value} {dc118 : Value} {pm119 : Value} {cd120 : Value} {ct121 : Value} {sl122 : Array (Option Value)} {f126 : Addr} {od128 : Option Addr} {an129 : Option Addr} {oc130 : Value} {kV131 : Value} {dc132 : Value} {pm133 : Value} {cd134 : Value} {ct135 : Value} {sl136 : Array (Option Value)} {f140 : Addr} {od142 : Option Addr} {an143 : Option Addr} {oc144 : Value} {kV145 : Value} {dc146 : Value} {pm147 : Value} {cd148 : Value} {ct149 : Value} {sl150 : Array (Option Value)} {f154 : Addr} {od156 : Option Addr} {an157 : Option Addr} {oc158 : Value} {kV159 : Value} {dc160 : Value} {pm161 : Value} {cd162 : Value} {ct163 : Value} {sl164 : Array (Option Value)} {t168 : PySem.Tok} {t170 : PySem.Tok} {t172 : PySem.Tok} {t174 : PySem.Tok} {t176 : PySem.Tok} {t178 : PySem.Tok} {t180 : PySem.Tok}
    (b70 : PySem.W.nsIn K mainGlobals "enumerate" = some none)
    (a73 : PySem.W.nsIn K mainGlobals "Line" = some (some (.ref C71)))
    (pg74 : PySem.W.plainGet K C71 Str.empty = true)
    (hd75 : PySem.W.hasDictIn K C71 = true)
    (po76 : PySem.W.plainOver K C71 = true)
    (sa77 : PySem.W.findIn K (.ref C71) "__setattr__" = some (some (.builtin "object.__setattr__")))
    (mk78 : PySem.W.makesIn K C71 = true)
    (kc79 : PySem.W.keepIn K (.ref C71) = true)
    (i80 : PySem.W.findIn K (.ref C71) "__init__" = some (some (.ref f72)))
    (fn81 : PySem.W.isFn K (.ref f72) = true)
    (l91 : K.lookup f72 = some ⟨oc84, od82, .func (PySem.W.fnOf "__init__" "Line.__init__" (defArgs s_Line_init__) (defBody s_Line_init__) (defScope s_Line_init__) .none kV85 dc86 pm87 an83 cd88 ct89), sl90⟩)
    (c92 : PySem.W.codeIn K cd88 "Line.__init__" = true)
    (k93 : PySem.W.keepIn K (.ref f72) = true)
    (n94 : PySem.W.findIn K (.ref C71) "row" = some none)
    (n95 : PySem.W.findIn K (.ref C71) "text" = some none)
    (n96 : PySem.W.findIn K (.ref C71) "number" = some none)
    (n97 : PySem.W.findIn K (.ref C71) "kind" = some none)
    (a99 : PySem.W.nsIn K mainGlobals "read_lines" = some (some (.ref f98)))
    (l109 : K.lookup f98 = some ⟨oc102, od100, .func (PySem.W.fnOf "read_lines" "read_lines" (defArgs s_read_lines) (defBody s_read_lines) (defScope s_read_lines) .none kV103 dc104 pm105 an101 cd106 ct107), sl108⟩)
    (c110 : PySem.W.codeIn K cd106 "read_lines" = true)
    (k111 : PySem.W.keepIn K (.ref f98) = true)
    (a113 : PySem.W.nsIn K mainGlobals "split_rows" = some (some (.ref f112)))
    (l123 : K.lookup f112 = some ⟨oc116, od114, .func (PySem.W.fnOf "split_rows" "split_rows" (defArgs s_split_rows) (defBody s_split_rows) (defScope s_split_rows) .none kV117 dc118 pm119 an115 cd120 ct121), sl122⟩)
    (c124 : PySem.W.codeIn K cd120 "split_rows" = true)
    (k125 : PySem.W.keepIn K (.ref f112) = true)
    (a127 : PySem.W.nsIn K mainGlobals "read_line" = some (some (.ref f126)))
    (l137 : K.lookup f126 = some ⟨oc130, od128, .func (PySem.W.fnOf "read_line" "read_line" (defArgs s_read_line) (defBody s_read_line) (defScope s_read_line) .none kV131 dc132 pm133 an129 cd134 ct135), sl136⟩)
    (c138 : PySem.W.codeIn K cd134 "read_line" = true)
    (k139 : PySem.W.keepIn K (.ref f126) = true)
    (a141 : PySem.W.nsIn K mainGlobals "run_length" = some (some (.ref f140)))
    (l151 : K.lookup f140 = some ⟨oc144, od142, .func (PySem.W.fnOf "run_length" "run_length" (defArgs s_run_length) (defBody s_run_length) (defScope s_run_length) .none kV145 dc146 pm147 an143 cd148 ct149), sl150⟩)
    (c152 : PySem.W.codeIn K cd148 "run_length" = true)
    (k153 : PySem.W.keepIn K (.ref f140) = true)
    (a155 : PySem.W.nsIn K mainGlobals "is_blank_or_end" = some (some (.ref f154)))
    (l165 : K.lookup f154 = some ⟨oc158, od156, .func (PySem.W.fnOf "is_blank_or_end" "is_blank_or_end" (defArgs s_is_blank_or_end) (defBody s_is_blank_or_end) (defScope s_is_blank_or_end) .none kV159 dc160 pm161 an157 cd162 ct163), sl164⟩)
    (c166 : PySem.W.codeIn K cd162 "is_blank_or_end" = true)
    (k167 : PySem.W.keepIn K (.ref f154) = true)
    (a169 : PySem.W.nsIn K mainGlobals "BLANK" = some (some (.int 0 t168)))
    (a171 : PySem.W.nsIn K mainGlobals "FENCE" = some (some (.int 1 t170)))
    (a173 : PySem.W.nsIn K mainGlobals "HEADING" = some (some (.int 2 t172)))
    (a175 : PySem.W.nsIn K mainGlobals "ITEM" = some (some (.int 3 t174)))
    (a177 : PySem.W.nsIn K mainGlobals "PLAIN" = some (some (.int 4 t176)))
    (a179 : PySem.W.nsIn K mainGlobals "FENCE_LENGTH" = some (some (.int 3 t178)))
    (a181 : PySem.W.nsIn K mainGlobals "DEEPEST_HEADING" = some (some (.int 6 t180))) : TxtLines K mg := { toTxtSigns := T, b_enumerate := PySem.W.mg_none_of X G b70, m_Line_init__ := mkInit l91 c92 k93 bd_m_Line_init__, k_Line := mkCls X G a73 pg74 hd75 po76 sa77 mk78 kc79 i80 fn81, n_Line := (allNo n97 (allNo n96 (allNo n95 (allNo n94 allNo_nil)))), d_read_lines := mkDef X G a99 l109 c110 k111 bd_d_read_lines, d_split_rows := mkDef X G a113 l123 c124 k125 bd_d_split_rows, d_read_line := mkDef X G a127 l137 c138 k139 bd_d_read_line, d_run_length := mkDef X G a141 l151 c152 k153 bd_d_run_length, d_is_blank_or_end := mkDef X G a155 l165 c166 k167 bd_d_is_blank_or_end, c_BLANK := mkInt X G a169, c_FENCE := mkInt X G a171, c_HEADING := mkInt X G a173, c_ITEM := mkInt X G a175, c_PLAIN := mkInt X G a177, c_FENCE_LENGTH := mkInt X G a179, c_DEEPEST_HEADING := mkInt X G a181 }
@[reducible] def mk_TxtBlocks {K : PySem.W.Frag} {h : Heap} {mg : Str → Option Value} (X : K.In h) (G : h.Ns mainGlobals mg) (T : TxtLines K mg) 
    {C182 : Addr} {f183 : Addr} {od193 : Option Addr} {an194 : Option Addr} {oc195 : Value} {kV196 : Value} {dc197 : Value} {pm198 : Value} {cd199 : Value} {ct200 : Value} {sl201 : Array (Option Value)} {f209 : Addr} {od211 : Option Addr} {an212 : Option Addr} {oc213 : Value} {kV214 : Value} {dc215 : Value} {pm216 : Value} {cd217 : Value} {ct218 : Value} {sl219 : Array (Option Value)} {f223 : Addr} {od225 : Option Addr} {an226 : Option Addr} {oc227 : Value} {kV228 : Value} {dc229 : Value} {pm230 : Value} {cd231 : Value} {ct232 : Value} {sl233 : Array (Option Value)} {f237 : Addr} {od239 : Option Addr} {an240 : Option Addr} {oc241 : Value} {kV242 : Value} {dc243 : Value} {pm244 : Value} {cd245 : Value} {ct246 : Value} {sl247 : Array (Option Value)} {f251 : Addr} {od253 : Option Addr} {an254 : Option Addr} {oc255 : Value} {kV256 : Value} {dc257 : Value} {pm258 : Value} {cd259 : Value} {ct260 : Value} {sl261 : Array (Option Value)}
    (a184 : PySem.W.nsIn K mainGlobals "Block" = some (some (.ref C182)))
    (pg185 : PySem.W.plainGet K C182 Str.empty = true)
    (hd186 : PySem.W.hasDictIn K C182 = true)
    (po187 : PySem.W.plainOver K C182 = true)
    (sa188 : PySem.W.findIn K (.ref C182) "__setattr__" = some (some (.builtin "object.__setattr__")))
    (mk189 : PySem.W.makesIn K C182 = true)
    (kc190 : PySem.W.keepIn K (.ref C182) = true)
    (i191 : PySem.W.findIn K (.ref C182) "__init__" = some (some (.ref f183)))
    (fn192 : PySem.W.isFn K (.ref f183) = true)
    (l202 : K.lookup f183 = some ⟨oc195, od193, .func (PySem.W.fnOf "__init__" "Block.__init__" (defArgs s_Block_init__) (defBody s_Block_init__) (defScope s_Block_init__) .none kV196 dc197 pm198 an194 cd199 ct200), sl201⟩)
    (c203 : PySem.W.codeIn K cd199 "Block.__init__" = true)
    (k204 : PySem.W.keepIn K (.ref f183) = true)
    (n205 : PySem.W.findIn K (.ref C182) "rows" = some none)
    (n206 : PySem.W.findIn K (.ref C182) "text" = some none)
    (n207 : PySem.W.findIn K (.ref C182) "number" = some none)
    (n208 : PySem.W.findIn K (.ref C182) "kind" = some none)
    (a210 : PySem.W.nsIn K mainGlobals "read_blocks" = some (some (.ref f209)))
    (l220 : K.lookup f209 = some ⟨oc213, od211, .func (PySem.W.fnOf "read_blocks" "read_blocks" (defArgs s_read_blocks) (defBody s_read_blocks) (defScope s_read_blocks) .none kV214 dc215 pm216 an212 cd217 ct218), sl219⟩)
    (c221 : PySem.W.codeIn K cd217 "read_blocks" = true)
    (k222 : PySem.W.keepIn K (.ref f209) = true)
    (a224 : PySem.W.nsIn K mainGlobals "block_end" = some (some (.ref f223)))
    (l234 : K.lookup f223 = some ⟨oc227, od225, .func (PySem.W.fnOf "block_end" "block_end" (defArgs s_block_end) (defBody s_block_end) (defScope s_block_end) .none kV228 dc229 pm230 an226 cd231 ct232), sl233⟩)
    (c235 : PySem.W.codeIn K cd231 "block_end" = true)
    (k236 : PySem.W.keepIn K (.ref f223) = true)
    (a238 : PySem.W.nsIn K mainGlobals "closes_code" = some (some (.ref f237)))
    (l248 : K.lookup f237 = some ⟨oc241, od239, .func (PySem.W.fnOf "closes_code" "closes_code" (defArgs s_closes_code) (defBody s_closes_code) (defScope s_closes_code) .none kV242 dc243 pm244 an240 cd245 ct246), sl247⟩)
    (c249 : PySem.W.codeIn K cd245 "closes_code" = true)
    (k250 : PySem.W.keepIn K (.ref f237) = true)
    (a252 : PySem.W.nsIn K mainGlobals "joined_texts" = some (some (.ref f251)))
    (l262 : K.lookup f251 = some ⟨oc255, od253, .func (PySem.W.fnOf "joined_texts" "joined_texts" (defArgs s_joined_texts) (defBody s_joined_texts) (defScope s_joined_texts) .none kV256 dc257 pm258 an254 cd259 ct260), sl261⟩)
    (c263 : PySem.W.codeIn K cd259 "joined_texts" = true)
    (k264 : PySem.W.keepIn K (.ref f251) = true) : TxtBlocks K mg := { toTxtLines := T, m_Block_init__ := mkInit l202 c203 k204 bd_m_Block_init__, k_Block := mkCls X G a184 pg185 hd186 po187 sa188 mk189 kc190 i191 fn192, n_Block := (allNo n208 (allNo n207 (allNo n206 (allNo n205 allNo_nil)))), d_read_blocks := mkDef X G a210 l220 c221 k222 bd_d_read_blocks, d_block_end := mkDef X G a224 l234 c235 k236 bd_d_block_end, d_closes_code := mkDef X G a238 l248 c249 k250 bd_d_closes_code, d_joined_texts := mkDef X G a252 l262 c263 k264 bd_d_joined_texts }
@[reducible] def mk_TxtEvents {K : PySem.W.Frag} {h : Heap} {mg : Str → Option Value} (X : K.In h) (G : h.Ns mainGlobals mg) (T : TxtBlocks K mg) 
    {C266 : Addr} {f267 : Addr} {od277 : Option Addr} {an278 : Option Addr} {oc279 : Value} {kV280 : Value} {dc281 : Value} {pm282 : Value} {cd283 : Value} {ct284 : Value} {sl285 : Array (Option Value)} {C292 : Addr} {f293 : Addr} {od303 : Option Addr} {an304 : Option Addr} {oc305 : Value} {kV306 : Value} {dc307 : Value} {pm308 : Value} {cd309 : Value} {ct310 : Value} {sl311 : Array (Option Value)} {f316 : Addr} {od319 : Option Addr} {an320 : Option Addr} {oc321 : Value} {kV322 : Value} {dc323 : Value} {pm324 : Value} {cd325 : Value} {ct326 : Value} {sl327 : Array (Option Value)} {f331 : Addr} {od334 : Option Addr} {an335 : Option Addr} {oc336 : Value} {kV337 : Value} {dc338 : Value} {pm339 : Value} {cd340 : Value} {ct341 : Value} {sl342 : Array (Option Value)} {t346 : PySem.Tok} {t348 : PySem.Tok} {t350 : PySem.Tok} {t352 : PySem.Tok} {t354 : PySem.Tok} {t356 : PySem.Tok} {t358 : PySem.Tok} {t360 : PySem.Tok} {t362 : PySem.Tok} {t364 : PySem.Tok} {t366 : PySem.Tok} {t368 : PySem.Tok} {t370 : PySem.Tok} {t372 : PySem.Tok} {t374 : PySem.Tok} {t376 : PySem.Tok} {t378 : PySem.Tok}
    (b265 : PySem.W.nsIn K mainGlobals "list" = some none)
    (a268 : PySem.W.nsIn K mainGlobals "Event" = some (some (.ref C266)))
    (pg269 : PySem.W.plainGet K C266 Str.empty = true)
    (hd270 : PySem.W.hasDictIn K C266 = true)
    (po271 : PySem.W.plainOver K C266 = true)
    (sa272 : PySem.W.findIn K (.ref C266) "__setattr__" = some (some (.builtin "object.__setattr__")))
    (mk273 : PySem.W.makesIn K C266 = true)
    (kc274 : PySem.W.keepIn K (.ref C266) = true)
    (i275 : PySem.W.findIn K (.ref C266) "__init__" = some (some (.ref f267)))
    (fn276 : PySem.W.isFn K (.ref f267) = true)
    (l286 : K.lookup f267 = some ⟨oc279, od277, .func (PySem.W.fnOf "__init__" "Event.__init__" (defArgs s_Event_init__) (defBody s_Event_init__) (defScope s_Event_init__) .none kV280 dc281 pm282 an278 cd283 ct284), sl285⟩)
    (c287 : PySem.W.codeIn K cd283 "Event.__init__" = true)
    (k288 : PySem.W.keepIn K (.ref f267) = true)
    (n289 : PySem.W.findIn K (.ref C266) "data" = some none)
    (n290 : PySem.W.findIn K (.ref C266) "number" = some none)
    (n291 : PySem.W.findIn K (.ref C266) "kind" = some none)
    (a294 : PySem.W.nsIn K mainGlobals "Events" = some (some (.ref C292)))
    (pg295 : PySem.W.plainGet K C292 Str.empty = true)
    (hd296 : PySem.W.hasDictIn K C292 = true)
    (po297 : PySem.W.plainOver K C292 = true)
    (sa298 : PySem.W.findIn K (.ref C292) "__setattr__" = some (some (.builtin "object.__setattr__")))
    (mk299 : PySem.W.makesIn K C292 = true)
    (kc300 : PySem.W.keepIn K (.ref C292) = true)
    (i301 : PySem.W.findIn K (.ref C292) "__init__" = some (some (.ref f293)))
    (fn302 : PySem.W.isFn K (.ref f293) = true)
    (l312 : K.lookup f293 = some ⟨oc305, od303, .func (PySem.W.fnOf "__init__" "Events.__init__" (defArgs s_Events_init__) (defBody s_Events_init__) (defScope s_Events_init__) .none kV306 dc307 pm308 an304 cd309 ct310), sl311⟩)
    (c313 : PySem.W.codeIn K cd309 "Events.__init__" = true)
    (k314 : PySem.W.keepIn K (.ref f293) = true)
    (n315 : PySem.W.findIn K (.ref C292) "told" = some none)
    (a317 : PySem.W.findIn K (.ref C292) "tell" = some (some (.ref f316)))
    (fn318 : PySem.W.isFn K (.ref f316) = true)
    (l328 : K.lookup f316 = some ⟨oc321, od319, .func (PySem.W.fnOf "tell" "Events.tell" (defArgs s_Events_tell) (defBody s_Events_tell) (defScope s_Events_tell) .none kV322 dc323 pm324 an320 cd325 ct326), sl327⟩)
    (c329 : PySem.W.codeIn K cd325 "Events.tell" = true)
    (k330 : PySem.W.keepIn K (.ref f316) = true)
    (a332 : PySem.W.findIn K (.ref C292) "tell_text" = some (some (.ref f331)))
    (fn333 : PySem.W.isFn K (.ref f331) = true)
    (l343 : K.lookup f331 = some ⟨oc336, od334, .func (PySem.W.fnOf "tell_text" "Events.tell_text" (defArgs s_Events_tell_text) (defBody s_Events_tell_text) (defScope s_Events_tell_text) .none kV337 dc338 pm339 an335 cd340 ct341), sl342⟩)
    (c344 : PySem.W.codeIn K cd340 "Events.tell_text" = true)
    (k345 : PySem.W.keepIn K (.ref f331) = true)
    (a347 : PySem.W.nsIn K mainGlobals "TEXT" = some (some (.int 0 t346)))
    (a349 : PySem.W.nsIn K mainGlobals "CODE_SPAN" = some (some (.int 1 t348)))
    (a351 : PySem.W.nsIn K mainGlobals "PARAGRAPH_BEGINS" = some (some (.int 2 t350)))
    (a353 : PySem.W.nsIn K mainGlobals "PARAGRAPH_ENDS" = some (some (.int 3 t352)))
    (a355 : PySem.W.nsIn K mainGlobals "HEADING_BEGINS" = some (some (.int 4 t354)))
    (a357 : PySem.W.nsIn K mainGlobals "HEADING_ENDS" = some (some (.int 5 t356)))
    (a359 : PySem.W.nsIn K mainGlobals "LIST_BEGINS" = some (some (.int 6 t358)))
    (a361 : PySem.W.nsIn K mainGlobals "LIST_ENDS" = some (some (.int 7 t360)))
    (a363 : PySem.W.nsIn K mainGlobals "ITEM_BEGINS" = some (some (.int 8 t362)))
    (a365 : PySem.W.nsIn K mainGlobals "ITEM_ENDS" = some (some (.int 9 t364)))
    (a367 : PySem.W.nsIn K mainGlobals "CODE_BLOCK_BEGINS" = some (some (.int 10 t366)))
    (a369 : PySem.W.nsIn K mainGlobals "CODE_BLOCK_LINE" = some (some (.int 11 t368)))
    (a371 : PySem.W.nsIn K mainGlobals "CODE_BLOCK_ENDS" = some (some (.int 12 t370)))
    (a373 : PySem.W.nsIn K mainGlobals "EMPHASIS_BEGINS" = some (some (.int 13 t372)))
    (a375 : PySem.W.nsIn K mainGlobals "EMPHASIS_ENDS" = some (some (.int 14 t374)))
    (a377 : PySem.W.nsIn K mainGlobals "LINK_BEGINS" = some (some (.int 15 t376)))
    (a379 : PySem.W.nsIn K mainGlobals "LINK_ENDS" = some (some (.int 16 t378))) : TxtEvents K mg := { toTxtBlocks := T, b_list := PySem.W.mg_none_of X G b265, m_Event_init__ := mkInit l286 c287 k288 bd_m_Event_init__, k_Event := mkCls X G a268 pg269 hd270 po271 sa272 mk273 kc274 i275 fn276, n_Event := (allNo n291 (allNo n290 (allNo n289 allNo_nil))), m_Events_init__ := mkInit l312 c313 k314 bd_m_Events_init__, k_Events := mkCls X G a294 pg295 hd296 po297 sa298 mk299 kc300 i301 fn302, n_Events := (allNo n315 allNo_nil), m_Events_tell := mkMeth a317 fn318 l328 c329 k330 bd_m_Events_tell, m_Events_tell_text := mkMeth a332 fn333 l343 c344 k345 bd_m_Events_tell_text, c_TEXT := mkInt X G a347, c_CODE_SPAN := mkInt X G a349, c_PARAGRAPH_BEGINS := mkInt X G a351, c_PARAGRAPH_ENDS := mkInt X G a353, c_HEADING_BEGINS := mkInt X G a355, c_HEADING_ENDS := mkInt X G a357, c_LIST_BEGINS := mkInt X G a359, c_LIST_ENDS := mkInt X G a361, c_ITEM_BEGINS := mkInt X G a363, c_ITEM_ENDS := mkInt X G a365, c_CODE_BLOCK_BEGINS := mkInt X G a367, c_CODE_BLOCK_LINE := mkInt X G a369, c_CODE_BLOCK_ENDS := mkInt X G a371, c_EMPHASIS_BEGINS := mkInt X G a373, c_EMPHASIS_ENDS := mkInt X G a375, c_LINK_BEGINS := mkInt X G a377, c_LINK_ENDS := mkInt X G a379 }
@[reducible] def mk_TxtThings {K : PySem.W.Frag} {h : Heap} {mg : Str → Option Value} (X : K.In h) (G : h.Ns mainGlobals mg) (T : TxtEvents K mg) 
    {C380 : Addr} {f381 : Addr} {od391 : Option Addr} {an392 : Option Addr} {oc393 : Value} {kV394 : Value} {dc395 : Value} {pm396 : Value} {cd397 : Value} {ct398 : Value} {sl399 : Array (Option Value)} {f406 : Addr} {od408 : Option Addr} {an409 : Option Addr} {oc410 : Value} {kV411 : Value} {dc412 : Value} {pm413 : Value} {cd414 : Value} {ct415 : Value} {sl416 : Array (Option Value)} {f420 : Addr} {od422 : Option Addr} {an423 : Option Addr} {oc424 : Value} {kV425 : Value} {dc426 : Value} {pm427 : Value} {cd428 : Value} {ct429 : Value} {sl430 : Array (Option Value)} {f434 : Addr} {od436 : Option Addr} {an437 : Option Addr} {oc438 : Value} {kV439 : Value} {dc440 : Value} {pm441 : Value} {cd442 : Value} {ct443 : Value} {sl444 : Array (Option Value)} {f448 : Addr} {od450 : Option Addr} {an451 : Option Addr} {oc452 : Value} {kV453 : Value} {dc454 : Value} {pm455 : Value} {cd456 : Value} {ct457 : Value} {sl458 : Array (Option Value)} {f462 : Addr} {od464 : Option Addr} {an465 : Option Addr} {oc466 : Value} {kV467 : Value} {dc468 : Value} {pm469 : Value} {cd470 : Value} {ct471 : Value} {sl472 : Array (Option Value)} {f476 : Addr} {od478 : Option Addr} {an479 : Option Addr} {oc480 : Value} {kV481 : Value} {dc482 : Value} {pm483 : Value} {cd484 : Value} {ct485 : Value} {sl486 : Array (Option Value)} {t490 : PySem.Tok} {t492 : PySem.Tok} {t494 : PySem.Tok} {t496 : PySem.Tok} {t498 : PySem.Tok} {t500 : PySem.Tok} {t502 : PySem.Tok}
    (a382 : PySem.W.nsIn K mainGlobals "Thing" = some (some (.ref C380)))
    (pg383 : PySem.W.plainGet K C380 Str.empty = true)
    (hd384 : PySem.W.hasDictIn K C380 = true)
    (po385 : PySem.W.plainOver K C380 = true)
    (sa386 : PySem.W.findIn K (.ref C380) "__setattr__" = some (some (.builtin "object.__setattr__")))
    (mk387 : PySem.W.makesIn K C380 = true)
    (kc388 : PySem.W.keepIn K (.ref C380) = true)
    (i389 : PySem.W.findIn K (.ref C380) "__init__" = some (some (.ref f381)))
    (fn390 : PySem.W.isFn K (.ref f381) = true)
    (l400 : K.lookup f381 = some ⟨oc393, od391, .func (PySem.W.fnOf "__init__" "Thing.__init__" (defArgs s_Thing_init__) (defBody s_Thing_init__) (defScope s_Thing_init__) .none kV394 dc395 pm396 an392 cd397 ct398), sl399⟩)
    (c401 : PySem.W.codeIn K cd397 "Thing.__init__" = true)
    (k402 : PySem.W.keepIn K (.ref f381) = true)
    (n403 : PySem.W.findIn K (.ref C380) "inner" = some none)
    (n404 : PySem.W.findIn K (.ref C380) "data" = some none)
    (n405 : PySem.W.findIn K (.ref C380) "kind" = some none)
    (a407 : PySem.W.nsIn K mainGlobals "read_things" = some (some (.ref f406)))
    (l417 : K.lookup f406 = some ⟨oc410, od408, .func (PySem.W.fnOf "read_things" "read_things" (defArgs s_read_things) (defBody s_read_things) (defScope s_read_things) .none kV411 dc412 pm413 an409 cd414 ct415), sl416⟩)
    (c418 : PySem.W.codeIn K cd414 "read_things" = true)
    (k419 : PySem.W.keepIn K (.ref f406) = true)
    (a421 : PySem.W.nsIn K mainGlobals "is_backslashed" = some (some (.ref f420)))
    (l431 : K.lookup f420 = some ⟨oc424, od422, .func (PySem.W.fnOf "is_backslashed" "is_backslashed" (defArgs s_is_backslashed) (defBody s_is_backslashed) (defScope s_is_backslashed) .none kV425 dc426 pm427 an423 cd428 ct429), sl430⟩)
    (c432 : PySem.W.codeIn K cd428 "is_backslashed" = true)
    (k433 : PySem.W.keepIn K (.ref f420) = true)
    (a435 : PySem.W.nsIn K mainGlobals "code_end" = some (some (.ref f434)))
    (l445 : K.lookup f434 = some ⟨oc438, od436, .func (PySem.W.fnOf "code_end" "code_end" (defArgs s_code_end) (defBody s_code_end) (defScope s_code_end) .none kV439 dc440 pm441 an437 cd442 ct443), sl444⟩)
    (c446 : PySem.W.codeIn K cd442 "code_end" = true)
    (k447 : PySem.W.keepIn K (.ref f434) = true)
    (a449 : PySem.W.nsIn K mainGlobals "kind_of_byte" = some (some (.ref f448)))
    (l459 : K.lookup f448 = some ⟨oc452, od450, .func (PySem.W.fnOf "kind_of_byte" "kind_of_byte" (defArgs s_kind_of_byte) (defBody s_kind_of_byte) (defScope s_kind_of_byte) .none kV453 dc454 pm455 an451 cd456 ct457), sl458⟩)
    (c460 : PySem.W.codeIn K cd456 "kind_of_byte" = true)
    (k461 : PySem.W.keepIn K (.ref f448) = true)
    (a463 : PySem.W.nsIn K mainGlobals "is_byte" = some (some (.ref f462)))
    (l473 : K.lookup f462 = some ⟨oc466, od464, .func (PySem.W.fnOf "is_byte" "is_byte" (defArgs s_is_byte) (defBody s_is_byte) (defScope s_is_byte) .none kV467 dc468 pm469 an465 cd470 ct471), sl472⟩)
    (c474 : PySem.W.codeIn K cd470 "is_byte" = true)
    (k475 : PySem.W.keepIn K (.ref f462) = true)
    (a477 : PySem.W.nsIn K mainGlobals "is_wide_space" = some (some (.ref f476)))
    (l487 : K.lookup f476 = some ⟨oc480, od478, .func (PySem.W.fnOf "is_wide_space" "is_wide_space" (defArgs s_is_wide_space) (defBody s_is_wide_space) (defScope s_is_wide_space) .none kV481 dc482 pm483 an479 cd484 ct485), sl486⟩)
    (c488 : PySem.W.codeIn K cd484 "is_wide_space" = true)
    (k489 : PySem.W.keepIn K (.ref f476) = true)
    (a491 : PySem.W.nsIn K mainGlobals "BYTE" = some (some (.int 0 t490)))
    (a493 : PySem.W.nsIn K mainGlobals "BACKSLASHED" = some (some (.int 1 t492)))
    (a495 : PySem.W.nsIn K mainGlobals "CODE" = some (some (.int 2 t494)))
    (a497 : PySem.W.nsIn K mainGlobals "STAR" = some (some (.int 3 t496)))
    (a499 : PySem.W.nsIn K mainGlobals "OPENING" = some (some (.int 4 t498)))
    (a501 : PySem.W.nsIn K mainGlobals "CLOSING" = some (some (.int 5 t500)))
    (a503 : PySem.W.nsIn K mainGlobals "LINK" = some (some (.int 6 t502))) : TxtThings K mg := { toTxtEvents := T, m_Thing_init__ := mkInit l400 c401 k402 bd_m_Thing_init__, k_Thing := mkCls X G a382 pg383 hd384 po385 sa386 mk387 kc388 i389 fn390, n_Thing := (allNo n405 (allNo n404 (allNo n403 allNo_nil))), d_read_things := mkDef X G a407 l417 c418 k419 bd_d_read_things, d_is_backslashed := mkDef X G a421 l431 c432 k433 bd_d_is_backslashed, d_code_end := mkDef X G a435 l445 c446 k447 bd_d_code_end, d_kind_of_byte := mkDef X G a449 l459 c460 k461 bd_d_kind_of_byte, d_is_byte := mkDef X G a463 l473 c474 k475 bd_d_is_byte, d_is_wide_space := mkDef X G a477 l487 c488 k489 bd_d_is_wide_space, c_BYTE := mkInt X G a491, c_BACKSLASHED := mkInt X G a493, c_CODE := mkInt X G a495, c_STAR := mkInt X G a497, c_OPENING := mkInt X G a499, c_CLOSING := mkInt X G a501, c_LINK := mkInt X G a503 }
@[reducible] def mk_TxtLinks {K : PySem.W.Frag} {h : Heap} {mg : Str → Option Value} (X : K.In h) (G : h.Ns mainGlobals mg) (T : TxtThings K mg) 
    {f504 : Addr} {od506 : Option Addr} {an507 : Option Addr} {oc508 : Value} {kV509 : Value} {dc510 : Value} {pm511 : Value} {cd512 : Value} {ct513 : Value} {sl514 : Array (Option Value)} {f518 : Addr} {od520 : Option Addr} {an521 : Option Addr} {oc522 : Value} {kV523 : Value} {dc524 : Value} {pm525 : Value} {cd526 : Value} {ct527 : Value} {sl528 : Array (Option Value)} {f532 : Addr} {od534 : Option Addr} {an535 : Option Addr} {oc536 : Value} {kV537 : Value} {dc538 : Value} {pm539 : Value} {cd540 : Value} {ct541 : Value} {sl542 : Array (Option Value)} {f546 : Addr} {od548 : Option Addr} {an549 : Option Addr} {oc550 : Value} {kV551 : Value} {dc552 : Value} {pm553 : Value} {cd554 : Value} {ct555 : Value} {sl556 : Array (Option Value)} {f560 : Addr} {od562 : Option Addr} {an563 : Option Addr} {oc564 : Value} {kV565 : Value} {dc566 : Value} {pm567 : Value} {cd568 : Value} {ct569 : Value} {sl570 : Array (Option Value)} {f574 : Addr} {od576 : Option Addr} {an577 : Option Addr} {oc578 : Value} {kV579 : Value} {dc580 : Value} {pm581 : Value} {cd582 : Value} {ct583 : Value} {sl584 : Array (Option Value)} {f588 : Addr} {od590 : Option Addr} {an591 : Option Addr} {oc592 : Value} {kV593 : Value} {dc594 : Value} {pm595 : Value} {cd596 : Value} {ct597 : Value} {sl598 : Array (Option Value)}
    (a505 : PySem.W.nsIn K mainGlobals "with_links" = some (some (.ref f504)))
    (l515 : K.lookup f504 = some ⟨oc508, od506, .func (PySem.W.fnOf "with_links" "with_links" (defArgs s_with_links) (defBody s_with_links) (defScope s_with_links) .none kV509 dc510 pm511 an507 cd512 ct513), sl514⟩)
    (c516 : PySem.W.codeIn K cd512 "with_links" = true)
    (k517 : PySem.W.keepIn K (.ref f504) = true)
    (a519 : PySem.W.nsIn K mainGlobals "link_end" = some (some (.ref f518)))
    (l529 : K.lookup f518 = some ⟨oc522, od520, .func (PySem.W.fnOf "link_end" "link_end" (defArgs s_link_end) (defBody s_link_end) (defScope s_link_end) .none kV523 dc524 pm525 an521 cd526 ct527), sl528⟩)
    (c530 : PySem.W.codeIn K cd526 "link_end" = true)
    (k531 : PySem.W.keepIn K (.ref f518) = true)
    (a533 : PySem.W.nsIn K mainGlobals "link_between" = some (some (.ref f532)))
    (l543 : K.lookup f532 = some ⟨oc536, od534, .func (PySem.W.fnOf "link_between" "link_between" (defArgs s_link_between) (defBody s_link_between) (defScope s_link_between) .none kV537 dc538 pm539 an535 cd540 ct541), sl542⟩)
    (c544 : PySem.W.codeIn K cd540 "link_between" = true)
    (k545 : PySem.W.keepIn K (.ref f532) = true)
    (a547 : PySem.W.nsIn K mainGlobals "bracket_behind" = some (some (.ref f546)))
    (l557 : K.lookup f546 = some ⟨oc550, od548, .func (PySem.W.fnOf "bracket_behind" "bracket_behind" (defArgs s_bracket_behind) (defBody s_bracket_behind) (defScope s_bracket_behind) .none kV551 dc552 pm553 an549 cd554 ct555), sl556⟩)
    (c558 : PySem.W.codeIn K cd554 "bracket_behind" = true)
    (k559 : PySem.W.keepIn K (.ref f546) = true)
    (a561 : PySem.W.nsIn K mainGlobals "address_end" = some (some (.ref f560)))
    (l571 : K.lookup f560 = some ⟨oc564, od562, .func (PySem.W.fnOf "address_end" "address_end" (defArgs s_address_end) (defBody s_address_end) (defScope s_address_end) .none kV565 dc566 pm567 an563 cd568 ct569), sl570⟩)
    (c572 : PySem.W.codeIn K cd568 "address_end" = true)
    (k573 : PySem.W.keepIn K (.ref f560) = true)
    (a575 : PySem.W.nsIn K mainGlobals "may_be_in_address" = some (some (.ref f574)))
    (l585 : K.lookup f574 = some ⟨oc578, od576, .func (PySem.W.fnOf "may_be_in_address" "may_be_in_address" (defArgs s_may_be_in_address) (defBody s_may_be_in_address) (defScope s_may_be_in_address) .none kV579 dc580 pm581 an577 cd582 ct583), sl584⟩)
    (c586 : PySem.W.codeIn K cd582 "may_be_in_address" = true)
    (k587 : PySem.W.keepIn K (.ref f574) = true)
    (a589 : PySem.W.nsIn K mainGlobals "is_bracket" = some (some (.ref f588)))
    (l599 : K.lookup f588 = some ⟨oc592, od590, .func (PySem.W.fnOf "is_bracket" "is_bracket" (defArgs s_is_bracket) (defBody s_is_bracket) (defScope s_is_bracket) .none kV593 dc594 pm595 an591 cd596 ct597), sl598⟩)
    (c600 : PySem.W.codeIn K cd596 "is_bracket" = true)
    (k601 : PySem.W.keepIn K (.ref f588) = true) : TxtLinks K mg := { toTxtThings := T, d_with_links := mkDef X G a505 l515 c516 k517 bd_d_with_links, d_link_end := mkDef X G a519 l529 c530 k531 bd_d_link_end, d_link_between := mkDef X G a533 l543 c544 k545 bd_d_link_between, d_bracket_behind := mkDef X G a547 l557 c558 k559 bd_d_bracket_behind, d_address_end := mkDef X G a561 l571 c572 k573 bd_d_address_end, d_may_be_in_address := mkDef X G a575 l585 c586 k587 bd_d_may_be_in_address, d_is_bracket := mkDef X G a589 l599 c600 k601 bd_d_is_bracket }
@[reducible] def mk_TxtRunning {K : PySem.W.Frag} {h : Heap} {mg : Str → Option Value} (X : K.In h) (G : h.Ns mainGlobals mg) (T : TxtLinks K mg) 
    {f603 : Addr} {od605 : Option Addr} {an606 : Option Addr} {oc607 : Value} {kV608 : Value} {dc609 : Value} {pm610 : Value} {cd611 : Value} {ct612 : Value} {sl613 : Array (Option Value)} {f617 : Addr} {od619 : Option Addr} {an620 : Option Addr} {oc621 : Value} {kV622 : Value} {dc623 : Value} {pm624 : Value} {cd625 : Value} {ct626 : Value} {sl627 : Array (Option Value)} {f631 : Addr} {od633 : Option Addr} {an634 : Option Addr} {oc635 : Value} {kV636 : Value} {dc637 : Value} {pm638 : Value} {cd639 : Value} {ct640 : Value} {sl641 : Array (Option Value)} {f645 : Addr} {od647 : Option Addr} {an648 : Option Addr} {oc649 : Value} {kV650 : Value} {dc651 : Value} {pm652 : Value} {cd653 : Value} {ct654 : Value} {sl655 : Array (Option Value)} {f659 : Addr} {od661 : Option Addr} {an662 : Option Addr} {oc663 : Value} {kV664 : Value} {dc665 : Value} {pm666 : Value} {cd667 : Value} {ct668 : Value} {sl669 : Array (Option Value)}
    (b602 : PySem.W.nsIn K mainGlobals "range" = some none)
    (a604 : PySem.W.nsIn K mainGlobals "tell_running_text" = some (some (.ref f603)))
    (l614 : K.lookup f603 = some ⟨oc607, od605, .func (PySem.W.fnOf "tell_running_text" "tell_running_text" (defArgs s_tell_running_text) (defBody s_tell_running_text) (defScope s_tell_running_text) .none kV608 dc609 pm610 an606 cd611 ct612), sl613⟩)
    (c615 : PySem.W.codeIn K cd611 "tell_running_text" = true)
    (k616 : PySem.W.keepIn K (.ref f603) = true)
    (a618 : PySem.W.nsIn K mainGlobals "tell_things" = some (some (.ref f617)))
    (l628 : K.lookup f617 = some ⟨oc621, od619, .func (PySem.W.fnOf "tell_things" "tell_things" (defArgs s_tell_things) (defBody s_tell_things) (defScope s_tell_things) .none kV622 dc623 pm624 an620 cd625 ct626), sl627⟩)
    (c629 : PySem.W.codeIn K cd625 "tell_things" = true)
    (k630 : PySem.W.keepIn K (.ref f617) = true)
    (a632 : PySem.W.nsIn K mainGlobals "tell_thing" = some (some (.ref f631)))
    (l642 : K.lookup f631 = some ⟨oc635, od633, .func (PySem.W.fnOf "tell_thing" "tell_thing" (defArgs s_tell_thing) (defBody s_tell_thing) (defScope s_tell_thing) .none kV636 dc637 pm638 an634 cd639 ct640), sl641⟩)
    (c643 : PySem.W.codeIn K cd639 "tell_thing" = true)
    (k644 : PySem.W.keepIn K (.ref f631) = true)
    (a646 : PySem.W.nsIn K mainGlobals "begins_emphasis" = some (some (.ref f645)))
    (l656 : K.lookup f645 = some ⟨oc649, od647, .func (PySem.W.fnOf "begins_emphasis" "begins_emphasis" (defArgs s_begins_emphasis) (defBody s_begins_emphasis) (defScope s_begins_emphasis) .none kV650 dc651 pm652 an648 cd653 ct654), sl655⟩)
    (c657 : PySem.W.codeIn K cd653 "begins_emphasis" = true)
    (k658 : PySem.W.keepIn K (.ref f645) = true)
    (a660 : PySem.W.nsIn K mainGlobals "emphasis_ends" = some (some (.ref f659)))
    (l670 : K.lookup f659 = some ⟨oc663, od661, .func (PySem.W.fnOf "emphasis_ends" "emphasis_ends" (defArgs s_emphasis_ends) (defBody s_emphasis_ends) (defScope s_emphasis_ends) .none kV664 dc665 pm666 an662 cd667 ct668), sl669⟩)
    (c671 : PySem.W.codeIn K cd667 "emphasis_ends" = true)
    (k672 : PySem.W.keepIn K (.ref f659) = true) : TxtRunning K mg := { toTxtLinks := T, b_range := PySem.W.mg_none_of X G b602, d_tell_running_text := mkDef X G a604 l614 c615 k616 bd_d_tell_running_text, d_tell_things := mkDef X G a618 l628 c629 k630 bd_d_tell_things, d_tell_thing := mkDef X G a632 l642 c643 k644 bd_d_tell_thing, d_begins_emphasis := mkDef X G a646 l656 c657 k658 bd_d_begins_emphasis, d_emphasis_ends := mkDef X G a660 l670 c671 k672 bd_d_emphasis_ends }
@[reducible] def mk_TxtMeaning {K : PySem.W.Frag} {h : Heap} {mg : Str → Option Value} (X : K.In h) (G : h.Ns mainGlobals mg) (T : TxtRunning K mg) 
    {f674 : Addr} {od676 : Option Addr} {an677 : Option Addr} {oc678 : Value} {kV679 : Value} {dc680 : Value} {pm681 : Value} {cd682 : Value} {ct683 : Value} {sl684 : Array (Option Value)} {f688 : Addr} {od690 : Option Addr} {an691 : Option Addr} {oc692 : Value} {kV693 : Value} {dc694 : Value} {pm695 : Value} {cd696 : Value} {ct697 : Value} {sl698 : Array (Option Value)} {f702 : Addr} {od704 : Option Addr} {an705 : Option Addr} {oc706 : Value} {kV707 : Value} {dc708 : Value} {pm709 : Value} {cd710 : Value} {ct711 : Value} {sl712 : Array (Option Value)} {f716 : Addr} {od718 : Option Addr} {an719 : Option Addr} {oc720 : Value} {kV721 : Value} {dc722 : Value} {pm723 : Value} {cd724 : Value} {ct725 : Value} {sl726 : Array (Option Value)}
    (b673 : PySem.W.nsIn K mainGlobals "min" = some none)
    (a675 : PySem.W.nsIn K mainGlobals "events_of" = some (some (.ref f674)))
    (l685 : K.lookup f674 = some ⟨oc678, od676, .func (PySem.W.fnOf "events_of" "events_of" (defArgs s_events_of) (defBody s_events_of) (defScope s_events_of) .none kV679 dc680 pm681 an677 cd682 ct683), sl684⟩)
    (c686 : PySem.W.codeIn K cd682 "events_of" = true)
    (k687 : PySem.W.keepIn K (.ref f674) = true)
    (a689 : PySem.W.nsIn K mainGlobals "tell_item" = some (some (.ref f688)))
    (l699 : K.lookup f688 = some ⟨oc692, od690, .func (PySem.W.fnOf "tell_item" "tell_item" (defArgs s_tell_item) (defBody s_tell_item) (defScope s_tell_item) .none kV693 dc694 pm695 an691 cd696 ct697), sl698⟩)
    (c700 : PySem.W.codeIn K cd696 "tell_item" = true)
    (k701 : PySem.W.keepIn K (.ref f688) = true)
    (a703 : PySem.W.nsIn K mainGlobals "end_items" = some (some (.ref f702)))
    (l713 : K.lookup f702 = some ⟨oc706, od704, .func (PySem.W.fnOf "end_items" "end_items" (defArgs s_end_items) (defBody s_end_items) (defScope s_end_items) .none kV707 dc708 pm709 an705 cd710 ct711), sl712⟩)
    (c714 : PySem.W.codeIn K cd710 "end_items" = true)
    (k715 : PySem.W.keepIn K (.ref f702) = true)
    (a717 : PySem.W.nsIn K mainGlobals "tell_block" = some (some (.ref f716)))
    (l727 : K.lookup f716 = some ⟨oc720, od718, .func (PySem.W.fnOf "tell_block" "tell_block" (defArgs s_tell_block) (defBody s_tell_block) (defScope s_tell_block) .none kV721 dc722 pm723 an719 cd724 ct725), sl726⟩)
    (c728 : PySem.W.codeIn K cd724 "tell_block" = true)
    (k729 : PySem.W.keepIn K (.ref f716) = true) : TxtMeaning K mg := { toTxtRunning := T, b_min := PySem.W.mg_none_of X G b673, d_events_of := mkDef X G a675 l685 c686 k687 bd_d_events_of, d_tell_item := mkDef X G a689 l699 c700 k701 bd_d_tell_item, d_end_items := mkDef X G a703 l713 c714 k715 bd_d_end_items, d_tell_block := mkDef X G a717 l727 c728 k729 bd_d_tell_block }
@[reducible] def mk_TxtTelling {K : PySem.W.Frag} {h : Heap} {mg : Str → Option Value} (X : K.In h) (G : h.Ns mainGlobals mg) (T : TxtMeaning K mg) 
    {f730 : Addr} {od732 : Option Addr} {an733 : Option Addr} {oc734 : Value} {kV735 : Value} {dc736 : Value} {pm737 : Value} {cd738 : Value} {ct739 : Value} {sl740 : Array (Option Value)} {f744 : Addr} {od746 : Option Addr} {an747 : Option Addr} {oc748 : Value} {kV749 : Value} {dc750 : Value} {pm751 : Value} {cd752 : Value} {ct753 : Value} {sl754 : Array (Option Value)} {f758 : Addr} {od760 : Option Addr} {an761 : Option Addr} {oc762 : Value} {kV763 : Value} {dc764 : Value} {pm765 : Value} {cd766 : Value} {ct767 : Value} {sl768 : Array (Option Value)}
    (a731 : PySem.W.nsIn K mainGlobals "told_bytes" = some (some (.ref f730)))
    (l741 : K.lookup f730 = some ⟨oc734, od732, .func (PySem.W.fnOf "told_bytes" "told_bytes" (defArgs s_told_bytes) (defBody s_told_bytes) (defScope s_told_bytes) .none kV735 dc736 pm737 an733 cd738 ct739), sl740⟩)
    (c742 : PySem.W.codeIn K cd738 "told_bytes" = true)
    (k743 : PySem.W.keepIn K (.ref f730) = true)
    (a745 : PySem.W.nsIn K mainGlobals "told_event" = some (some (.ref f744)))
    (l755 : K.lookup f744 = some ⟨oc748, od746, .func (PySem.W.fnOf "told_event" "told_event" (defArgs s_told_event) (defBody s_told_event) (defScope s_told_event) .none kV749 dc750 pm751 an747 cd752 ct753), sl754⟩)
    (c756 : PySem.W.codeIn K cd752 "told_event" = true)
    (k757 : PySem.W.keepIn K (.ref f744) = true)
    (a759 : PySem.W.nsIn K mainGlobals "told_line" = some (some (.ref f758)))
    (l769 : K.lookup f758 = some ⟨oc762, od760, .func (PySem.W.fnOf "told_line" "told_line" (defArgs s_told_line) (defBody s_told_line) (defScope s_told_line) .none kV763 dc764 pm765 an761 cd766 ct767), sl768⟩)
    (c770 : PySem.W.codeIn K cd766 "told_line" = true)
    (k771 : PySem.W.keepIn K (.ref f758) = true) : TxtTelling K mg := { toTxtMeaning := T, d_told_bytes := mkDef X G a731 l741 c742 k743 bd_d_told_bytes, d_told_event := mkDef X G a745 l755 c756 k757 bd_d_told_event, d_told_line := mkDef X G a759 l769 c770 k771 bd_d_told_line }
@[reducible] def mk_TxtAlone {K : PySem.W.Frag} {h : Heap} {mg : Str → Option Value} (X : K.In h) (G : h.Ns mainGlobals mg) (T : TxtTelling K mg) 
    {t772 : PySem.Tok} {f774 : Addr} {od776 : Option Addr} {an777 : Option Addr} {oc778 : Value} {kV779 : Value} {dc780 : Value} {pm781 : Value} {cd782 : Value} {ct783 : Value} {sl784 : Array (Option Value)} {f788 : Addr} {od790 : Option Addr} {an791 : Option Addr} {oc792 : Value} {kV793 : Value} {dc794 : Value} {pm795 : Value} {cd796 : Value} {ct797 : Value} {sl798 : Array (Option Value)} {f802 : Addr} {od804 : Option Addr} {an805 : Option Addr} {oc806 : Value} {kV807 : Value} {dc808 : Value} {pm809 : Value} {cd810 : Value} {ct811 : Value} {sl812 : Array (Option Value)}
    (a773 : PySem.W.nsIn K mainGlobals "LONGEST_ALONE" = some (some (.int 2048 t772)))
    (a775 : PySem.W.nsIn K mainGlobals "all_events" = some (some (.ref f774)))
    (l785 : K.lookup f774 = some ⟨oc778, od776, .func (PySem.W.fnOf "all_events" "all_events" (defArgs s_all_events) (defBody s_all_events) (defScope s_all_events) .none kV779 dc780 pm781 an777 cd782 ct783), sl784⟩)
    (c786 : PySem.W.codeIn K cd782 "all_events" = true)
    (k787 : PySem.W.keepIn K (.ref f774) = true)
    (a789 : PySem.W.nsIn K mainGlobals "all_lines" = some (some (.ref f788)))
    (l799 : K.lookup f788 = some ⟨oc792, od790, .func (PySem.W.fnOf "all_lines" "all_lines" (defArgs s_all_lines) (defBody s_all_lines) (defScope s_all_lines) .none kV793 dc794 pm795 an791 cd796 ct797), sl798⟩)
    (c800 : PySem.W.codeIn K cd796 "all_lines" = true)
    (k801 : PySem.W.keepIn K (.ref f788) = true)
    (a803 : PySem.W.nsIn K mainGlobals "one_by_one" = some (some (.ref f802)))
    (l813 : K.lookup f802 = some ⟨oc806, od804, .func (PySem.W.fnOf "one_by_one" "one_by_one" (defArgs s_one_by_one) (defBody s_one_by_one) (defScope s_one_by_one) .none kV807 dc808 pm809 an805 cd810 ct811), sl812⟩)
    (c814 : PySem.W.codeIn K cd810 "one_by_one" = true)
    (k815 : PySem.W.keepIn K (.ref f802) = true) : TxtAlone K mg := { toTxtTelling := T, c_LONGEST_ALONE := mkInt X G a773, d_all_events := mkDef X G a775 l785 c786 k787 bd_d_all_events, d_all_lines := mkDef X G a789 l799 c800 k801 bd_d_all_lines, d_one_by_one := mkDef X G a803 l813 c814 k815 bd_d_one_by_one }
@[reducible] def mk_TxtMarkup {K : PySem.W.Frag} {h : Heap} {mg : Str → Option Value} (X : K.In h) (G : h.Ns mainGlobals mg) (T : TxtAlone K mg) 
    {f818 : Addr} {od819 : Option Addr} {its820 : Array Value} {m821 : Nat} {sl822 : Array (Option Value)} {f825 : Addr} {f826 : Addr} {f827 : Addr} {f828 : Addr} {f829 : Addr} {f830 : Addr} {f831 : Addr} {f832 : Addr} {f833 : Addr} {f834 : Addr} {f835 : Addr} {f836 : Addr} {f837 : Addr} {f838 : Addr} {f839 : Addr} {f840 : Addr} {f841 : Addr} {od844 : Option Addr} {its845 : Array Value} {m846 : Nat} {sl847 : Array (Option Value)} {od851 : Option Addr} {its852 : Array Value} {m853 : Nat} {sl854 : Array (Option Value)} {od858 : Option Addr} {its859 : Array Value} {m860 : Nat} {sl861 : Array (Option Value)} {od865 : Option Addr} {its866 : Array Value} {m867 : Nat} {sl868 : Array (Option Value)} {od872 : Option Addr} {its873 : Array Value} {m874 : Nat} {sl875 : Array (Option Value)} {od879 : Option Addr} {its880 : Array Value} {m881 : Nat} {sl882 : Array (Option Value)} {od886 : Option Addr} {its887 : Array Value} {m888 : Nat} {sl889 : Array (Option Value)} {od893 : Option Addr} {its894 : Array Value} {m895 : Nat} {sl896 : Array (Option Value)} {od900 : Option Addr} {its901 : Array Value} {m902 : Nat} {sl903 : Array (Option Value)} {od907 : Option Addr} {its908 : Array Value} {m909 : Nat} {sl910 : Array (Option Value)} {od914 : Option Addr} {its915 : Array Value} {m916 : Nat} {sl917 : Array (Option Value)} {od921 : Option Addr} {its922 : Array Value} {m923 : Nat} {sl924 : Array (Option Value)} {od928 : Option Addr} {its929 : Array Value} {m930 : Nat} {sl931 : Array (Option Value)} {od935 : Option Addr} {its936 : Array Value} {m937 : Nat} {sl938 : Array (Option Value)} {od942 : Option Addr} {its943 : Array Value} {m944 : Nat} {sl945 : Array (Option Value)} {od949 : Option Addr} {its950 : Array Value} {m951 : Nat} {sl952 : Array (Option Value)} {od956 : Option Addr} {its957 : Array Value} {m958 : Nat} {sl959 : Array (Option Value)} {f963 : Addr} {es964 : Array DictEntry} {m965 : Nat} {f970 : Addr} {od972 : Option Addr} {an973 : Option Addr} {oc974 : Value} {kV975 : Value} {dc976 : Value} {pm977 : Value} {cd978 : Value} {ct979 : Value} {sl980 : Array (Option Value)} {f984 : Addr} {od986 : Option Addr} {an987 : Option Addr} {oc988 : Value} {kV989 : Value} {dc990 : Value} {pm991 : Value} {cd992 : Value} {ct993 : Value} {sl994 : Array (Option Value)} {f998 : Addr} {od1000 : Option Addr} {an1001 : Option Addr} {oc1002 : Value} {kV1003 : Value} {dc1004 : Value} {pm1005 : Value} {cd1006 : Value} {ct1007 : Value} {sl1008 : Array (Option Value)}
    (b816 : PySem.W.nsIn K mainGlobals "ord" = some none)
    (b817 : PySem.W.nsIn K mainGlobals "str" = some none)
    (a823 : PySem.W.nsIn K mainGlobals "TAGS" = some (some (.ref f818)))
    (l824 : K.lookup f818 = some ⟨.type "tuple", od819, .seq its820 m821, sl822⟩)
    (z842 : its820.size ≤ sizeLine)
    (v843 : Vals [.ref f825, .ref f826, .ref f827, .ref f828, .ref f829, .ref f830, .ref f831, .ref f832, .ref f833, .ref f834, .ref f835, .ref f836, .ref f837, .ref f838, .ref f839, .ref f840, .ref f841] its820.toList)
    (l848 : K.lookup f825 = some ⟨.type "tuple", od844, .seq its845 m846, sl847⟩)
    (z849 : its845.size ≤ sizeLine)
    (v850 : Vals [.str "", .str ""] its845.toList)
    (l855 : K.lookup f826 = some ⟨.type "tuple", od851, .seq its852 m853, sl854⟩)
    (z856 : its852.size ≤ sizeLine)
    (v857 : Vals [.str "<code>", .str "</code>"] its852.toList)
    (l862 : K.lookup f827 = some ⟨.type "tuple", od858, .seq its859 m860, sl861⟩)
    (z863 : its859.size ≤ sizeLine)
    (v864 : Vals [.str "<p>", .str ""] its859.toList)
    (l869 : K.lookup f828 = some ⟨.type "tuple", od865, .seq its866 m867, sl868⟩)
    (z870 : its866.size ≤ sizeLine)
    (v871 : Vals [.str "</p>\n", .str ""] its866.toList)
    (l876 : K.lookup f829 = some ⟨.type "tuple", od872, .seq its873 m874, sl875⟩)
    (z877 : its873.size ≤ sizeLine)
    (v878 : Vals [.str "<h", .str ">"] its873.toList)
    (l883 : K.lookup f830 = some ⟨.type "tuple", od879, .seq its880 m881, sl882⟩)
    (z884 : its880.size ≤ sizeLine)
    (v885 : Vals [.str "</h", .str ">\n"] its880.toList)
    (l890 : K.lookup f831 = some ⟨.type "tuple", od886, .seq its887 m888, sl889⟩)
    (z891 : its887.size ≤ sizeLine)
    (v892 : Vals [.str "<ul>\n", .str ""] its887.toList)
    (l897 : K.lookup f832 = some ⟨.type "tuple", od893, .seq its894 m895, sl896⟩)
    (z898 : its894.size ≤ sizeLine)
    (v899 : Vals [.str "</ul>\n", .str ""] its894.toList)
    (l904 : K.lookup f833 = some ⟨.type "tuple", od900, .seq its901 m902, sl903⟩)
    (z905 : its901.size ≤ sizeLine)
    (v906 : Vals [.str "<li>", .str ""] its901.toList)
    (l911 : K.lookup f834 = some ⟨.type "tuple", od907, .seq its908 m909, sl910⟩)
    (z912 : its908.size ≤ sizeLine)
    (v913 : Vals [.str "</li>\n", .str ""] its908.toList)
    (l918 : K.lookup f835 = some ⟨.type "tuple", od914, .seq its915 m916, sl917⟩)
    (z919 : its915.size ≤ sizeLine)
    (v920 : Vals [.str "<pre title=\"", .str "\">\n"] its915.toList)
    (l925 : K.lookup f836 = some ⟨.type "tuple", od921, .seq its922 m923, sl924⟩)
    (z926 : its922.size ≤ sizeLine)
    (v927 : Vals [.str "", .str "\n"] its922.toList)
    (l932 : K.lookup f837 = some ⟨.type "tuple", od928, .seq its929 m930, sl931⟩)
    (z933 : its929.size ≤ sizeLine)
    (v934 : Vals [.str "</pre>\n", .str ""] its929.toList)
    (l939 : K.lookup f838 = some ⟨.type "tuple", od935, .seq its936 m937, sl938⟩)
    (z940 : its936.size ≤ sizeLine)
    (v941 : Vals [.str "<em>", .str ""] its936.toList)
    (l946 : K.lookup f839 = some ⟨.type "tuple", od942, .seq its943 m944, sl945⟩)
    (z947 : its943.size ≤ sizeLine)
    (v948 : Vals [.str "</em>", .str ""] its943.toList)
    (l953 : K.lookup f840 = some ⟨.type "tuple", od949, .seq its950 m951, sl952⟩)
    (z954 : its950.size ≤ sizeLine)
    (v955 : Vals [.str "<a href=\"", .str "\">"] its950.toList)
    (l960 : K.lookup f841 = some ⟨.type "tuple", od956, .seq its957 m958, sl959⟩)
    (z961 : its957.size ≤ sizeLine)
    (v962 : Vals [.str "</a>", .str ""] its957.toList)
    (a966 : PySem.W.nsIn K mainGlobals "ESCAPES" = some (some (.ref f963)))
    (l967 : K.lookup f963 = some ⟨.type "dict", none, .dict es964 m965, #[]⟩)
    (r968 : Ents escS es964.toList)
    (o969 : (f963 == sysModules) = false)
    (a971 : PySem.W.nsIn K mainGlobals "html_of" = some (some (.ref f970)))
    (l981 : K.lookup f970 = some ⟨oc974, od972, .func (PySem.W.fnOf "html_of" "html_of" (defArgs s_html_of) (defBody s_html_of) (defScope s_html_of) .none kV975 dc976 pm977 an973 cd978 ct979), sl980⟩)
    (c982 : PySem.W.codeIn K cd978 "html_of" = true)
    (k983 : PySem.W.keepIn K (.ref f970) = true)
    (a985 : PySem.W.nsIn K mainGlobals "written" = some (some (.ref f984)))
    (l995 : K.lookup f984 = some ⟨oc988, od986, .func (PySem.W.fnOf "written" "written" (defArgs s_written) (defBody s_written) (defScope s_written) .none kV989 dc990 pm991 an987 cd992 ct993), sl994⟩)
    (c996 : PySem.W.codeIn K cd992 "written" = true)
    (k997 : PySem.W.keepIn K (.ref f984) = true)
    (a999 : PySem.W.nsIn K mainGlobals "escaped" = some (some (.ref f998)))
    (l1009 : K.lookup f998 = some ⟨oc1002, od1000, .func (PySem.W.fnOf "escaped" "escaped" (defArgs s_escaped) (defBody s_escaped) (defScope s_escaped) .none kV1003 dc1004 pm1005 an1001 cd1006 ct1007), sl1008⟩)
    (c1010 : PySem.W.codeIn K cd1006 "escaped" = true)
    (k1011 : PySem.W.keepIn K (.ref f998) = true) : TxtMarkup K mg := { toTxtAlone := T, b_ord := PySem.W.mg_none_of X G b816, b_str := PySem.W.mg_none_of X G b817, c_TAGS := mkPairs (ps := [f825, f826, f827, f828, f829, f830, f831, f832, f833, f834, f835, f836, f837, f838, f839, f840, f841]) X G a823 l824 z842 v843 (.cons (pairRow l848 z849 v850) (.cons (pairRow l855 z856 v857) (.cons (pairRow l862 z863 v864) (.cons (pairRow l869 z870 v871) (.cons (pairRow l876 z877 v878) (.cons (pairRow l883 z884 v885) (.cons (pairRow l890 z891 v892) (.cons (pairRow l897 z898 v899) (.cons (pairRow l904 z905 v906) (.cons (pairRow l911 z912 v913) (.cons (pairRow l918 z919 v920) (.cons (pairRow l925 z926 v927) (.cons (pairRow l932 z933 v934) (.cons (pairRow l939 z940 v941) (.cons (pairRow l946 z947 v948) (.cons (pairRow l953 z954 v955) (.cons (pairRow l960 z961 v962) .nil))))))))))))))))), c_ESCAPES := mkDct X G a966 l967 r968 o969, d_html_of := mkDef X G a971 l981 c982 k983 bd_d_html_of, d_written := mkDef X G a985 l995 c996 k997 bd_d_written, d_escaped := mkDef X G a999 l1009 c1010 k1011 bd_d_escaped }
@[reducible] def mk_TxtSession {K : PySem.W.Frag} {h : Heap} {mg : Str → Option Value} (X : K.In h) (G : h.Ns mainGlobals mg) (T : TxtMarkup K mg) 
    {C1012 : Addr} {f1013 : Addr} {od1023 : Option Addr} {an1024 : Option Addr} {oc1025 : Value} {kV1026 : Value} {dc1027 : Value} {pm1028 : Value} {cd1029 : Value} {ct1030 : Value} {sl1031 : Array (Option Value)} {f1038 : Addr} {od1041 : Option Addr} {an1042 : Option Addr} {oc1043 : Value} {kV1044 : Value} {dc1045 : Value} {pm1046 : Value} {cd1047 : Value} {ct1048 : Value} {sl1049 : Array (Option Value)} {f1053 : Addr} {od1056 : Option Addr} {an1057 : Option Addr} {oc1058 : Value} {kV1059 : Value} {dc1060 : Value} {pm1061 : Value} {cd1062 : Value} {ct1063 : Value} {sl1064 : Array (Option Value)} {f1068 : Addr} {od1071 : Option Addr} {an1072 : Option Addr} {oc1073 : Value} {kV1074 : Value} {dc1075 : Value} {pm1076 : Value} {cd1077 : Value} {ct1078 : Value} {sl1079 : Array (Option Value)} {f1083 : Addr} {od1086 : Option Addr} {an1087 : Option Addr} {oc1088 : Value} {kV1089 : Value} {dc1090 : Value} {pm1091 : Value} {cd1092 : Value} {ct1093 : Value} {sl1094 : Array (Option Value)} {f1098 : Addr} {od1101 : Option Addr} {an1102 : Option Addr} {oc1103 : Value} {kV1104 : Value} {dc1105 : Value} {pm1106 : Value} {cd1107 : Value} {ct1108 : Value} {sl1109 : Array (Option Value)} {t1113 : PySem.Tok}
    (a1014 : PySem.W.nsIn K mainGlobals "Session" = some (some (.ref C1012)))
    (pg1015 : PySem.W.plainGet K C1012 Str.empty = true)
    (hd1016 : PySem.W.hasDictIn K C1012 = true)
    (po1017 : PySem.W.plainOver K C1012 = true)
    (sa1018 : PySem.W.findIn K (.ref C1012) "__setattr__" = some (some (.builtin "object.__setattr__")))
    (mk1019 : PySem.W.makesIn K C1012 = true)
    (kc1020 : PySem.W.keepIn K (.ref C1012) = true)
    (i1021 : PySem.W.findIn K (.ref C1012) "__init__" = some (some (.ref f1013)))
    (fn1022 : PySem.W.isFn K (.ref f1013) = true)
    (l1032 : K.lookup f1013 = some ⟨oc1025, od1023, .func (PySem.W.fnOf "__init__" "Session.__init__" (defArgs s_Session_init__) (defBody s_Session_init__) (defScope s_Session_init__) .none kV1026 dc1027 pm1028 an1024 cd1029 ct1030), sl1031⟩)
    (c1033 : PySem.W.codeIn K cd1029 "Session.__init__" = true)
    (k1034 : PySem.W.keepIn K (.ref f1013) = true)
    (n1035 : PySem.W.findIn K (.ref C1012) "events" = some none)
    (n1036 : PySem.W.findIn K (.ref C1012) "ended" = some none)
    (n1037 : PySem.W.findIn K (.ref C1012) "text" = some none)
    (a1039 : PySem.W.findIn K (.ref C1012) "begin" = some (some (.ref f1038)))
    (fn1040 : PySem.W.isFn K (.ref f1038) = true)
    (l1050 : K.lookup f1038 = some ⟨oc1043, od1041, .func (PySem.W.fnOf "begin" "Session.begin" (defArgs s_Session_begin) (defBody s_Session_begin) (defScope s_Session_begin) .none kV1044 dc1045 pm1046 an1042 cd1047 ct1048), sl1049⟩)
    (c1051 : PySem.W.codeIn K cd1047 "Session.begin" = true)
    (k1052 : PySem.W.keepIn K (.ref f1038) = true)
    (a1054 : PySem.W.findIn K (.ref C1012) "feed" = some (some (.ref f1053)))
    (fn1055 : PySem.W.isFn K (.ref f1053) = true)
    (l1065 : K.lookup f1053 = some ⟨oc1058, od1056, .func (PySem.W.fnOf "feed" "Session.feed" (defArgs s_Session_feed) (defBody s_Session_feed) (defScope s_Session_feed) .none kV1059 dc1060 pm1061 an1057 cd1062 ct1063), sl1064⟩)
    (c1066 : PySem.W.codeIn K cd1062 "Session.feed" = true)
    (k1067 : PySem.W.keepIn K (.ref f1053) = true)
    (a1069 : PySem.W.findIn K (.ref C1012) "end" = some (some (.ref f1068)))
    (fn1070 : PySem.W.isFn K (.ref f1068) = true)
    (l1080 : K.lookup f1068 = some ⟨oc1073, od1071, .func (PySem.W.fnOf "end" "Session.end" (defArgs s_Session_end) (defBody s_Session_end) (defScope s_Session_end) .none kV1074 dc1075 pm1076 an1072 cd1077 ct1078), sl1079⟩)
    (c1081 : PySem.W.codeIn K cd1077 "Session.end" = true)
    (k1082 : PySem.W.keepIn K (.ref f1068) = true)
    (a1084 : PySem.W.findIn K (.ref C1012) "event" = some (some (.ref f1083)))
    (fn1085 : PySem.W.isFn K (.ref f1083) = true)
    (l1095 : K.lookup f1083 = some ⟨oc1088, od1086, .func (PySem.W.fnOf "event" "Session.event" (defArgs s_Session_event) (defBody s_Session_event) (defScope s_Session_event) .none kV1089 dc1090 pm1091 an1087 cd1092 ct1093), sl1094⟩)
    (c1096 : PySem.W.codeIn K cd1092 "Session.event" = true)
    (k1097 : PySem.W.keepIn K (.ref f1083) = true)
    (a1099 : PySem.W.findIn K (.ref C1012) "html" = some (some (.ref f1098)))
    (fn1100 : PySem.W.isFn K (.ref f1098) = true)
    (l1110 : K.lookup f1098 = some ⟨oc1103, od1101, .func (PySem.W.fnOf "html" "Session.html" (defArgs s_Session_html) (defBody s_Session_html) (defScope s_Session_html) .none kV1104 dc1105 pm1106 an1102 cd1107 ct1108), sl1109⟩)
    (c1111 : PySem.W.codeIn K cd1107 "Session.html" = true)
    (k1112 : PySem.W.keepIn K (.ref f1098) = true)
    (a1114 : PySem.W.nsIn K mainGlobals "LONGEST_TEXT" = some (some (.int 16384 t1113)))
    (x1115 : C1012 ≠ T.k_Event.C) : TxtSession K mg := { toTxtMarkup := T, m_Session_init__ := mkInit l1032 c1033 k1034 bd_m_Session_init__, k_Session := mkCls X G a1014 pg1015 hd1016 po1017 sa1018 mk1019 kc1020 i1021 fn1022, n_Session := (allNo n1037 (allNo n1036 (allNo n1035 allNo_nil))), m_Session_begin := mkMeth a1039 fn1040 l1050 c1051 k1052 bd_m_Session_begin, m_Session_feed := mkMeth a1054 fn1055 l1065 c1066 k1067 bd_m_Session_feed, m_Session_end := mkMeth a1069 fn1070 l1080 c1081 k1082 bd_m_Session_end, m_Session_event := mkMeth a1084 fn1085 l1095 c1096 k1097 bd_m_Session_event, m_Session_html := mkMeth a1099 fn1100 l1110 c1111 k1112 bd_m_Session_html, c_LONGEST_TEXT := mkInt X G a1114, x_SE := x1115 }
@[reducible] def mk_TxtNotes {K : PySem.W.Frag} {h : Heap} {mg : Str → Option Value} (X : K.In h) (G : h.Ns mainGlobals mg) (T : TxtSession K mg) 
    {f1116 : Addr} {od1118 : Option Addr} {an1119 : Option Addr} {oc1120 : Value} {kV1121 : Value} {dc1122 : Value} {pm1123 : Value} {cd1124 : Value} {ct1125 : Value} {sl1126 : Array (Option Value)} {f1130 : Addr} {od1132 : Option Addr} {an1133 : Option Addr} {oc1134 : Value} {kV1135 : Value} {dc1136 : Value} {pm1137 : Value} {cd1138 : Value} {ct1139 : Value} {sl1140 : Array (Option Value)} {f1144 : Addr} {od1146 : Option Addr} {an1147 : Option Addr} {oc1148 : Value} {kV1149 : Value} {dc1150 : Value} {pm1151 : Value} {cd1152 : Value} {ct1153 : Value} {sl1154 : Array (Option Value)} {t1158 : PySem.Tok} {t1160 : PySem.Tok} {t1162 : PySem.Tok} {t1164 : PySem.Tok} {t1166 : PySem.Tok} {t1168 : PySem.Tok} {t1170 : PySem.Tok}
    (a1117 : PySem.W.nsIn K mainGlobals "answers" = some (some (.ref f1116)))
    (l1127 : K.lookup f1116 = some ⟨oc1120, od1118, .func (PySem.W.fnOf "answers" "answers" (defArgs s_answers) (defBody s_answers) (defScope s_answers) .none kV1121 dc1122 pm1123 an1119 cd1124 ct1125), sl1126⟩)
    (c1128 : PySem.W.codeIn K cd1124 "answers" = true)
    (k1129 : PySem.W.keepIn K (.ref f1116) = true)
    (a1131 : PySem.W.nsIn K mainGlobals "call_end" = some (some (.ref f1130)))
    (l1141 : K.lookup f1130 = some ⟨oc1134, od1132, .func (PySem.W.fnOf "call_end" "call_end" (defArgs s_call_end) (defBody s_call_end) (defScope s_call_end) .none kV1135 dc1136 pm1137 an1133 cd1138 ct1139), sl1140⟩)
    (c1142 : PySem.W.codeIn K cd1138 "call_end" = true)
    (k1143 : PySem.W.keepIn K (.ref f1130) = true)
    (a1145 : PySem.W.nsIn K mainGlobals "answer" = some (some (.ref f1144)))
    (l1155 : K.lookup f1144 = some ⟨oc1148, od1146, .func (PySem.W.fnOf "answer" "answer" (defArgs s_answer) (defBody s_answer) (defScope s_answer) .none kV1149 dc1150 pm1151 an1147 cd1152 ct1153), sl1154⟩)
    (c1156 : PySem.W.codeIn K cd1152 "answer" = true)
    (k1157 : PySem.W.keepIn K (.ref f1144) = true)
    (a1159 : PySem.W.nsIn K mainGlobals "BEGIN" = some (some (.int 1 t1158)))
    (a1161 : PySem.W.nsIn K mainGlobals "FEED" = some (some (.int 2 t1160)))
    (a1163 : PySem.W.nsIn K mainGlobals "END" = some (some (.int 3 t1162)))
    (a1165 : PySem.W.nsIn K mainGlobals "EVENT" = some (some (.int 4 t1164)))
    (a1167 : PySem.W.nsIn K mainGlobals "HTML" = some (some (.int 5 t1166)))
    (a1169 : PySem.W.nsIn K mainGlobals "ALL" = some (some (.int 6 t1168)))
    (a1171 : PySem.W.nsIn K mainGlobals "LINES" = some (some (.int 7 t1170))) : TxtNotes K mg := { toTxtSession := T, d_answers := mkDef X G a1117 l1127 c1128 k1129 bd_d_answers, d_call_end := mkDef X G a1131 l1141 c1142 k1143 bd_d_call_end, d_answer := mkDef X G a1145 l1155 c1156 k1157 bd_d_answer, c_BEGIN := mkInt X G a1159, c_FEED := mkInt X G a1161, c_END := mkInt X G a1163, c_EVENT := mkInt X G a1165, c_HTML := mkInt X G a1167, c_ALL := mkInt X G a1169, c_LINES := mkInt X G a1171 }
end Mk
namespace Mk
open PySem PySem.Spec PyProof.Rows L2


theorem all_end {P : Program} {w : World} {K : PySem.W.Frag} {h : Heap} {mg : Str → Option Value} {fa : Addr} (X : K.In h) (G : h.Ns mainGlobals mg) (hfa : mg "answers" = some (.ref fa)) (T : TxtNotes K mg) :
    ∃ fd : FuncData, (∀ (s : Shared) (us : List Value), us.length = (["calls"] : List Str).length → BindsTo s fd ⟨us, []⟩ ((["calls"] : List Str).zip us)) ∧ ∀ base : Heap, K.In base → base.Ns mainGlobals mg → FnOk P w K mg base CX0 14 fa fd ["calls"] (spAns K) := by
  have e := hfa.symm.trans T.d_answers.g
  cases e
  obtain ⟨oc, od, kV, doc, pm, an, cdv, ct, osl, e, l, c⟩ := T.d_answers.F.ex
  refine ⟨T.d_answers.fd, fun s us hu => ?_, fun base _ _ => ?_⟩
  · rw [e]
    exact match us, hu with | [_], _ => .of_eq rfl
  · exact ok_answers T
end Mk
open PySem PySem.W PyProof.Rows
set_option maxRecDepth 100000 in
set_option maxHeartbeats 0 in
theorem PySem.Challenge.cw_marklite_s01_answers_holds : PySem.Challenge.rw_marklite_s01_answers.Holds := by
  w_on; k_headS; (case hw => exact ⟨[.list [.int 1]], by decide +kernel, by decide +kernel⟩)
  k_fillS
  refine L2.walk_specK (r := PySem.Challenge.rw_marklite_s01_answers) (k := 14) (CX := L2.CX0) (ps := ["calls"]) (sp := Mk.spAns) (by decide +kernel) rfl rfl ⟨rfl, by decide, by decide⟩ (fun w h Y => PySem.W.kIn_of Y) ?F ?S (fun _ _ _ _ z => z)
  case F =>
    intro w mg fa h Y KX G hmg
    refine' Mk.all_end KX G hmg (Mk.mk_TxtNotes KX G (Mk.mk_TxtSession KX G (Mk.mk_TxtMarkup KX G (Mk.mk_TxtAlone KX G (Mk.mk_TxtTelling KX G (Mk.mk_TxtMeaning KX G (Mk.mk_TxtRunning KX G (Mk.mk_TxtLinks KX G (Mk.mk_TxtThings KX G (Mk.mk_TxtEvents KX G (Mk.mk_TxtBlocks KX G (Mk.mk_TxtLines KX G (Mk.mk_TxtSigns KX G ?a2 ?l12 ?c13 ?k14 ?a16 ?l26 ?c27 ?k28 ?b29 ?a35 ?l36 ?z37 ?v38 ?a44 ?l45 ?z46 ?v47 ?a49 ?a51 ?a53 ?a55 ?a57 ?a59 ?a61 ?a63 ?a65 ?a67 ?a69) ?b70 ?a73 ?pg74 ?hd75 ?po76 ?sa77 ?mk78 ?kc79 ?i80 ?fn81 ?l91 ?c92 ?k93 ?n94 ?n95 ?n96 ?n97 ?a99 ?l109 ?c110 ?k111 ?a113 ?l123 ?c124 ?k125 ?a127 ?l137 ?c138 ?k139 ?a141 ?l151 ?c152 ?k153 ?a155 ?l165 ?c166 ?k167 ?a169 ?a171 ?a173 ?a175 ?a177 ?a179 ?a181) ?a184 ?pg185 ?hd186 ?po187 ?sa188 ?mk189 ?kc190 ?i191 ?fn192 ?l202 ?c203 ?k204 ?n205 ?n206 ?n207 ?n208 ?a210 ?l220 ?c221 ?k222 ?a224 ?l234 ?c235 ?k236 ?a238 ?l248 ?c249 ?k250 ?a252 ?l262 ?c263 ?k264) ?b265 ?a268 ?pg269 ?hd270 ?po271 ?sa272 ?mk273 ?kc274 ?i275 ?fn276 ?l286 ?c287 ?k288 ?n289 ?n290 ?n291 ?a294 ?pg295 ?hd296 ?po297 ?sa298 ?mk299 ?kc300 ?i301 ?fn302 ?l312 ?c313 ?k314 ?n315 ?a317 ?fn318 ?l328 ?c329 ?k330 ?a332 ?fn333 ?l343 ?c344 ?k345 ?a347 ?a349 ?a351 ?a353 ?a355 ?a357 ?a359 ?a361 ?a363 ?a365 ?a367 ?a369 ?a371 ?a373 ?a375 ?a377 ?a379) ?a382 ?pg383 ?hd384 ?po385 ?sa386 ?mk387 ?kc388 ?i389 ?fn390 ?l400 ?c401 ?k402 ?n403 ?n404 ?n405 ?a407 ?l417 ?c418 ?k419 ?a421 ?l431 ?c432 ?k433 ?a435 ?l445 ?c446 ?k447 ?a449 ?l459 ?c460 ?k461 ?a463 ?l473 ?c474 ?k475 ?a477 ?l487 ?c488 ?k489 ?a491 ?a493 ?a495 ?a497 ?a499 ?a501 ?a503) ?a505 ?l515 ?c516 ?k517 ?a519 ?l529 ?c530 ?k531 ?a533 ?l543 ?c544 ?k545 ?a547 ?l557 ?c558 ?k559 ?a561 ?l571 ?c572 ?k573 ?a575 ?l585 ?c586 ?k587 ?a589 ?l599 ?c600 ?k601) ?b602 ?a604 ?l614 ?c615 ?k616 ?a618 ?l628 ?c629 ?k630 ?a632 ?l642 ?c643 ?k644 ?a646 ?l656 ?c657 ?k658 ?a660 ?l670 ?c671 ?k672) ?b673 ?a675 ?l685 ?c686 ?k687 ?a689 ?l699 ?c700 ?k701 ?a703 ?l713 ?c714 ?k715 ?a717 ?l727 ?c728 ?k729) ?a731 ?l741 ?c742 ?k743 ?a745 ?l755 ?c756 ?k757 ?a759 ?l769 ?c770 ?k771) ?a773 ?a775 ?l785 ?c786 ?k787 ?a789 ?l799 ?c800 ?k801 ?a803 ?l813 ?c814 ?k815) ?b816 ?b817 ?a823 ?l824 ?z842 ?v843 ?l848 ?z849 ?v850 ?l855 ?z856 ?v857 ?l862 ?z863 ?v864 ?l869 ?z870 ?v871 ?l876 ?z877 ?v878 ?l883 ?z884 ?v885 ?l890 ?z891 ?v892 ?l897 ?z898 ?v899 ?l904 ?z905 ?v906 ?l911 ?z912 ?v913 ?l918 ?z919 ?v920 ?l925 ?z926 ?v927 ?l932 ?z933 ?v934 ?l939 ?z940 ?v941 ?l946 ?z947 ?v948 ?l953 ?z954 ?v955 ?l960 ?z961 ?v962 ?a966 ?l967 ?r968 ?o969 ?a971 ?l981 ?c982 ?k983 ?a985 ?l995 ?c996 ?k997 ?a999 ?l1009 ?c1010 ?k1011) ?a1014 ?pg1015 ?hd1016 ?po1017 ?sa1018 ?mk1019 ?kc1020 ?i1021 ?fn1022 ?l1032 ?c1033 ?k1034 ?n1035 ?n1036 ?n1037 ?a1039 ?fn1040 ?l1050 ?c1051 ?k1052 ?a1054 ?fn1055 ?l1065 ?c1066 ?k1067 ?a1069 ?fn1070 ?l1080 ?c1081 ?k1082 ?a1084 ?fn1085 ?l1095 ?c1096 ?k1097 ?a1099 ?fn1100 ?l1110 ?c1111 ?k1112 ?a1114 ?x1115) ?a1117 ?l1127 ?c1128 ?k1129 ?a1131 ?l1141 ?c1142 ?k1143 ?a1145 ?l1155 ?c1156 ?k1157 ?a1159 ?a1161 ?a1163 ?a1165 ?a1167 ?a1169 ?a1171)
    (case a2 => k_is)
    (case l12 => k_is)
    (case c13 => k_is)
    (case k14 => k_is)
    (case a16 => k_is)
    (case l26 => k_is)
    (case c27 => k_is)
    (case k28 => k_is)
    (case b29 => k_is)
    (case a35 => k_is)
    (case l36 => k_is)
    (case z37 => exact (by decide : 3 ≤ PySem.sizeLine))
    (case v38 => exact (.cons ⟨_, rfl⟩ (.cons ⟨_, rfl⟩ (.cons ⟨_, rfl⟩ .nil))))
    (case a44 => k_is)
    (case l45 => k_is)
    (case z46 => exact (by decide : 4 ≤ PySem.sizeLine))
    (case v47 => exact (.cons ⟨_, rfl⟩ (.cons ⟨_, rfl⟩ (.cons ⟨_, rfl⟩ (.cons ⟨_, rfl⟩ .nil)))))
    (case a49 => k_is)
    (case a51 => k_is)
    (case a53 => k_is)
    (case a55 => k_is)
    (case a57 => k_is)
    (case a59 => k_is)
    (case a61 => k_is)
    (case a63 => k_is)
    (case a65 => k_is)
    (case a67 => k_is)
    (case a69 => k_is)
    (case b70 => k_is)
    (case a73 => k_is)
    (case pg74 => k_is)
    (case hd75 => k_is)
    (case po76 => k_is)
    (case sa77 => k_is)
    (case mk78 => k_is)
    (case kc79 => k_is)
    (case i80 => k_is)
    (case fn81 => k_is)
    (case l91 => k_is)
    (case c92 => k_is)
    (case k93 => k_is)
    (case n94 => k_is)
    (case n95 => k_is)
    (case n96 => k_is)
    (case n97 => k_is)
    (case a99 => k_is)
    (case l109 => k_is)
    (case c110 => k_is)
    (case k111 => k_is)
    (case a113 => k_is)
    (case l123 => k_is)
    (case c124 => k_is)
    (case k125 => k_is)
    (case a127 => k_is)
    (case l137 => k_is)
    (case c138 => k_is)
    (case k139 => k_is)
    (case a141 => k_is)
    (case l151 => k_is)
    (case c152 => k_is)
    (case k153 => k_is)
    (case a155 => k_is)
    (case l165 => k_is)
    (case c166 => k_is)
    (case k167 => k_is)
    (case a169 => k_is)
    (case a171 => k_is)
    (case a173 => k_is)
    (case a175 => k_is)
    (case a177 => k_is)
    (case a179 => k_is)
    (case a181 => k_is)
    (case a184 => k_is)
    (case pg185 => k_is)
    (case hd186 => k_is)
    (case po187 => k_is)
    (case sa188 => k_is)
    (case mk189 => k_is)
    (case kc190 => k_is)
    (case i191 => k_is)
    (case fn192 => k_is)
    (case l202 => k_is)
    (case c203 => k_is)
    (case k204 => k_is)
    (case n205 => k_is)
    (case n206 => k_is)
    (case n207 => k_is)
    (case n208 => k_is)
    (case a210 => k_is)
    (case l220 => k_is)
    (case c221 => k_is)
    (case k222 => k_is)
    (case a224 => k_is)
    (case l234 => k_is)
    (case c235 => k_is)
    (case k236 => k_is)
    (case a238 => k_is)
    (case l248 => k_is)
    (case c249 => k_is)
    (case k250 => k_is)
    (case a252 => k_is)
    (case l262 => k_is)
    (case c263 => k_is)
    (case k264 => k_is)
    (case b265 => k_is)
    (case a268 => k_is)
    (case pg269 => k_is)
    (case hd270 => k_is)
    (case po271 => k_is)
    (case sa272 => k_is)
    (case mk273 => k_is)
    (case kc274 => k_is)
    (case i275 => k_is)
    (case fn276 => k_is)
    (case l286 => k_is)
    (case c287 => k_is)
    (case k288 => k_is)
    (case n289 => k_is)
    (case n290 => k_is)
    (case n291 => k_is)
    (case a294 => k_is)
    (case pg295 => k_is)
    (case hd296 => k_is)
    (case po297 => k_is)
    (case sa298 => k_is)
    (case mk299 => k_is)
    (case kc300 => k_is)
    (case i301 => k_is)
    (case fn302 => k_is)
    (case l312 => k_is)
    (case c313 => k_is)
    (case k314 => k_is)
    (case n315 => k_is)
    (case a317 => k_is)
    (case fn318 => k_is)
    (case l328 => k_is)
    (case c329 => k_is)
    (case k330 => k_is)
    (case a332 => k_is)
    (case fn333 => k_is)
    (case l343 => k_is)
    (case c344 => k_is)
    (case k345 => k_is)
    (case a347 => k_is)
    (case a349 => k_is)
    (case a351 => k_is)
    (case a353 => k_is)
    (case a355 => k_is)
    (case a357 => k_is)
    (case a359 => k_is)
    (case a361 => k_is)
    (case a363 => k_is)
    (case a365 => k_is)
    (case a367 => k_is)
    (case a369 => k_is)
    (case a371 => k_is)
    (case a373 => k_is)
    (case a375 => k_is)
    (case a377 => k_is)
    (case a379 => k_is)
    (case a382 => k_is)
    (case pg383 => k_is)
    (case hd384 => k_is)
    (case po385 => k_is)
    (case sa386 => k_is)
    (case mk387 => k_is)
    (case kc388 => k_is)
    (case i389 => k_is)
    (case fn390 => k_is)
    (case l400 => k_is)
    (case c401 => k_is)
    (case k402 => k_is)
    (case n403 => k_is)
    (case n404 => k_is)
    (case n405 => k_is)
    (case a407 => k_is)
    (case l417 => k_is)
    (case c418 => k_is)
    (case k419 => k_is)
    (case a421 => k_is)
    (case l431 => k_is)
    (case c432 => k_is)
    (case k433 => k_is)
    (case a435 => k_is)
    (case l445 => k_is)
    (case c446 => k_is)
    (case k447 => k_is)
    (case a449 => k_is)
    (case l459 => k_is)
    (case c460 => k_is)
    (case k461 => k_is)
    (case a463 => k_is)
    (case l473 => k_is)
    (case c474 => k_is)
    (case k475 => k_is)
    (case a477 => k_is)
    (case l487 => k_is)
    (case c488 => k_is)
    (case k489 => k_is)
    (case a491 => k_is)
    (case a493 => k_is)
    (case a495 => k_is)
    (case a497 => k_is)
    (case a499 => k_is)
    (case a501 => k_is)
    (case a503 => k_is)
    (case a505 => k_is)
    (case l515 => k_is)
    (case c516 => k_is)
    (case k517 => k_is)
    (case a519 => k_is)
    (case l529 => k_is)
    (case c530 => k_is)
    (case k531 => k_is)
    (case a533 => k_is)
    (case l543 => k_is)
    (case c544 => k_is)
    (case k545 => k_is)
    (case a547 => k_is)
    (case l557 => k_is)
    (case c558 => k_is)
    (case k559 => k_is)
    (case a561 => k_is)
    (case l571 => k_is)
    (case c572 => k_is)
    (case k573 => k_is)
    (case a575 => k_is)
    (case l585 => k_is)
    (case c586 => k_is)
    (case k587 => k_is)
    (case a589 => k_is)
    (case l599 => k_is)
    (case c600 => k_is)
    (case k601 => k_is)
    (case b602 => k_is)
    (case a604 => k_is)
    (case l614 => k_is)
    (case c615 => k_is)
    (case k616 => k_is)
    (case a618 => k_is)
    (case l628 => k_is)
    (case c629 => k_is)
    (case k630 => k_is)
    (case a632 => k_is)
    (case l642 => k_is)
    (case c643 => k_is)
    (case k644 => k_is)
    (case a646 => k_is)
    (case l656 => k_is)
    (case c657 => k_is)
    (case k658 => k_is)
    (case a660 => k_is)
    (case l670 => k_is)
    (case c671 => k_is)
    (case k672 => k_is)
    (case b673 => k_is)
    (case a675 => k_is)
    (case l685 => k_is)
    (case c686 => k_is)
    (case k687 => k_is)
    (case a689 => k_is)
    (case l699 => k_is)
    (case c700 => k_is)
    (case k701 => k_is)
    (case a703 => k_is)
    (case l713 => k_is)
    (case c714 => k_is)
    (case k715 => k_is)
    (case a717 => k_is)
    (case l727 => k_is)
    (case c728 => k_is)
    (case k729 => k_is)
    (case a731 => k_is)
    (case l741 => k_is)
    (case c742 => k_is)
    (case k743 => k_is)
    (case a745 => k_is)
    (case l755 => k_is)
    (case c756 => k_is)
    (case k757 => k_is)
    (case a759 => k_is)
    (case l769 => k_is)
    (case c770 => k_is)
    (case k771 => k_is)
    (case a773 => k_is)
    (case a775 => k_is)
    (case l785 => k_is)
    (case c786 => k_is)
    (case k787 => k_is)
    (case a789 => k_is)
    (case l799 => k_is)
    (case c800 => k_is)
    (case k801 => k_is)
    (case a803 => k_is)
    (case l813 => k_is)
    (case c814 => k_is)
    (case k815 => k_is)
    (case b816 => k_is)
    (case b817 => k_is)
    (case a823 => k_is)
    (case l824 => k_is)
    (case z842 => exact (by decide : 17 ≤ PySem.sizeLine))
    (case v843 => exact (.cons rfl (.cons rfl (.cons rfl (.cons rfl (.cons rfl (.cons rfl (.cons rfl (.cons rfl (.cons rfl (.cons rfl (.cons rfl (.cons rfl (.cons rfl (.cons rfl (.cons rfl (.cons rfl (.cons rfl .nil))))))))))))))))))
    (case l848 => k_is)
    (case z849 => exact (by decide : 2 ≤ PySem.sizeLine))
    (case v850 => exact .cons ⟨_, rfl⟩ (.cons ⟨_, rfl⟩ .nil))
    (case l855 => k_is)
    (case z856 => exact (by decide : 2 ≤ PySem.sizeLine))
    (case v857 => exact .cons ⟨_, rfl⟩ (.cons ⟨_, rfl⟩ .nil))
    (case l862 => k_is)
    (case z863 => exact (by decide : 2 ≤ PySem.sizeLine))
    (case v864 => exact .cons ⟨_, rfl⟩ (.cons ⟨_, rfl⟩ .nil))
    (case l869 => k_is)
    (case z870 => exact (by decide : 2 ≤ PySem.sizeLine))
    (case v871 => exact .cons ⟨_, rfl⟩ (.cons ⟨_, rfl⟩ .nil))
    (case l876 => k_is)
    (case z877 => exact (by decide : 2 ≤ PySem.sizeLine))
    (case v878 => exact .cons ⟨_, rfl⟩ (.cons ⟨_, rfl⟩ .nil))
    (case l883 => k_is)
    (case z884 => exact (by decide : 2 ≤ PySem.sizeLine))
    (case v885 => exact .cons ⟨_, rfl⟩ (.cons ⟨_, rfl⟩ .nil))
    (case l890 => k_is)
    (case z891 => exact (by decide : 2 ≤ PySem.sizeLine))
    (case v892 => exact .cons ⟨_, rfl⟩ (.cons ⟨_, rfl⟩ .nil))
    (case l897 => k_is)
    (case z898 => exact (by decide : 2 ≤ PySem.sizeLine))
    (case v899 => exact .cons ⟨_, rfl⟩ (.cons ⟨_, rfl⟩ .nil))
    (case l904 => k_is)
    (case z905 => exact (by decide : 2 ≤ PySem.sizeLine))
    (case v906 => exact .cons ⟨_, rfl⟩ (.cons ⟨_, rfl⟩ .nil))
    (case l911 => k_is)
    (case z912 => exact (by decide : 2 ≤ PySem.sizeLine))
    (case v913 => exact .cons ⟨_, rfl⟩ (.cons ⟨_, rfl⟩ .nil))
    (case l918 => k_is)
    (case z919 => exact (by decide : 2 ≤ PySem.sizeLine))
    (case v920 => exact .cons ⟨_, rfl⟩ (.cons ⟨_, rfl⟩ .nil))
    (case l925 => k_is)
    (case z926 => exact (by decide : 2 ≤ PySem.sizeLine))
    (case v927 => exact .cons ⟨_, rfl⟩ (.cons ⟨_, rfl⟩ .nil))
    (case l932 => k_is)
    (case z933 => exact (by decide : 2 ≤ PySem.sizeLine))
    (case v934 => exact .cons ⟨_, rfl⟩ (.cons ⟨_, rfl⟩ .nil))
    (case l939 => k_is)
    (case z940 => exact (by decide : 2 ≤ PySem.sizeLine))
    (case v941 => exact .cons ⟨_, rfl⟩ (.cons ⟨_, rfl⟩ .nil))
    (case l946 => k_is)
    (case z947 => exact (by decide : 2 ≤ PySem.sizeLine))
    (case v948 => exact .cons ⟨_, rfl⟩ (.cons ⟨_, rfl⟩ .nil))
    (case l953 => k_is)
    (case z954 => exact (by decide : 2 ≤ PySem.sizeLine))
    (case v955 => exact .cons ⟨_, rfl⟩ (.cons ⟨_, rfl⟩ .nil))
    (case l960 => k_is)
    (case z961 => exact (by decide : 2 ≤ PySem.sizeLine))
    (case v962 => exact .cons ⟨_, rfl⟩ (.cons ⟨_, rfl⟩ .nil))
    (case a966 => k_is)
    (case l967 => k_is)
    (case r968 => exact (.cons (by decide +kernel) ⟨_, rfl⟩ ⟨_, rfl⟩ (.cons (by decide +kernel) ⟨_, rfl⟩ ⟨_, rfl⟩ (.cons (by decide +kernel) ⟨_, rfl⟩ ⟨_, rfl⟩ (.cons (by decide +kernel) ⟨_, rfl⟩ ⟨_, rfl⟩ .nil)))))
    (case o969 => exact rfl)
    (case a971 => k_is)
    (case l981 => k_is)
    (case c982 => k_is)
    (case k983 => k_is)
    (case a985 => k_is)
    (case l995 => k_is)
    (case c996 => k_is)
    (case k997 => k_is)
    (case a999 => k_is)
    (case l1009 => k_is)
    (case c1010 => k_is)
    (case k1011 => k_is)
    (case a1014 => k_is)
    (case pg1015 => k_is)
    (case hd1016 => k_is)
    (case po1017 => k_is)
    (case sa1018 => k_is)
    (case mk1019 => k_is)
    (case kc1020 => k_is)
    (case i1021 => k_is)
    (case fn1022 => k_is)
    (case l1032 => k_is)
    (case c1033 => k_is)
    (case k1034 => k_is)
    (case n1035 => k_is)
    (case n1036 => k_is)
    (case n1037 => k_is)
    (case a1039 => k_is)
    (case fn1040 => k_is)
    (case l1050 => k_is)
    (case c1051 => k_is)
    (case k1052 => k_is)
    (case a1054 => k_is)
    (case fn1055 => k_is)
    (case l1065 => k_is)
    (case c1066 => k_is)
    (case k1067 => k_is)
    (case a1069 => k_is)
    (case fn1070 => k_is)
    (case l1080 => k_is)
    (case c1081 => k_is)
    (case k1082 => k_is)
    (case a1084 => k_is)
    (case fn1085 => k_is)
    (case l1095 => k_is)
    (case c1096 => k_is)
    (case k1097 => k_is)
    (case a1099 => k_is)
    (case fn1100 => k_is)
    (case l1110 => k_is)
    (case c1111 => k_is)
    (case k1112 => k_is)
    (case a1114 => k_is)
    (case x1115 => exact Nat.ne_of_beq_eq_false rfl)
    (case a1117 => k_is)
    (case l1127 => k_is)
    (case c1128 => k_is)
    (case k1129 => k_is)
    (case a1131 => k_is)
    (case l1141 => k_is)
    (case c1142 => k_is)
    (case k1143 => k_is)
    (case a1145 => k_is)
    (case l1155 => k_is)
    (case c1156 => k_is)
    (case k1157 => k_is)
    (case a1159 => k_is)
    (case a1161 => k_is)
    (case a1163 => k_is)
    (case a1165 => k_is)
    (case a1167 => k_is)
    (case a1169 => k_is)
    (case a1171 => k_is)
  case S =>
    intro K H xs a hO hwi hask hx
    cases hx with
    | cons h1 h2 =>
      cases h2
      cases h1 with
      | lst hs ha =>
        have e := L2.ints_dw a.1 _ ha
        subst e
        have q : ((Codec.inLen 0 31000 a.1 && a.1.all (Codec.inInt 0 4294967295)) && true) = true := hwi
        rw [Bool.and_eq_true, Bool.and_eq_true] at q
        exact ⟨_, a.1, rfl, hs, (Codec.inNat_iff.mp q.1.1).2, hask, fun H' p hp => .lst (L2.SqL.of hp) (L2.dw_ints _)⟩
