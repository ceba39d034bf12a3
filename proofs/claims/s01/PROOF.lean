import PyProof.Rows.All
import PyVaskyb
import Wide.All
import OpenK.AllK
import Wide.FinOn
import PyProof.EqAt
import PyProof.EqKinds
import PyProof.TupleCall
import Open.SpecLaws
import KE.OsGo
import PySem.Challenge.RW_fewmeasures_s01_answers
import HandS.ForSpec
import HandS.ForMost
import HandS.Zip
import HandS.Wide
import HandS.Walk
import HandS.FStr
import HandS.Flow
import HandS.Style
import HandS.ExcField
import HandS.ExcInit
import HandS.ExcSuper
import HandS.Deep
import HandS.More
import HandS.Conv
import HandS.Set
import HandS.SetFor
import HandS.Strs
import KE.GoesMore
import KE.GoesEnum
import KE.GoesNew
import HandS.Nested
import KE.KMinKey
import HandS.ExcOwn
import HandS.Spec
import KE.KNest
set_option Elab.async false
set_option linter.all false
set_option maxRecDepth 100000
set_option maxHeartbeats 4000000

/-! The mathematics of the texts: tokens and lists as the program goes through them, against the specification. -/
namespace Fm
open VaskyBase

/-! ### kinds of tokens -/
inductive Kd where
  | measures | up | down | item | name | number | comma | colon | semi | minus | fin
deriving DecidableEq, Repr

structure MTok where
  kind : Kd
  place : Nat
  sp : Bytes

/-- how a place is past the blanks; inr: within a remark -/
def skipB : Bool → Bytes → Nat
  | _, [] => 0
  | true, b :: r => if b == 10 then 1 + skipB false r else 1 + skipB true r
  | false, b :: r => if isBlank b = true then 1 + skipB false r else if b == 35 then 1 + skipB true r else 0

def alnum (b : UInt8) : Bool := isLetter b || isDigit b

def kindOf (w : Bytes) : Kd :=
  if w = word "measures" then .measures else if w = word "up" then .up else if w = word "down" then .down else if w = word "item" then .item else .name

def signKind (b : UInt8) : Option Kd :=
  if b = 44 then some .comma else if b = 58 then some .colon else if b = 59 then some .semi else if b = 45 then some .minus else none

def mname (l : Bytes) : Option (Kd × Bytes) :=
  let w := l.takeWhile alnum
  if kindOf w = .name ∧ 16 < w.length then none else some (kindOf w, w)

def mnumber (l : Bytes) : Option (Kd × Bytes) :=
  let w := l.takeWhile isDigit
  if (1 < w.length ∧ w.head? = some 48) ∨ 1000000000 < decimal w then none else some (.number, w)

/-- the token at the beginning -/
def mtoken (l : Bytes) : Option (Kd × Bytes) := match l with
  | [] => none
  | b :: _ => if isLetter b = true then mname l else if isDigit b = true then mnumber l else (signKind b).map fun k => (k, [b])

/-- from a place on that is past the blanks; the text's rest from there -/
def mloop : Nat → Nat → Bytes → Except Nat (List MTok)
  | 0, p, _ => .ok [⟨.fin, p, []⟩]
  | _ + 1, p, [] => .ok [⟨.fin, p, []⟩]
  | n + 1, p, b :: r => match mtoken (b :: r) with
    | none => .error p
    | some (k, s) => (mloop n (p + s.length + skipB false ((b :: r).drop s.length)) (((b :: r).drop s.length).drop (skipB false ((b :: r).drop s.length)))).map fun l => ⟨k, p, s⟩ :: l

def mtokens (b : Bytes) : Except Nat (List MTok) := mloop b.length (skipB false b) (b.drop (skipB false b))

def tokOf (t : MTok) : PTok := ⟨t.place, match t.kind with
  | .number => .num (decimal t.sp)
  | .comma => .sign 44
  | .colon => .sign 58
  | .semi => .sign 59
  | .minus => .sign 45
  | .fin => .last
  | _ => .name t.sp⟩

/-! ### blanks -/
theorem skip_le : ∀ (c : Bool) (l : Bytes), skipB c l ≤ l.length
  | _, [] => by simp [skipB]
  | true, b :: r => by
    have h1 := skip_le true r
    have h2 := skip_le false r
    simp only [skipB, List.length_cons]
    split <;> omega
  | false, b :: r => by
    have h1 := skip_le true r
    have h2 := skip_le false r
    simp only [skipB, List.length_cons]
    split
    · omega
    · split <;> omega

theorem skip_remark : ∀ l : Bytes, skipB true l = (l.takeWhile (· != 10)).length + skipB false (l.dropWhile (· != 10))
  | [] => by simp [skipB]
  | b :: r => by
    have ih := skip_remark r
    by_cases h : b = 10
    · subst h
      simp [skipB, isBlank]
    · have e : (b == 10) = false := by simpa using h
      have e2 : (b != 10) = true := by simp [bne, e]
      simp only [skipB, e, List.takeWhile_cons, List.dropWhile_cons, e2, if_true]
      simp only [Bool.false_eq_true, if_false, List.length_cons]
      omega

/-- behind the blanks there is none -/
theorem skip_zero : ∀ (c : Bool) (l : Bytes), skipB false (l.drop (skipB c l)) = 0
  | c, [] => by cases c <;> simp [skipB]
  | true, b :: r => by
    simp only [skipB]
    split
    · rw [Nat.add_comm, List.drop_succ_cons]; exact skip_zero false r
    · rw [Nat.add_comm, List.drop_succ_cons]; exact skip_zero true r
  | false, b :: r => by
    simp only [skipB]
    split
    · rw [Nat.add_comm, List.drop_succ_cons]; exact skip_zero false r
    · rename_i hb
      split
      · rw [Nat.add_comm, List.drop_succ_cons]; exact skip_zero true r
      · rename_i hc
        simp [skipB, hb, hc]

/-! ### a token -/
theorem kind_word {w : Bytes} (h : kindOf w ≠ .name) : w.length ≤ 16 := by
  unfold kindOf at h
  split at h
  · rename_i e; rw [e]; decide
  · split at h
    · rename_i e; rw [e]; decide
    · split at h
      · rename_i e; rw [e]; decide
      · split at h
        · rename_i e; rw [e]; decide
        · exact absurd rfl h

theorem tok_kind (w : Bytes) : ∀ p, (tokOf ⟨kindOf w, p, w⟩).tok = .name w := by
  intro p
  unfold kindOf tokOf
  split
  · rfl
  · split
    · rfl
    · split
      · rfl
      · split <;> rfl

theorem digit_of {b : UInt8} (h : isDigit b = true) : 48 ≤ b.toNat ∧ b.toNat ≤ 57 := by
  simpa [isDigit] using h

theorem dec_app (n : Nat) : ∀ l : Bytes, l.foldl (fun n b => 10 * n + (b.toNat - 48)) n = n * 10 ^ l.length + decimal l
  | [] => by simp [decimal]
  | b :: r => by
    have h1 := dec_app (10 * n + (b.toNat - 48)) r
    have h2 := dec_app (10 * 0 + (b.toNat - 48)) r
    simp only [List.foldl_cons, List.length_cons]
    have e : decimal (b :: r) = r.foldl (fun n b => 10 * n + (b.toNat - 48)) (10 * 0 + (b.toNat - 48)) := rfl
    rw [h1, e, h2, Nat.pow_succ]
    simp only [Nat.add_mul, Nat.mul_zero, Nat.zero_add]
    have : 10 * n * 10 ^ r.length = n * (10 ^ r.length * 10) := by
      rw [Nat.mul_comm 10 n, Nat.mul_assoc, Nat.mul_comm 10]
    omega

theorem dec_big {b : UInt8} {r : Bytes} (hb : isDigit b = true) (h0 : b ≠ 48) (hl : 10 < (b :: r).length) : 1000000000 < decimal (b :: r) := by
  have e : decimal (b :: r) = r.foldl (fun n b => 10 * n + (b.toNat - 48)) (10 * 0 + (b.toNat - 48)) := rfl
  rw [e, dec_app]
  have h1 := digit_of hb
  have h2 : b.toNat ≠ 48 := fun z => h0 (UInt8.toNat_inj.mp (by simpa using z))
  have h3 : 1 ≤ 10 * 0 + (b.toNat - 48) := by omega
  have h4 : 10 ^ 10 ≤ 10 ^ r.length := Nat.pow_le_pow_right (by decide) (by simp only [List.length_cons] at hl; omega)
  have h5 : 1 * 10 ^ r.length ≤ (10 * 0 + (b.toNat - 48)) * 10 ^ r.length := Nat.mul_le_mul_right _ h3
  have h6 : (10 : Nat) ^ 10 = 10000000000 := by decide
  omega

theorem sign_tok {b : UInt8} (hl : isLetter b = false) (hd : isDigit b = false) :
    (signKind b).map (fun k => ((tokOf ⟨k, 0, [b]⟩).tok, 1)) = if SIGNS.contains b = true then some (Tok.sign b.toNat, 1) else none := by
  unfold signKind SIGNS
  by_cases h1 : b = 44
  · subst h1; rfl
  · by_cases h2 : b = 58
    · subst h2; rfl
    · by_cases h3 : b = 59
      · subst h3; rfl
      · by_cases h4 : b = 45
        · subst h4; rfl
        · have e : ([44, 58, 59, 45] : List UInt8).contains b = false := by simp [h1, h2, h3, h4]
          simp [h1, h2, h3, h4]

theorem tok_place (k : Kd) (p q : Nat) (s : Bytes) : (tokOf ⟨k, p, s⟩).tok = (tokOf ⟨k, q, s⟩).tok := by cases k <;> rfl

theorem token_is (b : UInt8) (r : Bytes) : token (b :: r) = (mtoken (b :: r)).map fun x => ((tokOf ⟨x.1, 0, x.2⟩).tok, x.2.length) := by
  unfold token mtoken
  by_cases hl : isLetter b = true
  · simp only [hl, if_true]
    unfold mname
    have hw : (List.takeWhile (fun c => isLetter c || isDigit c) (b :: r)) = List.takeWhile alnum (b :: r) := rfl
    simp only [hw]
    generalize List.takeWhile alnum (b :: r) = w
    by_cases hn : NAME < w.length
    · have hk : kindOf w = .name := by
        cases e : kindOf w <;> first | rfl | (exact absurd (kind_word (w := w) (by rw [e]; decide)) (by unfold NAME at hn; omega))
      have h16 : 16 < w.length := hn
      simp [hn, hk, h16]
    · have hc : ¬ (kindOf w = .name ∧ 16 < w.length) := fun z => hn z.2
      rw [if_neg hn, if_neg hc]
      simp only [Option.map_some, tok_kind]
  · have hl' : isLetter b = false := by simpa using hl
    simp only [hl', Bool.false_eq_true, if_false]
    by_cases hd : isDigit b = true
    · simp only [hd, if_true]
      unfold mnumber numberOf
      have hw : ∃ t, List.takeWhile isDigit (b :: r) = b :: t := ⟨_, by rw [List.takeWhile_cons, if_pos hd]⟩
      obtain ⟨t, ht⟩ := hw
      rw [ht]
      by_cases hc : (1 < (b :: t).length ∧ (b :: t).head? = some 48) ∨ 1000000000 < decimal (b :: t)
      · have hc2 : b :: t = [] ∨ 10 < (b :: t).length ∨ (1 < (b :: t).length ∧ (b :: t).head? = some 48) ∨ NUMBER < decimal (b :: t) := .inr (.inr hc)
        rw [if_pos hc2, if_pos hc]
        rfl
      · have hc2 : ¬ (b :: t = [] ∨ 10 < (b :: t).length ∨ (1 < (b :: t).length ∧ (b :: t).head? = some 48) ∨ NUMBER < decimal (b :: t)) := by
          rintro (h | h | h)
          · cases h
          · by_cases h48 : b = 48
            · exact hc (.inl ⟨by omega, by simp [h48]⟩)
            · exact hc (.inr (dec_big hd h48 h))
          · exact hc h
        rw [if_neg hc2, if_neg hc]
        rfl
    · have hd' : isDigit b = false := by simpa using hd
      simp only [hd', Bool.false_eq_true, if_false, Option.map_map]
      rw [← sign_tok hl' hd']
      rfl

theorem alnum_of {b : UInt8} (h : isLetter b = true) : alnum b = true := by simp [alnum, h]
theorem mtoken_len {b : UInt8} {r : Bytes} {x : Kd × Bytes} (h : mtoken (b :: r) = some x) : 0 < x.2.length ∧ x.2.length ≤ (b :: r).length := by
  unfold mtoken at h
  by_cases hl : isLetter b = true
  · simp only [hl, if_true] at h
    unfold mname at h
    dsimp only at h
    split at h
    · cases h
    · cases h
      show 0 < (List.takeWhile alnum (b :: r)).length ∧ (List.takeWhile alnum (b :: r)).length ≤ _
      have h2 : (List.takeWhile alnum (b :: r)).length ≤ (b :: r).length := (List.takeWhile_sublist _).length_le
      rw [List.takeWhile_cons, if_pos (alnum_of hl)] at h2 ⊢
      exact ⟨by simp, h2⟩
  · have hl' : isLetter b = false := by simpa using hl
    simp only [hl', Bool.false_eq_true, if_false] at h
    by_cases hd : isDigit b = true
    · simp only [hd, if_true] at h
      unfold mnumber at h
      dsimp only at h
      split at h
      · cases h
      · cases h
        show 0 < (List.takeWhile isDigit (b :: r)).length ∧ (List.takeWhile isDigit (b :: r)).length ≤ _
        have h2 : (List.takeWhile isDigit (b :: r)).length ≤ (b :: r).length := (List.takeWhile_sublist _).length_le
        rw [List.takeWhile_cons, if_pos hd] at h2 ⊢
        exact ⟨by simp, h2⟩
    · have hd' : isDigit b = false := by simpa using hd
      simp only [hd', Bool.false_eq_true, if_false] at h
      cases e : signKind b with
      | none => rw [e] at h; cases h
      | some k => rw [e] at h; cases h; exact ⟨by simp, by simp⟩

/-! ### all tokens -/
def toLex (x : Except Nat (List MTok)) : Except Fault Toks := match x with
  | .ok l => .ok (l.map tokOf)
  | .error p => .error ⟨2, p⟩

theorem lex_skip : ∀ (n : Nat) (l : Bytes) (at_ : Nat), l.length < n → ∃ m, (l.drop (skipB false l)).length < m ∧ lex n at_ l = lex m (at_ + skipB false l) (l.drop (skipB false l))
  | 0, _, _, h => absurd h (by omega)
  | n + 1, [], at_, h => ⟨n + 1, by simp [skipB], by simp [skipB]⟩
  | n + 1, b :: r, at_, h => by
    simp only [List.length_cons] at h
    by_cases hb : isBlank b = true
    · obtain ⟨m, h1, h2⟩ := lex_skip n r (at_ + 1) (by omega)
      refine ⟨m, ?_, ?_⟩
      · simp only [skipB, hb, if_true]
        rw [Nat.add_comm, List.drop_succ_cons]
        exact h1
      · have e : lex (n + 1) at_ (b :: r) = lex n (at_ + 1) r := by simp [lex, hb]
        rw [e, h2]
        simp only [skipB, hb, if_true]
        rw [Nat.add_comm 1, List.drop_succ_cons, Nat.add_assoc, Nat.add_comm 1]
    · by_cases hc : (b == 35) = true
      · have hlen : (r.dropWhile (· != 10)).length ≤ r.length := (List.dropWhile_sublist _).length_le
        obtain ⟨m, h1, h2⟩ := lex_skip n (r.dropWhile (· != 10)) (at_ + 1 + (r.takeWhile (· != 10)).length) (by omega)
        have e : lex (n + 1) at_ (b :: r) = lex n (at_ + 1 + (r.takeWhile (· != 10)).length) (r.dropWhile (· != 10)) := by
          simp [lex, hb, hc]
        have hd : ∀ k, r.drop ((r.takeWhile (· != 10)).length + k) = (r.dropWhile (· != 10)).drop k := fun k => by
          have z := List.takeWhile_append_dropWhile (p := (· != (10 : UInt8))) (l := r)
          have z2 : List.drop (r.takeWhile (· != 10)).length r = r.dropWhile (· != 10) := by
            conv => lhs; arg 2; rw [← z]
            rw [List.drop_left]
          rw [← List.drop_drop, z2]
        have hs : skipB false (b :: r) = 1 + ((r.takeWhile (· != 10)).length + skipB false (r.dropWhile (· != 10))) := by
          simp only [skipB, hb, hc, if_true, skip_remark]
          simp
        refine ⟨m, ?_, ?_⟩
        · rw [hs, Nat.add_comm 1, List.drop_succ_cons, hd]
          exact h1
        · rw [e, h2, hs, Nat.add_comm 1 ((r.takeWhile (· != 10)).length + _), List.drop_succ_cons, hd]
          congr 1
          omega
      · refine ⟨n + 1, ?_, ?_⟩
        · have hz0 : skipB false (b :: r) = 0 := by simp [skipB, hb, hc]
          rw [hz0, List.drop_zero, List.length_cons]
          omega
        · simp [skipB, hb, hc]

theorem lex_loop : ∀ (m n : Nat) (l : Bytes) (p : Nat), l.length < n → l.length ≤ m → skipB false l = 0 → lex n p l = toLex (mloop m p l)
  | _, 0, _, _, h, _, _ => absurd h (by omega)
  | m, n + 1, [], p, _, _, _ => by
    cases m <;> rfl
  | 0, n + 1, b :: r, p, _, h, _ => absurd h (by simp)
  | m + 1, n + 1, b :: r, p, h, h2, hz => by
    simp only [List.length_cons] at h h2
    have hb : ¬ isBlank b = true := fun z => by simp [skipB, z] at hz
    have hc : ¬ (b == 35) = true := fun z => by simp [skipB, hb, z] at hz
    have e : lex (n + 1) p (b :: r) = match token (b :: r) with
      | none => .error ⟨2, p⟩
      | some x => (lex n (p + x.2) ((b :: r).drop x.2)).map fun l => ⟨p, x.1⟩ :: l := by
      simp only [lex, hb, hc]
      cases token (b :: r) <;> rfl
    rw [e, token_is]
    cases hm : mtoken (b :: r) with
    | none => simp [mloop, hm, toLex]
    | some x =>
      obtain ⟨k, s⟩ := x
      have hlen := mtoken_len hm
      simp only [List.length_cons] at hlen
      have hdl : ((b :: r).drop s.length).length ≤ r.length := by
        rw [List.length_drop, List.length_cons]
        omega
      obtain ⟨m', h1', h2'⟩ := lex_skip n ((b :: r).drop s.length) (p + s.length) (by omega)
      have h3 : (((b :: r).drop s.length).drop (skipB false ((b :: r).drop s.length))).length ≤ m := by
        rw [List.length_drop]
        omega
      have ih := lex_loop m m' _ (p + s.length + skipB false ((b :: r).drop s.length)) h1' h3 (skip_zero false _)
      simp only [Option.map_some]
      rw [h2', ih]
      simp only [mloop, hm]
      cases mloop m (p + s.length + skipB false ((b :: r).drop s.length)) (((b :: r).drop s.length).drop (skipB false ((b :: r).drop s.length))) with
      | error q => rfl
      | ok ts =>
        simp only [toLex, Except.map, List.map_cons]
        have : tokOf ⟨k, p, s⟩ = ⟨p, (tokOf ⟨k, 0, s⟩).tok⟩ := by cases k <;> rfl
        rw [this]
theorem lex_is (b : Bytes) : lex (b.length + 1) 0 b = toLex (mtokens b) := by
  obtain ⟨m, h1, h2⟩ := lex_skip (b.length + 1) b 0 (by omega)
  rw [h2]
  unfold mtokens
  rw [Nat.zero_add]
  exact lex_loop b.length m _ _ h1 (by rw [List.length_drop]; omega) (skip_zero false b)
end Fm

namespace Fm
open VaskyBase
open Vaskya (Measure Item Sheet)

/-- a word's kind is told by its bytes -/
def Wf (t : MTok) : Prop := match t.kind with
  | .number => True
  | .comma => True
  | .colon => True
  | .semi => True
  | .minus => True
  | .fin => True
  | k => k = kindOf t.sp

/-- tokens up to the text's end -/
def Good : List MTok → Prop
  | [] => False
  | [t] => t.kind = .fin
  | t :: r => t.kind ≠ .fin ∧ Wf t ∧ Good r

theorem good_cons {t : MTok} {r : List MTok} (h1 : t.kind ≠ .fin) (h2 : Wf t) (h3 : Good r) : Good (t :: r) := by
  cases r with
  | nil => exact h3.elim
  | cons u s => exact ⟨h1, h2, h3⟩
theorem good_tail {t : MTok} {r : List MTok} (h : Good (t :: r)) (h1 : t.kind ≠ .fin) : Good r := by
  cases r with
  | nil => exact absurd h h1
  | cons u s => exact h.2.2
theorem good_wf {t : MTok} {r : List MTok} (h : Good (t :: r)) : Wf t := by
  cases r with
  | nil =>
    have e : t.kind = .fin := h
    unfold Wf
    rw [e]
    trivial
  | cons u s => exact h.2.1
theorem good_fin {t : MTok} {r : List MTok} (h : Good (t :: r)) (h1 : t.kind = .fin) : r = [] := by
  cases r with
  | nil => rfl
  | cons u s => exact absurd h1 h.1

theorem mtoken_wf {l : Bytes} {k : Kd} {s : Bytes} {p : Nat} (h : mtoken l = some (k, s)) : Wf ⟨k, p, s⟩ ∧ k ≠ .fin := by
  cases l with
  | nil => cases h
  | cons b r =>
    unfold mtoken at h
    dsimp only at h
    split at h
    · unfold mname at h
      dsimp only at h
      split at h
      · cases h
      · cases h
        generalize List.takeWhile alnum (b :: r) = w
        have hk : kindOf w = .measures ∨ kindOf w = .up ∨ kindOf w = .down ∨ kindOf w = .item ∨ kindOf w = .name := by
          unfold kindOf
          split
          · exact .inl rfl
          · split
            · exact .inr (.inl rfl)
            · split
              · exact .inr (.inr (.inl rfl))
              · split
                · exact .inr (.inr (.inr (.inl rfl)))
                · exact .inr (.inr (.inr (.inr rfl)))
        rcases hk with e | e | e | e | e <;> rw [e]
        · exact ⟨(e.symm : Kd.measures = kindOf w), by decide⟩
        · exact ⟨(e.symm : Kd.up = kindOf w), by decide⟩
        · exact ⟨(e.symm : Kd.down = kindOf w), by decide⟩
        · exact ⟨(e.symm : Kd.item = kindOf w), by decide⟩
        · exact ⟨(e.symm : Kd.name = kindOf w), by decide⟩
    · split at h
      · unfold mnumber at h
        dsimp only at h
        split at h
        · cases h
        · cases h
          exact ⟨trivial, by decide⟩
      · unfold signKind at h
        by_cases h1 : b = 44
        · rw [if_pos h1] at h; cases h; exact ⟨trivial, by decide⟩
        · rw [if_neg h1] at h
          by_cases h2 : b = 58
          · rw [if_pos h2] at h; cases h; exact ⟨trivial, by decide⟩
          · rw [if_neg h2] at h
            by_cases h3 : b = 59
            · rw [if_pos h3] at h; cases h; exact ⟨trivial, by decide⟩
            · rw [if_neg h3] at h
              by_cases h4 : b = 45
              · rw [if_pos h4] at h; cases h; exact ⟨trivial, by decide⟩
              · rw [if_neg h4] at h; cases h

theorem mloop_good : ∀ (n p : Nat) (l : Bytes) (ts : List MTok), mloop n p l = .ok ts → Good ts
  | 0, p, l, ts, h => by
    cases h
    rfl
  | n + 1, p, [], ts, h => by
    cases h
    rfl
  | n + 1, p, b :: r, ts, h => by
    unfold mloop at h
    cases e : mtoken (b :: r) with
    | none => rw [e] at h; cases h
    | some x =>
      obtain ⟨k, s⟩ := x
      rw [e] at h
      dsimp only at h
      cases e2 : mloop n (p + s.length + skipB false ((b :: r).drop s.length)) (((b :: r).drop s.length).drop (skipB false ((b :: r).drop s.length))) with
      | error q => rw [e2] at h; cases h
      | ok us =>
        rw [e2] at h
        cases h
        have w := mtoken_wf (p := p) e
        exact good_cons w.2 w.1 (mloop_good n _ _ us e2)

/-! ### the reading, as the program does it -/
abbrev R := Except Fault
def mtake (ks : List Kd) : List MTok → R (MTok × List MTok)
  | [] => .error ⟨3, 0⟩
  | t :: r => if t.kind ∈ ks then .ok (t, r) else .error ⟨3, t.place⟩
def mvalueOf (t : MTok) : R Int := if 1000 < decimal t.sp then .error ⟨7, t.place⟩ else .ok (decimal t.sp)
def mvalue (l : List MTok) : R (Int × List MTok) := (mtake [.minus, .number] l).bind fun x =>
  if x.1.kind = .minus then (mtake [.number] x.2).bind fun y => (mvalueOf y.1).map fun v => (-v, y.2) else (mvalueOf x.1).map fun v => (v, x.2)
def mmore : Nat → List Int → List MTok → R (List Int × List MTok)
  | 0, vs, l => (mtake [.semi] l).map fun x => (vs, x.2)
  | n + 1, vs, l => (mtake [.comma] l).bind fun x => (mvalue x.2).bind fun v => mmore n (vs ++ [v.1]) v.2
def mrow (w : Nat) (l : List MTok) : R (List Int × List MTok) := (mvalue l).bind fun v => mmore (w - 1) [v.1] v.2
def mmeasures : Nat → List Measure → List MTok → R (List Measure × List MTok)
  | 0, _, _ => .error ⟨3, 0⟩
  | n + 1, ms, l => (mtake [.name] l).bind fun x =>
    if ms.length = 4 then .error ⟨4, x.1.place⟩ else if ms.any (fun m => m.name == x.1.sp) = true then .error ⟨5, x.1.place⟩ else
    (mtake [.up, .down] x.2).bind fun y => (mtake [.comma, .semi] y.2).bind fun z =>
      if z.1.kind = .comma then mmeasures n (ms ++ [⟨x.1.sp, decide (y.1.kind = .up)⟩]) z.2 else .ok (ms ++ [⟨x.1.sp, decide (y.1.kind = .up)⟩], z.2)
def mitems (k : Nat) : Nat → List Item → List MTok → R (List Item)
  | 0, _, _ => .error ⟨3, 0⟩
  | n + 1, is, l => (mtake [.item, .fin] l).bind fun s =>
    if s.1.kind = .item then
      if is.length = 16 then .error ⟨4, s.1.place⟩ else (mtake [.name] s.2).bind fun x =>
      if is.any (fun i => i.name == x.1.sp) = true then .error ⟨5, x.1.place⟩ else
      (mtake [.colon] x.2).bind fun c => (mrow k c.2).bind fun v => mitems k n (is ++ [⟨x.1.sp, v.1⟩]) v.2
    else .ok is
def mread (b : Bytes) : R Sheet := if 4096 < b.length then .error ⟨1, 4096⟩ else match mtokens b with
  | .error p => .error ⟨2, p⟩
  | .ok ts => (mtake [.measures] ts).bind fun x => (mmeasures (x.2.length + 1) [] x.2).bind fun y => (mitems y.1.length (y.2.length + 1) [] y.2).map fun is => ⟨y.1, is⟩

/-! ### against the specification -/
def tm (l : List MTok) : Toks := l.map tokOf
theorem bind_map {α β γ : Type} (x : R α) (f : α → β) (g : β → R γ) : (x.map f).bind g = x.bind fun a => g (f a) := by cases x <;> rfl
theorem here_tm (t : MTok) (r : List MTok) : here (tm (t :: r)) = t.place := rfl
theorem wrong_tm {A : Type} (t : MTok) (r : List MTok) : (wrong (tm (t :: r)) : R A) = .error ⟨3, t.place⟩ := rfl

theorem next_word {t : MTok} {r : List MTok} {s : String} {k : Kd} (hw : Wf t) (hk : ∀ w, kindOf w = k ↔ w = word s) (h0 : k = .measures ∨ k = .up ∨ k = .down ∨ k = .item) :
    nextWord s (tm (t :: r)) = decide (t.kind = k) := by
  obtain ⟨tk, p, sp⟩ := t
  have key : ∀ {w : Bytes}, (w == word s) = decide (kindOf w = k) := fun {w} => by
    by_cases h : w = word s
    · rw [decide_eq_true ((hk w).mpr h)]
      exact beq_iff_eq.mpr h
    · rw [decide_eq_false fun z => h ((hk w).mp z)]
      exact beq_eq_false_iff_ne.mpr h
  unfold nextWord next tm
  cases tk with
  | number => rcases h0 with rfl | rfl | rfl | rfl <;> rfl
  | comma => rcases h0 with rfl | rfl | rfl | rfl <;> rfl
  | colon => rcases h0 with rfl | rfl | rfl | rfl <;> rfl
  | semi => rcases h0 with rfl | rfl | rfl | rfl <;> rfl
  | minus => rcases h0 with rfl | rfl | rfl | rfl <;> rfl
  | fin => rcases h0 with rfl | rfl | rfl | rfl <;> rfl
  | _ =>
    have e : _ = kindOf sp := hw
    show (sp == word s) = _
    rw [key, ← e]

theorem kw_measures (w : Bytes) : kindOf w = .measures ↔ w = word "measures" := by
  unfold kindOf
  constructor
  · intro h
    split at h
    · assumption
    · repeat (first | split at h | cases h)
  · intro h
    rw [if_pos h]
theorem kw_up (w : Bytes) : kindOf w = .up ↔ w = word "up" := by
  constructor
  · intro h
    unfold kindOf at h
    split at h
    · cases h
    · split at h
      · assumption
      · repeat (first | split at h | cases h)
  · intro h
    rw [h]
    decide
theorem kw_down (w : Bytes) : kindOf w = .down ↔ w = word "down" := by
  constructor
  · intro h
    unfold kindOf at h
    split at h
    · cases h
    · split at h
      · cases h
      · split at h
        · assumption
        · split at h <;> cases h
  · intro h
    rw [h]
    decide
theorem kw_item (w : Bytes) : kindOf w = .item ↔ w = word "item" := by
  constructor
  · intro h
    unfold kindOf at h
    split at h
    · cases h
    · split at h
      · cases h
      · split at h
        · cases h
        · split at h
          · assumption
          · cases h
  · intro h
    rw [h]
    decide
theorem take_word {t : MTok} {r : List MTok} {s : String} {k : Kd} (hw : Wf t) (hk : ∀ w, kindOf w = k ↔ w = word s) (h0 : k = .measures ∨ k = .up ∨ k = .down ∨ k = .item) :
    takeWord s (tm (t :: r)) = (mtake [k] (t :: r)).map fun x => tm x.2 := by
  have e := next_word (r := r) hw hk h0
  unfold nextWord at e
  unfold takeWord taken
  rw [e]
  unfold mtake
  by_cases h : t.kind = k
  · simp only [h, decide_true, if_true, List.mem_singleton, Except.map]
    rfl
  · simp only [h, decide_false, Bool.false_eq_true, if_false, List.mem_singleton, Except.map]
    rfl
theorem next_sign {t : MTok} {r : List MTok} {c : Nat} {k : Kd} (h : (k = .comma ∧ c = 44) ∨ (k = .colon ∧ c = 58) ∨ (k = .semi ∧ c = 59) ∨ (k = .minus ∧ c = 45)) :
    next (.sign c) (tm (t :: r)) = decide (t.kind = k) := by
  obtain ⟨tk, p, sp⟩ := t
  rcases h with ⟨rfl, rfl⟩ | ⟨rfl, rfl⟩ | ⟨rfl, rfl⟩ | ⟨rfl, rfl⟩ <;> cases tk <;> rfl
theorem take_sign {t : MTok} {r : List MTok} {c : Nat} {k : Kd} (h : (k = .comma ∧ c = 44) ∨ (k = .colon ∧ c = 58) ∨ (k = .semi ∧ c = 59) ∨ (k = .minus ∧ c = 45)) :
    takeSign c (tm (t :: r)) = (mtake [k] (t :: r)).map fun x => tm x.2 := by
  have e := next_sign (t := t) (r := r) h
  unfold takeSign taken
  rw [e]
  unfold mtake
  by_cases h : t.kind = k
  · simp only [h, decide_true, if_true, List.mem_singleton, Except.map]
    rfl
  · simp only [h, decide_false, Bool.false_eq_true, if_false, List.mem_singleton, Except.map]
    rfl
theorem reserved_is (w : Bytes) : RESERVED.contains w = decide (kindOf w ≠ .name) := by
  have hR : RESERVED = [word "measures", word "up", word "down", word "item"] := rfl
  rw [hR]
  unfold kindOf
  by_cases h1 : w = word "measures"
  · rw [if_pos h1, h1]; decide
  · rw [if_neg h1]
    by_cases h2 : w = word "up"
    · rw [if_pos h2, h2]; decide
    · rw [if_neg h2]
      by_cases h3 : w = word "down"
      · rw [if_pos h3, h3]; decide
      · rw [if_neg h3]
        by_cases h4 : w = word "item"
        · rw [if_pos h4, h4]; decide
        · rw [if_neg h4]
          simp [h1, h2, h3, h4]
theorem take_name {t : MTok} {r : List MTok} (hw : Wf t) : takeName (tm (t :: r)) = (mtake [.name] (t :: r)).map fun x => (⟨x.1.place, x.1.sp⟩, tm x.2) := by
  obtain ⟨tk, p, sp⟩ := t
  have key : tk = kindOf sp → (if RESERVED.contains sp = true then (wrong (tm (⟨tk, p, sp⟩ :: r)) : R (PName × Toks)) else .ok (⟨p, sp⟩, tm r)) = (mtake [.name] (⟨tk, p, sp⟩ :: r)).map fun x => (⟨x.1.place, x.1.sp⟩, tm x.2) := fun e => by
    rw [reserved_is, ← e]
    unfold mtake
    by_cases h : tk = .name
    · subst h; rfl
    · simp only [h, decide_true, if_true, List.mem_singleton, if_false, ne_eq, not_false_eq_true]
      rfl
  cases tk with
  | number => rfl
  | comma => rfl
  | colon => rfl
  | semi => rfl
  | minus => rfl
  | fin => rfl
  | _ => exact key hw

theorem mtake_ok {ks : List Kd} {l : List MTok} {x : MTok × List MTok} (h : mtake ks l = .ok x) : l = x.1 :: x.2 ∧ x.1.kind ∈ ks := by
  cases l with
  | nil => cases h
  | cons t r =>
    replace h : (if t.kind ∈ ks then .ok (t, r) else .error ⟨3, t.place⟩ : R (MTok × List MTok)) = .ok x := h
    by_cases hk : t.kind ∈ ks
    · rw [if_pos hk] at h
      cases h
      exact ⟨rfl, hk⟩
    · rw [if_neg hk] at h
      cases h
theorem mtake_good {ks : List Kd} {l : List MTok} {x : MTok × List MTok} (h : mtake ks l = .ok x) (hg : Good l) (hk : Kd.fin ∉ ks) : Good x.2 := by
  obtain ⟨e, m⟩ := mtake_ok h
  rw [e] at hg
  exact good_tail hg fun z => hk (z ▸ m)

theorem take_int {l : List MTok} (hg : Good l) : Vaskya.takeInt (tm l) = (mvalue l).map fun x => (x.1, tm x.2) := by
  cases l with
  | nil => exact hg.elim
  | cons t r =>
    unfold Vaskya.takeInt mvalue
    rw [next_sign (k := .minus) (.inr (.inr (.inr ⟨rfl, rfl⟩)))]
    obtain ⟨tk, p, sp⟩ := t
    by_cases h : tk = .minus
    · subst h
      have hr : Good r := good_tail hg (fun z => Kd.noConfusion z)
      cases r with
      | nil => exact hr.elim
      | cons u s =>
        obtain ⟨uk, q, up⟩ := u
        cases uk with
        | number =>
          show (if 1000 < decimal up then _ else _) = _
          by_cases hb : 1000 < decimal up
          · rw [if_pos hb]
            simp [mtake, Except.bind, mvalueOf, hb, Except.map]
          · rw [if_neg hb]
            simp [mtake, Except.bind, mvalueOf, hb, Except.map]
            rfl
        | _ => rfl
    · have e : decide ((⟨tk, p, sp⟩ : MTok).kind = .minus) = false := decide_eq_false h
      simp only [e, Bool.false_eq_true, if_false]
      cases tk with
      | number =>
        show (if 1000 < decimal sp then _ else _) = _
        by_cases hb : 1000 < decimal sp
        · rw [if_pos hb]
          simp [mtake, Except.bind, mvalueOf, hb, Except.map]
        · rw [if_neg hb]
          simp [mtake, Except.bind, mvalueOf, hb, Except.map]
          rfl
      | minus => exact absurd rfl h
      | _ => rfl
theorem mvalueOf_ok {t : MTok} {v : Int} (h : mvalueOf t = .ok v) : ¬ 1000 < decimal t.sp ∧ v = decimal t.sp := by
  unfold mvalueOf at h
  split at h
  · cases h
  · cases h; exact ⟨by assumption, rfl⟩
theorem mvalue_good {l : List MTok} {x : Int × List MTok} (h : mvalue l = .ok x) (hg : Good l) : Good x.2 := by
  unfold mvalue at h
  cases e : mtake [.minus, .number] l with
  | error f => rw [e] at h; cases h
  | ok y =>
    rw [e] at h
    have hy := mtake_good e hg (by decide)
    simp only [Except.bind] at h
    split at h
    · cases e2 : mtake [.number] y.2 with
      | error f => rw [e2] at h; cases h
      | ok z =>
        rw [e2] at h
        have hz := mtake_good e2 hy (by decide)
        simp only at h
        cases e3 : mvalueOf z.1 with
        | error f => rw [e3] at h; cases h
        | ok v => rw [e3] at h; cases h; exact hz
    · cases e3 : mvalueOf y.1 with
      | error f => rw [e3] at h; cases h
      | ok v => rw [e3] at h; cases h; exact hy

theorem take_more : ∀ (n : Nat) (vs : List Int) (l : List MTok), Good l → vs ≠ [] →
    ((Vaskya.takeValues n vs (tm l)).bind fun v => (takeSign 59 v.2).map fun m => (v.1, m)) = (mmore n vs l).map fun x => (x.1, tm x.2)
  | 0, vs, l, hg, _ => by
    cases l with
    | nil => exact hg.elim
    | cons t r =>
      show ((takeSign 59 (tm (t :: r))).map fun m => (vs, m)) = _
      rw [take_sign (k := .semi) (.inr (.inr (.inl ⟨rfl, rfl⟩)))]
      unfold mmore
      cases mtake [.semi] (t :: r) <;> rfl
  | n + 1, vs, l, hg, hv => by
    cases l with
    | nil => exact hg.elim
    | cons t r =>
      unfold Vaskya.takeValues mmore
      have e : vs.isEmpty = false := by cases vs with
        | nil => exact absurd rfl hv
        | cons => rfl
      simp only [e, Bool.false_eq_true, if_false]
      rw [take_sign (k := .comma) (.inl ⟨rfl, rfl⟩)]
      cases h : mtake [.comma] (t :: r) with
      | error f => rfl
      | ok x =>
        have hx := mtake_good h hg (by decide)
        simp only [Except.map, Except.bind]
        rw [take_int hx]
        cases h2 : mvalue x.2 with
        | error f => rfl
        | ok v =>
          exact take_more n (vs ++ [v.1]) v.2 (mvalue_good h2 hx) (by simp)

theorem take_row {k : Nat} (hk : 0 < k) {l : List MTok} (hg : Good l) :
    ((Vaskya.takeValues k [] (tm l)).bind fun v => (takeSign 59 v.2).map fun m => (v.1, m)) = (mrow k l).map fun x => (x.1, tm x.2) := by
  cases k with
  | zero => omega
  | succ n =>
    unfold Vaskya.takeValues mrow
    simp only [List.isEmpty_nil, if_true]
    show ((((Except.ok (tm l) : R Toks).bind _).bind _)) = _
    simp only [Except.bind]
    rw [take_int hg]
    cases h2 : mvalue l with
    | error f => rfl
    | ok v => exact take_more n ([] ++ [v.1]) v.2 (mvalue_good h2 hg) (by simp)
theorem mmore_good : ∀ (n : Nat) (vs : List Int) (l : List MTok) (x : List Int × List MTok), mmore n vs l = .ok x → Good l → Good x.2
  | 0, vs, l, x, h, hg => by
    unfold mmore at h
    cases e : mtake [.semi] l with
    | error f => rw [e] at h; cases h
    | ok y => rw [e] at h; cases h; exact mtake_good e hg (by decide)
  | n + 1, vs, l, x, h, hg => by
    unfold mmore at h
    cases e : mtake [.comma] l with
    | error f => rw [e] at h; cases h
    | ok y =>
      rw [e] at h
      simp only [Except.bind] at h
      cases e2 : mvalue y.2 with
      | error f => rw [e2] at h; cases h
      | ok v =>
        rw [e2] at h
        exact mmore_good n _ _ x h (mvalue_good e2 (mtake_good e hg (by decide)))
theorem mrow_good {k : Nat} {l : List MTok} {x : List Int × List MTok} (h : mrow k l = .ok x) (hg : Good l) : Good x.2 := by
  unfold mrow at h
  cases e2 : mvalue l with
  | error f => rw [e2] at h; cases h
  | ok v =>
    rw [e2] at h
    exact mmore_good _ _ _ x h (mvalue_good e2 hg)

theorem mtake_len {ks : List Kd} {l : List MTok} {x : MTok × List MTok} (h : mtake ks l = .ok x) : x.2.length ≤ l.length := by
  rw [(mtake_ok h).1]
  simp
theorem mvalue_len {l : List MTok} {x : Int × List MTok} (h : mvalue l = .ok x) : x.2.length ≤ l.length := by
  unfold mvalue at h
  cases e : mtake [.minus, .number] l with
  | error f => rw [e] at h; cases h
  | ok y =>
    rw [e] at h
    have hy := mtake_len e
    simp only [Except.bind] at h
    split at h
    · cases e2 : mtake [.number] y.2 with
      | error f => rw [e2] at h; cases h
      | ok z =>
        rw [e2] at h
        have hz := mtake_len e2
        simp only at h
        cases e3 : mvalueOf z.1 with
        | error f => rw [e3] at h; cases h
        | ok v => rw [e3] at h; cases h; exact Nat.le_trans hz hy
    · cases e3 : mvalueOf y.1 with
      | error f => rw [e3] at h; cases h
      | ok v => rw [e3] at h; cases h; exact hy
theorem mmore_len : ∀ (n : Nat) (vs : List Int) (l : List MTok) (x : List Int × List MTok), mmore n vs l = .ok x → x.2.length ≤ l.length ∧ x.1.length = vs.length + n
  | 0, vs, l, x, h => by
    unfold mmore at h
    cases e : mtake [.semi] l with
    | error f => rw [e] at h; cases h
    | ok y => rw [e] at h; cases h; exact ⟨mtake_len e, rfl⟩
  | n + 1, vs, l, x, h => by
    unfold mmore at h
    cases e : mtake [.comma] l with
    | error f => rw [e] at h; cases h
    | ok y =>
      rw [e] at h
      simp only [Except.bind] at h
      cases e2 : mvalue y.2 with
      | error f => rw [e2] at h; cases h
      | ok v =>
        rw [e2] at h
        have ih := mmore_len n _ _ x h
        have h1 := mvalue_len e2
        have h2 := mtake_len e
        simp only [List.length_append, List.length_cons, List.length_nil] at ih
        exact ⟨by omega, by omega⟩
theorem mrow_len {k : Nat} {l : List MTok} {x : List Int × List MTok} (h : mrow k l = .ok x) : x.2.length ≤ l.length := by
  unfold mrow at h
  cases e2 : mvalue l with
  | error f => rw [e2] at h; cases h
  | ok v =>
    rw [e2] at h
    exact Nat.le_trans (mmore_len _ _ _ x h).1 (mvalue_len e2)
theorem mrow_width {k : Nat} {l : List MTok} {x : List Int × List MTok} (hk : 0 < k) (h : mrow k l = .ok x) : x.1.length = k := by
  unfold mrow at h
  cases e2 : mvalue l with
  | error f => rw [e2] at h; cases h
  | ok v =>
    rw [e2] at h
    have := (mmore_len _ _ _ x h).2
    simp only [List.length_cons, List.length_nil] at this
    omega

theorem take_measures : ∀ (n : Nat) (ms : List Measure) (l : List MTok), Good l → ms.length ≤ 4 → l.length ≤ n →
    Vaskya.takeMeasures n ms (tm l) = (mmeasures n ms l).map fun x => (x.1, tm x.2)
  | 0, ms, l, hg, _, hl => by
    cases l with
    | nil => exact hg.elim
    | cons t r => simp at hl
  | n + 1, ms, l, hg, h4, hl => by
    cases l with
    | nil => exact hg.elim
    | cons t r =>
      unfold Vaskya.takeMeasures mmeasures
      rw [take_name (good_wf hg), bind_map]
      cases h : mtake [.name] (t :: r) with
      | error f => rfl
      | ok x =>
        have hx := mtake_good h hg (by decide)
        obtain ⟨ex, _⟩ := mtake_ok h
        have lx : x.2.length + 1 ≤ n + 1 := by
          have := congrArg List.length ex
          simp only [List.length_cons] at this hl
          omega
        simp only [Except.bind]
        by_cases h44 : ms.length = 4
        · have h44' : Vaskya.MEASURES ≤ ms.length := by rw [h44]; decide
          rw [if_pos h44', if_pos h44]
          rfl
        · have h44' : ¬ Vaskya.MEASURES ≤ ms.length := by
            have : Vaskya.MEASURES = 4 := rfl
            omega
          rw [if_neg h44', if_neg h44]
          by_cases ha : ms.any (fun m => m.name == x.1.sp) = true
          · rw [if_pos ha, if_pos ha]
            rfl
          · rw [if_neg ha, if_neg ha]
            obtain ⟨x1, x2⟩ := x
            cases x2 with
            | nil => exact hx.elim
            | cons u s =>
              dsimp only at hx lx ⊢
              rw [next_word (good_wf hx) kw_up (.inr (.inl rfl)), take_word (good_wf hx) kw_down (.inr (.inr (.inl rfl)))]
              have drop1 : List.drop 1 (tm (u :: s)) = tm s := rfl
              rw [drop1]
              obtain ⟨uk, q, up⟩ := u
              have go : ∀ b : Bool, Good s → (if next (.sign 44) (tm s) = true then Vaskya.takeMeasures n (ms ++ [⟨x1.sp, b⟩]) (List.drop 1 (tm s)) else (takeSign 59 (tm s)).map fun m => (ms ++ [⟨x1.sp, b⟩], m)) =
                  (((mtake [.comma, .semi] s).bind fun z => if z.1.kind = .comma then mmeasures n (ms ++ [⟨x1.sp, b⟩]) z.2 else .ok (ms ++ [⟨x1.sp, b⟩], z.2)) : R (List Measure × List MTok)).map fun x => (x.1, tm x.2) := fun b hs => by
                cases s with
                | nil => exact hs.elim
                | cons w v =>
                  rw [next_sign (k := .comma) (.inl ⟨rfl, rfl⟩), take_sign (k := .semi) (.inr (.inr (.inl ⟨rfl, rfl⟩)))]
                  obtain ⟨wk, q2, wp⟩ := w
                  by_cases hc : wk = .comma
                  · subst hc
                    have hv : Good v := good_tail hs (fun z => Kd.noConfusion z)
                    have drop2 : List.drop 1 (tm (⟨.comma, q2, wp⟩ :: v)) = tm v := rfl
                    rw [drop2]
                    have ih := take_measures n (ms ++ [⟨x1.sp, b⟩]) v hv (by simp; omega) (by simp only [List.length_cons] at lx; omega)
                    simp only [decide_true, if_true, mtake, List.mem_cons, true_or, Except.bind]
                    exact ih
                  · have hc' : decide (MTok.kind ⟨wk, q2, wp⟩ = .comma) = false := decide_eq_false hc
                    rw [hc']
                    simp only [Bool.false_eq_true, if_false]
                    by_cases hsm : wk = .semi
                    · subst hsm
                      rfl
                    · simp only [mtake, List.mem_cons, hc, hsm, List.not_mem_nil, or_false, if_false, Except.map, Except.bind]
              by_cases hu : uk = .up
              · subst hu
                have := go true (good_tail hx (fun z => Kd.noConfusion z))
                simpa [mtake, Except.bind, Except.map] using this
              · by_cases hd : uk = .down
                · subst hd
                  have := go false (good_tail hx (fun z => Kd.noConfusion z))
                  simpa [mtake, Except.bind, Except.map] using this
                · simp [mtake, hu, hd, Except.bind, Except.map]
theorem mmeasures_good : ∀ (n : Nat) (ms : List Measure) (l : List MTok) (x : List Measure × List MTok), mmeasures n ms l = .ok x → Good l → ms.length ≤ 4 → Good x.2 ∧ 0 < x.1.length ∧ x.1.length ≤ 4
  | 0, _, _, _, h, _, _ => by cases h
  | n + 1, ms, l, x, h, hg, h4 => by
    unfold mmeasures at h
    cases e : mtake [.name] l with
    | error f => rw [e] at h; cases h
    | ok y =>
      rw [e] at h
      have hy := mtake_good e hg (by decide)
      simp only [Except.bind] at h
      split at h
      · cases h
      · rename_i h44
        split at h
        · cases h
        · cases e2 : mtake [.up, .down] y.2 with
          | error f => rw [e2] at h; cases h
          | ok z =>
            rw [e2] at h
            have hz := mtake_good e2 hy (by decide)
            simp only at h
            cases e3 : mtake [.comma, .semi] z.2 with
            | error f => rw [e3] at h; cases h
            | ok u =>
              rw [e3] at h
              have hu := mtake_good e3 hz (by decide)
              simp only at h
              split at h
              · exact mmeasures_good n _ _ x h hu (by simp; omega)
              · cases h
                exact ⟨hu, by simp, by simp; omega⟩
theorem take_items {k : Nat} (hk : 0 < k) : ∀ (n : Nat) (is : List Item) (l : List MTok), Good l → is.length ≤ 16 → l.length ≤ n → Vaskya.takeItems k n is (tm l) = mitems k n is l
  | 0, is, l, hg, _, hl => by
    cases l with
    | nil => exact hg.elim
    | cons t r => simp at hl
  | n + 1, is, l, hg, h16, hl => by
    cases l with
    | nil => exact hg.elim
    | cons t r =>
      unfold Vaskya.takeItems mitems
      have hn : next .last (tm (t :: r)) = decide (t.kind = .fin) := by
        obtain ⟨tk, p, sp⟩ := t
        cases tk <;> rfl
      rw [hn, take_word (good_wf hg) kw_item (.inr (.inr (.inr rfl))), bind_map]
      obtain ⟨tk, p, sp⟩ := t
      by_cases hf : tk = .fin
      · subst hf
        rfl
      · have hf' : decide (MTok.kind ⟨tk, p, sp⟩ = .fin) = false := decide_eq_false hf
        rw [hf']
        simp only [Bool.false_eq_true, if_false]
        by_cases hi : tk = .item
        · subst hi
          have hr : Good r := good_tail hg (fun z => Kd.noConfusion z)
          have st : (mtake [.item] (⟨.item, p, sp⟩ :: r)) = .ok (⟨.item, p, sp⟩, r) := rfl
          have st2 : (mtake [.item, .fin] (⟨.item, p, sp⟩ :: r)) = .ok (⟨.item, p, sp⟩, r) := rfl
          rw [st, st2]
          simp only [Except.bind, if_true]
          by_cases h16' : is.length = 16
          · have : Vaskya.ITEMS ≤ is.length := by rw [h16']; decide
            rw [if_pos this, if_pos h16']
            rfl
          · have : ¬ Vaskya.ITEMS ≤ is.length := by
              have : Vaskya.ITEMS = 16 := rfl
              omega
            rw [if_neg this, if_neg h16']
            cases r with
            | nil => exact hr.elim
            | cons u s =>
              rw [take_name (good_wf hr)]
              cases h2 : mtake [.name] (u :: s) with
              | error f => rfl
              | ok x =>
                have hx := mtake_good h2 hr (by decide)
                obtain ⟨ex, _⟩ := mtake_ok h2
                simp only [Except.map]
                by_cases ha : is.any (fun i => i.name == x.1.sp) = true
                · rw [if_pos ha, if_pos ha]
                · rw [if_neg ha, if_neg ha]
                  obtain ⟨x1, x2⟩ := x
                  cases x2 with
                  | nil => exact hx.elim
                  | cons w v =>
                    dsimp only at hx ⊢
                    rw [take_sign (k := .colon) (.inr (.inl ⟨rfl, rfl⟩))]
                    cases h3 : mtake [.colon] (w :: v) with
                    | error f => rfl
                    | ok y =>
                      have hy := mtake_good h3 hx (by decide)
                      obtain ⟨ey, _⟩ := mtake_ok h3
                      simp only [Except.map, Except.bind]
                      have row := take_row hk hy
                      cases h4 : mrow k y.2 with
                      | error f =>
                        rw [h4] at row
                        cases h5 : Vaskya.takeValues k [] (tm y.2) with
                        | error g =>
                          rw [h5] at row
                          have row' : (Except.error g : R (List Int × Toks)) = .error f := row
                          cases row'
                          rfl
                        | ok v2 =>
                          rw [h5] at row
                          simp only [Except.bind, Except.map] at row ⊢
                          cases h6 : takeSign 59 v2.2 with
                          | error g => rw [h6] at row; cases row; rfl
                          | ok g => rw [h6] at row; cases row
                      | ok v1 =>
                        rw [h4] at row
                        cases h5 : Vaskya.takeValues k [] (tm y.2) with
                        | error g => rw [h5] at row; cases row
                        | ok v2 =>
                          rw [h5] at row
                          simp only [Except.bind, Except.map] at row ⊢
                          cases h6 : takeSign 59 v2.2 with
                          | error g => rw [h6] at row; cases row
                          | ok g =>
                            rw [h6] at row
                            have row' : (v2.1, g) = (v1.1, tm v1.2) := Except.ok.inj row
                            have e1 : v2.1 = v1.1 := congrArg (·.1) row'
                            have e2 : g = tm v1.2 := congrArg (·.2) row'
                            simp only
                            rw [e1, e2]
                            have hmore := mrow_len h4
                            refine take_items hk n _ v1.2 (mrow_good h4 hy) (by simp; omega) ?_
                            have l1 := congrArg List.length ex
                            have l2 := congrArg List.length ey
                            simp only [List.length_cons] at l1 l2 hl
                            omega
        · simp only [mtake, List.mem_cons, hi, hf, List.not_mem_nil, or_false, if_false, Except.map, Except.bind]
/-- the specification's reading is the program's -/
theorem read_is (b : Bytes) : Vaskya.read b = mread b := by
  unfold Vaskya.read mread tokens
  have hT : TEXT = 4096 := rfl
  rw [hT]
  by_cases h : 4096 < b.length
  · rw [if_pos h, if_pos h]
    rfl
  · rw [if_neg h, if_neg h, lex_is]
    cases e : mtokens b with
    | error p => rfl
    | ok ts =>
      have hg : Good ts := mloop_good _ _ _ _ e
      show (takeWord "measures" (tm ts)).bind _ = _
      cases ts with
      | nil => exact hg.elim
      | cons t r =>
        rw [take_word (good_wf hg) kw_measures (.inl rfl), bind_map]
        show _ = (mtake [.measures] (t :: r)).bind _
        cases h1 : mtake [.measures] (t :: r) with
        | error f => rfl
        | ok x =>
          have hx := mtake_good h1 hg (by decide)
          have e2 : (tm x.2).length = x.2.length := List.length_map ..
          have m := take_measures (x.2.length + 1) [] x.2 hx (by decide) (Nat.le_succ _)
          simp only [Except.bind]
          rw [e2, m]
          cases h2 : mmeasures (x.2.length + 1) [] x.2 with
          | error f => rfl
          | ok y =>
            have hy := mmeasures_good _ _ _ _ h2 hx (by decide)
            have e3 : (tm y.2).length = y.2.length := List.length_map ..
            simp only [Except.map]
            rw [e3, take_items hy.2.1 _ [] y.2 hy.1 (by decide) (Nat.le_succ _)]
end Fm

/-! The program's texts by place, and words that serve every def. -/
namespace Fm
open PySem PySem.Spec PyProof.Rows L2

def top (i : Nat) : Stmt := PySem.Challenge.pw_fewmeasures_s01_answers.main.body.getD i (.Pass ⟨0, 0, 0, 0⟩)

theorem if_t {c : Bool} {A B : Prop} (hc : c = true) (h : A) : if c = true then A else B := by
  rw [if_pos hc]
  exact h
theorem if_f {c : Bool} {A B : Prop} (hc : c = false) (h : B) : if c = true then A else B := by
  rw [hc, if_neg Bool.false_ne_true]
  exact h


/-! ### constants of the module -/
def GI (mg : Str → Option Value) (x : Str) (i : Int) : Prop := ∃ t, mg x = some (Value.int i t)
def GS (mg : Str → Option Value) (x : Str) (z : Str) : Prop := ∃ t, mg x = some (Value.str z t)
section
variable {X : Cx} {x : Str} {i : Int} {z : Str} {pos : Pos}
theorem pe_gi (h : GI X.mg x i) (hg : Gl X x := by rfl) (hd : (x == ("__debug__" : Str)) = false := by decide) : PE X (.Name x pos) (tC (.int i)) := by
  obtain ⟨t, e⟩ := h
  exact pe_glob hg e ⟨t, rfl⟩ hd
theorem pe_gs (h : GS X.mg x z) (hg : Gl X x := by rfl) (hd : (x == ("__debug__" : Str)) = false := by decide) : PE X (.Name x pos) (tC (.str z)) := by
  obtain ⟨t, e⟩ := h
  exact pe_glob hg e ⟨t, rfl⟩ hd
/-- a written list or tuple of the module -/
theorem pe_gr {a : Addr} (h : X.mg x = some (.ref a)) (hg : Gl X x := by rfl) (hd : (x == ("__debug__" : Str)) = false := by decide) : PE X (.Name x pos) (tC (.ref a)) := pe_glob hg h rfl hd
end

/-- a while by its invariant and measure: the test comes out as a truth value and leaves the heap -/
theorem while_v {c : TT} {tb : TS} {D : Ends} {σ : L2.St} {H : Hp} (W : Nat → L2.St → Hp → Prop) {m0 : Nat} (h0 : W m0 σ H)
    (hs : ∀ m σ H, W m σ H → ∃ v : Bool, (∀ G : Bool → Hp → Prop, G v H → c σ H G) ∧
      (v = true → tb { D with nx := fun σ' H' => ∃ m', m' < m ∧ W m' σ' H', ct := fun σ' H' => ∃ m', m' < m ∧ W m' σ' H', bk := D.nx } σ H) ∧ (v = false → D.nx σ H)) : tWhile c tb D σ H := by
  refine ⟨W, ⟨m0, h0⟩, fun m σ H w => ?_⟩
  obtain ⟨v, ht, hb, he⟩ := hs m σ H w
  refine ht _ ?_
  cases v with
  | true => exact ⟨_, fun σ' H' h => h, hb rfl⟩
  | false => exact he rfl
/-- an if whose test comes out as a truth value and leaves the heap -/
theorem if_v {c : TT} {t u : TS} {D : Ends} {σ : L2.St} {H : Hp} (v : Bool) (ht : ∀ G : Bool → Hp → Prop, G v H → c σ H G) (h1 : v = true → t D σ H) (h2 : v = false → u D σ H) : tIfS c t u D σ H := by
  refine ht _ ?_
  cases v with
  | true => exact h1 rfl
  | false => exact h2 rfl

/-- bytes as the program holds them -/
def vb (l : VaskyBase.Bytes) : List V := l.map fun b => V.int b.toNat
theorem vb_len (l : VaskyBase.Bytes) : (vb l).length = l.length := List.length_map ..
theorem vb_at {l : VaskyBase.Bytes} {n : Nat} {b : UInt8} (h : l[n]? = some b) : atI (vb l) (n : Int) = some (.int b.toNat) := atI_nat (by unfold vb; rw [List.getElem?_map, h]; rfl)
theorem b8_eq {b : UInt8} {n : Nat} (h : n < 256) : decide ((b.toNat : Int) = n) = (b == UInt8.ofNat n) := by
  have e : (UInt8.ofNat n).toNat = n := by
    rw [UInt8.toNat_ofNat']
    exact Nat.mod_eq_of_lt h
  by_cases c : b = UInt8.ofNat n
  · subst c
    rw [e]
    simp
  · have c2 : ¬ ((b.toNat : Int) = n) := fun z => c (UInt8.toNat_inj.mp (by rw [e]; omega))
    rw [decide_eq_false c2]
    exact (beq_eq_false_iff_ne.mpr c).symm
theorem v8_eq {b : UInt8} {n : Nat} (h : n < 256) : decide (V.int b.toNat = V.int n) = (b == UInt8.ofNat n) := by
  rw [← b8_eq h]
  exact decide_eq_decide.mpr ⟨fun z => V.int.inj z, fun z => by rw [z]⟩
theorem drop_at {α : Type} {l : List α} {n : Nat} (h : n < l.length) : ∃ b, l[n]? = some b ∧ l.drop n = b :: l.drop (n + 1) :=
  ⟨l[n], List.getElem?_eq_getElem h, List.drop_eq_getElem_cons h⟩
end Fm

/-! The defs of the tokens: signs, numbers, blanks. -/
namespace Fm
open PySem PySem.Spec PyProof.Rows L2
abbrev sIsLetter : Stmt := top 24
abbrev sIsDigit : Stmt := top 25
abbrev sAmount : Stmt := top 26
abbrev sPastRemark : Stmt := top 27
abbrev sPastBlanks : Stmt := top 28
section
variable {P : Program} {w : World} {K : PySem.W.Frag} {mg : Str → Option Value} {base : Heap}

/-! ### is_digit, is_letter -/
def spDigit : Sp := fun vs H Q _ => ∃ b : UInt8, vs = [.int b.toNat] ∧ Q (.bl (VaskyBase.isDigit b)) H
def spLetter : Sp := fun vs H Q _ => ∃ b : UInt8, vs = [.int b.toNat] ∧ Q (.bl (VaskyBase.isLetter b)) H
theorem scDigit : FnScope ["byte"] ["byte"] (defScope sIsDigit) := ⟨rfl, rfl, rfl, by decide +kernel, rfl, by decide +kernel, by decide +kernel⟩
theorem scLetter : FnScope ["byte"] ["byte"] (defScope sIsLetter) := ⟨rfl, rfl, rfl, by decide +kernel, rfl, by decide +kernel, by decide +kernel⟩
theorem between {b : UInt8} {lo hi : Nat} : decide (lo ≤ b.toNat ∧ b.toNat ≤ hi) = (decide ((lo : Int) ≤ b.toNat) && decide ((b.toNat : Int) ≤ hi)) := by
  rw [Bool.decide_and]
  congr 1 <;> (apply decide_eq_decide.mpr; omega)
theorem ok_digit {f : Addr} {fd : FuncData} (F : Fun K "is_digit" "is_digit" sIsDigit f fd) : FnOk P w K mg base CX0 1 f fd ["byte"] spDigit := by
  refine F.ok scDigit (fun vs H Q E h => ?_) (fun cdv A outer s H vs Q E hr h => ?_)
  · obtain ⟨b, rfl, _⟩ := h
    rfl
  · obtain ⟨b, rfl, k⟩ := h
    refine ⟨_, pss_one (ps_ret (pe_chain op_le op_le pe_int (pv 0) pe_int)), ?_⟩
    refine ⟨_, rfl, _, _, rfl, rfl, _, rfl, ?_⟩
    unfold VaskyBase.isDigit at k
    rw [between] at k
    refine ite2 (fun c => ?_) (fun c => ?_)
    · have c' : decide (((48 : Nat) : Int) ≤ b.toNat) = true := c
      rw [c'] at k
      exact ⟨_, _, rfl, rfl, k⟩
    · have c' : decide (((48 : Nat) : Int) ≤ b.toNat) = false := eq_false_of_ne_true c
      rw [c'] at k
      exact k
theorem ok_letter {f : Addr} {fd : FuncData} (F : Fun K "is_letter" "is_letter" sIsLetter f fd) : FnOk P w K mg base CX0 1 f fd ["byte"] spLetter := by
  refine F.ok scLetter (fun vs H Q E h => ?_) (fun cdv A outer s H vs Q E hr h => ?_)
  · obtain ⟨b, rfl, _⟩ := h
    rfl
  · obtain ⟨b, rfl, k⟩ := h
    refine ⟨_, pss_one (ps_ret (pe_or (pe_chain op_le op_le pe_int (pv 0) pe_int) (pe_one (pe_chain op_le op_le pe_int (pv 0) pe_int)))), ?_⟩
    unfold VaskyBase.isLetter at k
    rw [between, between] at k
    have second : ∀ Q' : VK, Q' (.bl (decide (((97 : Nat) : Int) ≤ b.toNat) && decide ((b.toNat : Int) ≤ (122 : Nat)))) H →
        tChain (rI0 fun i j => .bl (decide (i ≤ j))) (rI0 fun i j => .bl (decide (i ≤ j))) (tC (.int 97)) (tVar 0) (tC (.int 122)) (start ["byte"] [.int b.toNat]) H Q' := fun Q' k' => by
      refine ⟨_, rfl, _, _, rfl, rfl, _, rfl, ?_⟩
      refine ite2 (fun c => ?_) (fun c => ?_)
      · have c' : decide (((97 : Nat) : Int) ≤ b.toNat) = true := c
        rw [c'] at k'
        exact ⟨_, _, rfl, rfl, k'⟩
      · have c' : decide (((97 : Nat) : Int) ≤ b.toNat) = false := eq_false_of_ne_true c
        rw [c'] at k'
        exact k'
    refine ⟨_, rfl, _, _, rfl, rfl, _, rfl, ?_⟩
    refine ite2 (fun c => ?_) (fun c => ?_)
    · have c' : decide (((65 : Nat) : Int) ≤ b.toNat) = true := c
      rw [c'] at k
      refine ⟨_, _, rfl, rfl, _, rfl, ?_⟩
      refine ite2 (fun d => ?_) (fun d => ?_)
      · have d' : decide ((b.toNat : Int) ≤ (90 : Nat)) = true := d
        rw [d'] at k
        exact k
      · have d' : decide ((b.toNat : Int) ≤ (90 : Nat)) = false := eq_false_of_ne_true d
        rw [d'] at k
        exact second _ k
    · have c' : decide (((65 : Nat) : Int) ≤ b.toNat) = false := eq_false_of_ne_true c
      rw [c'] at k
      refine ⟨_, rfl, ?_⟩
      exact iteF (second _ k)

/-! ### amount -/
def spAmount (K : PySem.W.Frag) : Sp := fun vs H Q _ => ∃ (a : Addr) (l : VaskyBase.Bytes), vs = [.ref a] ∧ SqL K H a (vb l) ∧ l.length ≤ 10000 ∧ (∀ b ∈ l, VaskyBase.isDigit b = true) ∧ Q (.int (VaskyBase.decimal l)) H
theorem scAmount : FnScope ["digits", "told", "digit"] ["digits"] (defScope sAmount) := ⟨rfl, rfl, rfl, by decide +kernel, rfl, by decide +kernel, by decide +kernel⟩
theorem dec_snoc (l : VaskyBase.Bytes) (b : UInt8) : VaskyBase.decimal (l ++ [b]) = 10 * VaskyBase.decimal l + (b.toNat - 48) := by
  unfold VaskyBase.decimal
  rw [List.foldl_append]
  rfl
theorem dec_lt : ∀ n (l : VaskyBase.Bytes), l.length = n → (∀ b ∈ l, VaskyBase.isDigit b = true) → VaskyBase.decimal l < 10 ^ l.length
  | 0, l, h, _ => by
    cases l with
    | nil => decide
    | cons => simp at h
  | n + 1, l, h, hd => by
    have hne : l ≠ [] := fun z => by rw [z] at h; simp at h
    have e := List.dropLast_concat_getLast hne
    have hlen : l.dropLast.length = n := by rw [List.length_dropLast]; omega
    have ih := dec_lt n l.dropLast hlen (fun b hb => hd b ((List.dropLast_sublist l).mem hb))
    have hlast := digit_of (hd _ (List.getLast_mem hne))
    rw [← e, dec_snoc, List.length_append, List.length_singleton, Nat.pow_succ]
    omega
theorem ok_amount {f : Addr} {fd : FuncData} (F : Fun K "amount" "amount" sAmount f fd) (gZ : GI mg "ZERO" 48) : FnOk P w K mg base CX0 1 f fd ["digits"] (spAmount K) := by
  refine F.ok scAmount (fun vs H Q E h => ?_) (fun cdv A outer s H vs Q E hr h => ?_)
  · obtain ⟨a, l, rfl, _⟩ := h
    rfl
  · obtain ⟨a, l, rfl, hl, hz, hd, k⟩ := h
    refine ⟨_, pss_cons (ps_set (i := 1) scAmount.nd rfl (Or.inl rfl) pe_int)
      (pss_cons (ps_for PassesOwn.never rfl (pi_list (pv 0)) (pg_name (i := 2) scAmount.nd rfl (Or.inl rfl))
        (pss_one (ps_set (i := 1) scAmount.nd rfl (Or.inl rfl) (pe_op op_sub (pe_op op_add (pe_op op_mulW (pv 1) pe_int) (pv 2)) (pe_gi gZ)))))
      (pss_one (ps_ret (pv 1)))), ?_⟩
    refine ⟨_, rfl, a, rfl, ⟨_, hl⟩, for_list (K := K) (a := a) (xs := vb l) (fun i σ H' => ∃ v : Option V, σ = [some (.ref a), some (.int (VaskyBase.decimal (l.take i))), v] ∧ H' = H)
      ⟨none, rfl, rfl⟩ (fun i σ H' _ ⟨_, _, e⟩ => by rw [e]; exact hl) ?_ ?_⟩
    · rintro i y σ H' hi ⟨v, rfl, rfl⟩
      obtain ⟨b, hb, rfl⟩ : ∃ b, l[i]? = some b ∧ y = V.int b.toNat := by
        unfold vb at hi
        rw [List.getElem?_map] at hi
        cases e : l[i]? with
        | none => rw [e] at hi; cases hi
        | some z => rw [e] at hi; exact ⟨z, rfl, (Option.some.inj hi).symm⟩
      have hm : b ∈ l := List.mem_of_getElem? hb
      have hdb := digit_of (hd b hm)
      have ht : l.take (i + 1) = l.take i ++ [b] := by
        rw [List.take_add_one, hb]
        rfl
      have hlt := dec_lt _ (l.take i) rfl (fun c hc => hd c (List.mem_of_mem_take hc))
      have hle : (l.take i).length ≤ 10000 := by rw [List.length_take]; omega
      refine ⟨_, rfl, _, _, rfl, rfl, ?_, _, rfl, _, _, rfl, rfl, _, _, rfl, rfl, ?_⟩
      · refine wide_mul (a := 40000) (b := 8) ?_ (by decide) (by decide) (by decide) (by decide)
        show VaskyBase.decimal (l.take i) < 2 ^ 40000
        refine Nat.lt_of_lt_of_le hlt (Nat.le_trans (Nat.pow_le_pow_right (by decide) hle) ?_)
        rw [show (40000 : Nat) = 4 * 10000 from rfl, Nat.pow_mul]
        exact Nat.pow_le_pow_left (by decide) _
      · refine ⟨some (.int b.toNat), ?_, rfl⟩
        rw [ht, dec_snoc]
        have e : ((VaskyBase.decimal (l.take i) : Int) * 10 + b.toNat - 48) = ((10 * VaskyBase.decimal (l.take i) + (b.toNat - 48) : Nat) : Int) := by omega
        rw [← e]
        rfl
    · rintro σ H' ⟨v, rfl, rfl⟩
      rw [vb_len, List.take_length]
      exact ⟨_, rfl, k⟩

/-! ### past_remark, past_blanks -/
def lineLen (l : VaskyBase.Bytes) : Nat := (l.takeWhile (· != 10)).length
def spRemark (K : PySem.W.Frag) : Sp := fun vs H Q _ => ∃ (a : Addr) (l : VaskyBase.Bytes) (n : Nat), vs = [.ref a, .int n] ∧ SqL K H a (vb l) ∧ n ≤ l.length ∧ Q (.int ((n + lineLen (l.drop n) : Nat) : Int)) H
theorem scRemark : FnScope ["text", "at"] ["text", "at"] (defScope sPastRemark) := ⟨rfl, rfl, rfl, by decide +kernel, rfl, by decide +kernel, by decide +kernel⟩
theorem ok_remark {f : Addr} {fd : FuncData} (F : Fun K "past_remark" "past_remark" sPastRemark f fd) (gL : GI mg "LINE_END" 10) (gl : mg "len" = none) : FnOk P w K mg base CX0 1 f fd ["text", "at"] (spRemark K) := by
  refine F.ok scRemark (fun vs H Q E h => ?_) (fun cdv A outer s H vs Q E hr h => ?_)
  · obtain ⟨a, l, n, rfl, _⟩ := h
    rfl
  · obtain ⟨a, l, n, rfl, hl, hn, k⟩ := h
    refine ⟨_, pss_cons (ps_while PassesOwn.never
        (PW.pt (pw_and (pt_cmpR op_lt (pv 1) (pe_callB call_len_seq (by rfl) gl PySem.boot_len (pa_cons (pv 0) pa_nil)) (nomark _))
          (pw_and1 (pt_cmpR op_ne (pe_ix ix_list (pv 0) (pv 1) (fun _ _ => rfl)) (pe_gi gL) (nomark _)))))
        (pss_one (ps_aug (i := 1) scRemark.nd rfl (Or.inl rfl) pe_int ip_add)))
      (pss_one (ps_ret (pv 1))), ?_⟩
    refine while_v (fun m σ H' => ∃ j, m = l.length - j ∧ j ≤ l.length ∧ σ = [some (.ref a), some (.int (j : Nat))] ∧ H = H' ∧ j + lineLen (l.drop j) = n + lineLen (l.drop n)) (m0 := l.length - n) ⟨n, rfl, hn, rfl, rfl, rfl⟩ ?_
    rintro m σ H' ⟨j, rfl, hj, rfl, rfl, inv⟩
    by_cases hlt : j < l.length
    · obtain ⟨b, hb, hdr⟩ := drop_at hlt
      refine ⟨b != 10, fun G g => ?_, fun c => ?_, fun c => ?_⟩
      · refine ⟨_, rfl, _, rfl, a, _, rfl, .inl hl, _, _, rfl, rfl, _, rfl, ?_⟩
        rw [vb_len]
        refine if_t (decide_eq_true (by omega)) ?_
        refine ⟨_, rfl, _, rfl, a, _, _, _, rfl, rfl, hl, vb_at hb, rfl, _, rfl, ?_⟩
        rw [show decide (V.int b.toNat = V.int 10) = (b == 10) from v8_eq (n := 10) (by decide)]
        exact g
      · refine ⟨_, rfl, _, _, rfl, rfl, ?_⟩
        refine ⟨l.length - (j + 1), by omega, j + 1, rfl, hlt, rfl, rfl, ?_⟩
        rw [← inv, hdr]
        unfold lineLen
        rw [List.takeWhile_cons, if_pos c, List.length_cons]
        omega
      · refine ⟨_, rfl, ?_⟩
        have z : lineLen (l.drop j) = 0 := by
          rw [hdr]
          unfold lineLen
          rw [List.takeWhile_cons, if_neg (by rw [c]; exact Bool.false_ne_true)]
          rfl
        rw [← inv, z] at k
        exact k
    · have hge : j = l.length := by omega
      refine ⟨false, fun G g => ?_, fun c => Bool.noConfusion c, fun _ => ?_⟩
      · refine ⟨_, rfl, _, rfl, a, _, rfl, .inl hl, _, _, rfl, rfl, _, rfl, ?_⟩
        rw [vb_len]
        exact if_f (decide_eq_false (by omega)) g
      · refine ⟨_, rfl, ?_⟩
        have z : lineLen (l.drop j) = 0 := by
          rw [List.drop_eq_nil_of_le (by omega)]
          rfl
        rw [← inv, z] at k
        exact k

/-! ### past_blanks -/
theorem skip_line (l : VaskyBase.Bytes) : skipB true l = lineLen l + skipB false (l.drop (lineLen l)) := by
  rw [skip_remark]
  have z := List.takeWhile_append_dropWhile (p := (· != (10 : UInt8))) (l := l)
  have z2 : List.drop (l.takeWhile (· != 10)).length l = l.dropWhile (· != 10) := by
    conv => lhs; arg 2; rw [← z]
    rw [List.drop_left]
  unfold lineLen
  rw [z2]
/-- a written tuple of the module -/
def GT (K : PySem.W.Frag) (mg : Str → Option Value) (x : Str) (xs : List V) : Prop := ∃ a, mg x = some (.ref a) ∧ ∀ H, SqT K H a xs
def spBlanks (K : PySem.W.Frag) : Sp := fun vs H Q _ => ∃ (a : Addr) (l : VaskyBase.Bytes) (n : Nat), vs = [.ref a, .int n] ∧ SqL K H a (vb l) ∧ n ≤ l.length ∧ Q (.int ((n + skipB false (l.drop n) : Nat) : Int)) H
theorem scBlanks : FnScope ["text", "at"] ["text", "at"] (defScope sPastBlanks) := ⟨rfl, rfl, rfl, by decide +kernel, rfl, by decide +kernel, by decide +kernel⟩
theorem ok_blanks {f fR : Addr} {fd fdR : FuncData} (F : Fun K "past_blanks" "past_blanks" sPastBlanks f fd) (gR : GI mg "REMARK" 35) (gB : GT K mg "BLANKS" [.int 32, .int 9, .int 10]) (gl : mg "len" = none)
    (GR : FnOk P w K mg base CX0 1 fR fdR ["text", "at"] (spRemark K)) (mR : mg "past_remark" = some (.ref fR)) (kR : PySem.W.keepIn K (.ref fR) = true) (bR : Binds K fdR ["text", "at"] []) : FnOk P w K mg base CX0 2 f fd ["text", "at"] (spBlanks K) := by
  refine F.ok scBlanks (fun vs H Q E h => ?_) (fun cdv A outer s H vs Q E hr h => ?_)
  · obtain ⟨a, l, n, rfl, _⟩ := h
    rfl
  · obtain ⟨a, l, n, rfl, hl, hn, k⟩ := h
    obtain ⟨aB, mB, tB⟩ := gB
    refine ⟨_, pss_cons (ps_while PassesOwn.never
        (PW.pt (pw_and (pt_cmpR op_lt (pv 1) (pe_callB call_len_seq (by rfl) gl PySem.boot_len (pa_cons (pv 0) pa_nil)) (nomark _))
          (pw_and1 (PW.pt (pw_or (pt_cmpR op_in_seq (pe_ix ix_list (pv 0) (pv 1) (fun _ _ => rfl)) (pe_gr mB) rfl)
            (pw_or1 (pt_cmpR op_eq (pe_ix ix_list (pv 0) (pv 1) (fun _ _ => rfl)) (pe_gi gR) (nomark _))))))))
        (pss_one (ps_if (pt_cmpR op_eq (pe_ix ix_list (pv 0) (pv 1) (fun _ _ => rfl)) (pe_gi gR) (nomark _))
          (pss_one (ps_set (i := 1) scBlanks.nd rfl (Or.inl rfl) (pe_call GR hr (by rfl) mR kR bR .nil pass0 (pa_cons (pv 0) (pa_cons (pv 1) pa_nil)))))
          (pss_one (ps_aug (i := 1) scBlanks.nd rfl (Or.inl rfl) pe_int ip_add)))))
      (pss_one (ps_ret (pv 1))), ?_⟩
    refine while_v (fun m σ H' => ∃ j, m = l.length - j ∧ j ≤ l.length ∧ σ = [some (.ref a), some (.int (j : Nat))] ∧ H = H' ∧ j + skipB false (l.drop j) = n + skipB false (l.drop n)) (m0 := l.length - n) ⟨n, rfl, hn, rfl, rfl, rfl⟩ ?_
    rintro m σ H' ⟨j, rfl, hj, rfl, rfl, inv⟩
    by_cases hlt : j < l.length
    · obtain ⟨b, hb, hdr⟩ := drop_at hlt
      have e35 : decide (V.int b.toNat = V.int 35) = (b == 35) := v8_eq (n := 35) (by decide)
      have eB : inV (V.int b.toNat) [.int 32, .int 9, .int 10] = VaskyBase.isBlank b := by
        have v1 := b8_eq (b := b) (n := 32) (by decide)
        have v2 := b8_eq (b := b) (n := 9) (by decide)
        have v3 := b8_eq (b := b) (n := 10) (by decide)
        unfold VaskyBase.isBlank
        rw [show (b == 32) = (b == UInt8.ofNat 32) from rfl, show (b == 9) = (b == UInt8.ofNat 9) from rfl, show (b == 10) = (b == UInt8.ofNat 10) from rfl, ← v1, ← v2, ← v3]
        unfold inV
        simp only [List.any_cons, List.any_nil, Bool.or_false, eqV]
        rw [Bool.eq_iff_iff]
        simp only [Bool.or_eq_true, decide_eq_true_eq, beq_iff_eq]
        omega
      refine ⟨VaskyBase.isBlank b || b == 35, fun G g => ?_, fun c => ?_, fun c => ?_⟩
      · refine ⟨_, rfl, _, rfl, a, _, rfl, .inl hl, _, _, rfl, rfl, _, rfl, ?_⟩
        rw [vb_len]
        refine if_t (decide_eq_true (by omega)) ?_
        refine ⟨_, rfl, _, rfl, a, _, _, _, rfl, rfl, hl, vb_at hb, aB, _, rfl, .inr (tB _), rfl, rfl, _, rfl, ?_⟩
        show (if (inV (V.int b.toNat) [.int 32, .int 9, .int 10]) = true then G true H else _)
        rw [eB]
        refine ite2 (fun c => ?_) (fun c => ?_)
        · rw [c] at g
          exact g
        · rw [eq_false_of_ne_true c] at g
          refine ⟨_, rfl, _, rfl, a, _, _, _, rfl, rfl, hl, vb_at hb, rfl, _, rfl, ?_⟩
          rw [e35]
          exact g
      · refine if_v (b == 35) (fun G g => ?_) (fun d => ?_) (fun d => ?_)
        · refine ⟨_, rfl, _, rfl, a, _, _, _, rfl, rfl, hl, vb_at hb, rfl, _, rfl, ?_⟩
          rw [e35]
          exact g
        · have eb : b = 35 := beq_iff_eq.mp d
          refine ⟨_, rfl, _, rfl, a, l, j, rfl, hl, hj, ?_⟩
          have e1 : skipB false (l.drop j) = lineLen (l.drop j) + skipB false (l.drop (j + lineLen (l.drop j))) := by
            rw [← List.drop_drop, ← skip_line, hdr, eb]
            rfl
          have e2 : 1 ≤ lineLen (l.drop j) := by
            rw [hdr, eb]
            unfold lineLen
            rw [List.takeWhile_cons, if_pos (by decide), List.length_cons]
            omega
          have e3 : lineLen (l.drop j) ≤ (l.drop j).length := (List.takeWhile_sublist _).length_le
          rw [List.length_drop] at e3
          refine ⟨l.length - (j + lineLen (l.drop j)), by omega, j + lineLen (l.drop j), rfl, by omega, rfl, rfl, ?_⟩
          omega
        · have hbl : VaskyBase.isBlank b = true := by
            rw [d, Bool.or_false] at c
            exact c
          refine ⟨_, rfl, _, _, rfl, rfl, ?_⟩
          refine ⟨l.length - (j + 1), by omega, j + 1, rfl, hlt, rfl, rfl, ?_⟩
          rw [← inv, hdr]
          simp only [skipB, hbl, if_true]
          omega
      · refine ⟨_, rfl, ?_⟩
        have hc := Bool.or_eq_false_iff.mp c
        have z : skipB false (l.drop j) = 0 := by
          rw [hdr]
          simp [skipB, hc.1, hc.2]
        rw [← inv, z] at k
        exact k
    · have hge : j = l.length := by omega
      refine ⟨false, fun G g => ?_, fun c => Bool.noConfusion c, fun _ => ?_⟩
      · refine ⟨_, rfl, _, rfl, a, _, rfl, .inl hl, _, _, rfl, rfl, _, rfl, ?_⟩
        rw [vb_len]
        exact if_f (decide_eq_false (by omega)) g
      · refine ⟨_, rfl, ?_⟩
        have z : skipB false (l.drop j) = 0 := by
          rw [List.drop_eq_nil_of_le (by omega)]
          rfl
        rw [← inv, z] at k
        exact k
end
end Fm

/-! An error class over Exception whose __init__ calls Exception.__init__(self) and stores fields. -/
namespace Fm
open PySem PySem.Spec PyProof.Rows L2

/-- what the top has written of such a class at C -/
structure ErrC (K : PySem.W.Frag) (C : Addr) : Prop where
  row : ∃ nm qn N bs sn sub ab col dd z0 z1 z2 z3 z5, K.lookup C = some (excClassObj nm qn C N bs PySem.ESX.exTail true sn sub ab col dd z0 z1 z2 z3 z5 "Exception.__new__")
  set : PySem.W.findIn K (.ref C) "__setattr__" = some (some (.builtin "object.__setattr__"))
  base : PySem.W.subIn K (.ref C) (.type "BaseException") = some true
  meta_ : PySem.W.typeIn K (.ref C) = some (.type "type")
  keep : PySem.W.keepIn K (.ref C) = true
theorem ErrC.cls {K : PySem.W.Frag} {C : Addr} (T : ErrC K C) : ∃ cd : ClassData, PySem.W.clsIn K C = some cd ∧ cd.mro = .ref C :: PySem.ESX.exTail ∧ cd.hasDict = true := by
  obtain ⟨nm, qn, N, bs, sn, sub, ab, col, dd, z0, z1, z2, z3, z5, hC⟩ := T.row
  have e : PySem.W.clsIn K C = some { name := nm, bases := bs, mro := .ref C :: PySem.ESX.exTail, ns := N, qualname := qn, hasDict := true, slotNames := sn, subclasses := sub, abstract := ab, collection := col, hasDel := false } := by
    unfold PySem.W.clsIn
    rw [hC]
  exact ⟨_, e, rfl, rfl⟩

section
variable {X : Cx} {pins : List (Addr × Obj)} {σ : L2.St} {H : Hp} {s : Shared} {a d : Addr}
/-- an object is changed and one is laid in the same step -/
theorem grow_at {h' : Heap} {t' : Nat} {p o v : HO} (I : Inv X pins σ H s) (ha : H a = some p) (np : ∀ x, p ≠ .own x) (nt : ∀ xs, p ≠ .tup xs) (nf : ∀ q r, p ≠ .frz q r) (nb : ∀ ps, p ≠ .tbl ps) (hd : s.heap.objs.size ≤ d)
    (k : ∀ b u, b ≠ a → s.heap.get? b = some u → h'.get? b = some u) (ta : ∃ u, h'.get? a = some u)
    (oa : ObjOk X.prog X.w (upd (upd H d v) a o) h' a o) (od : ObjOk X.prog X.w (upd (upd H d v) a o) h' d v) :
    Inv X pins σ (upd (upd H d v) a o) { s with heap := h', toks := t' } := by
  have hn : H d = none := I.hok.fresh hd
  have stays : ∀ {b : Addr} {q : HO}, H b = some q → q ≠ p → upd (upd H d v) a o b = some q := fun {b q} e ne => by
    rw [upd_ne (fun z => ne (by rw [z, ha] at e; exact (Option.some.inj e).symm)), upd_ne (ne_of_none e hn)]
    exact e
  have freeb : ∀ {b : Addr}, H b = none → b ≠ a := fun {b} e z => by
    rw [z, ha] at e
    cases e
  have old : ∀ {b : Addr} {u : Obj}, s.heap.get? b = some u → b ≠ d := fun {b u} e => Nat.ne_of_lt (Nat.lt_of_lt_of_le (Heap.lt_size e) hd)
  refine I.un (t' := t') ⟨fun b u e n _ _ => k b u (freeb n) e, fun b u e n _ _ => ⟨u.slots, k b u (freeb n) e⟩, fun b u e n _ => ?_, fun b u e _ => ?_, fun b xs e => stays e (fun z => nt xs z.symm), fun b q r e => stays e (fun z => nf q r z.symm), fun b ps e => ?_⟩ ?_
  · rw [upd_ne (freeb n), upd_ne (old e)]
    exact n
  · by_cases hb : b = a
    · rw [hb]
      exact ta
    · exact ⟨u, k b u hb e⟩
  · refine ⟨#[], ?_⟩
    rw [stays e (fun z => nb ps z.symm)]
    simp
  · intro b q e
    by_cases hb : b = a
    · subst hb
      rw [upd_same] at e
      cases e
      exact oa
    · rw [upd_ne hb] at e
      by_cases hb2 : b = d
      · subst hb2
        rw [upd_same] at e
        cases e
        exact od
      · rw [upd_ne hb2] at e
        refine (I.hok b q e).stay (fun c u hc eu => k c u ?_ eu) (fun c hc => stays hc (fun z => np b z.symm)) (fun c xs hc => stays hc (fun z => nt xs z.symm))
        rcases hc with rfl | hc
        · exact hb
        · intro z
          rw [z, ha] at hc
          exact np b (Option.some.inj hc)

variable {C : Addr} {f : Str} {y : V} {u : Value} {fs : List (Str × V)} {Q : Unit → Shared → Prop} {E : Value → Shared → Prop} {A : Around}
/-- the first field of an error that is being made -/
theorem set_first (T : ErrC X.K C) (I : Inv X pins σ H s) (e : H a = some (exo a C none)) (hno : PySem.W.findIn X.K (.ref C) f = some none) (ry : RelV y u)
    (h : ∀ d s', H d = none → d ≠ a → Inv X pins σ (upd (upd H d (exd d [(f, y)])) a (exo a C (some d))) s' → Q () s') : wpAny (model X.prog X.w) A (setAttr (.ref a) f u) Q E s := by
  obtain ⟨cd, hcd, hmro, hdict⟩ := T.cls
  obtain ⟨t1, ho⟩ := exo_at I.hok e
  obtain ⟨hp, g, dr, tk, os⟩ := s
  refine PySem.W.set_plain I.kIn (od := none) ⟨ho, rfl, rfl, trivial⟩ T.set ?_
  refine PySem.ESX.osa_new I.kIn ho hcd hmro hdict hno (fun h' tk' dx k new ne hx hns => ?_)
  refine h dx _ (I.hok.fresh new) ne (grow_at (t' := tk') I e (fun x => exo_own) (fun xs => exo_tup) (fun q r => exo_frz) (fun ps => exo_tbl) new (fun b v hb q => k b v hb q) ⟨_, hx⟩ (exo_ok hx) (exd_ok hns (relO_put (fs := []) ry fun g => True.intro)))
/-- a further field -/
theorem set_more (T : ErrC X.K C) (I : Inv X pins σ H s) (e : H a = some (exo a C (some d))) (ed : H d = some (exd d fs)) (hl : fs.length ≤ 900) (hno : PySem.W.findIn X.K (.ref C) f = some none) (ry : RelV y u)
    (h : ∀ s', Inv X pins σ (upd H d (exd d ((f, y) :: fs))) s' → Q () s') : wpAny (model X.prog X.w) A (setAttr (.ref a) f u) Q E s := by
  obtain ⟨cd, hcd, hmro, hdict⟩ := T.cls
  obtain ⟨t1, ho⟩ := exo_at I.hok e
  obtain ⟨mA, hns, rel⟩ := exd_at I.hok ed
  have wi := within_of rel
  obtain ⟨hp, g, dr, tk, os⟩ := s
  obtain ⟨oD, _, _, hoD, _, _⟩ := hns.count wi
  have small : (fs.map (·.1)).length ≤ 1000 := by
    rw [List.length_map]
    omega
  refine PySem.W.set_plain I.kIn (od := some oD) ⟨ho, rfl, rfl, hoD⟩ T.set ?_
  refine PySem.ESX.osa_old I.kIn ho hns wi small hcd hmro hdict hno (fun h' tk' k hn => ?_)
  have there : ∃ o, h'.get? d = some o := let ⟨o, _, _, q, _⟩ := hn; ⟨o, q⟩
  exact h _ (I.write (t' := tk') (e := d) (by rw [ed]; trivial) (Or.inl rfl) k there (exd_ok hn (relO_put ry rel)))
/-- Exception.__init__(self): the error stays as it is told -/
theorem init_told {us : List Value} {Q : Value → Shared → Prop} (T : ErrC X.K C) (I : Inv X pins σ H s) (e : H a = some (exo a C none)) (hl : us.length ≤ sizeLine) (h : ∀ s', Inv X pins σ H s' → Q .none s') :
    wpAny (model X.prog X.w) A (call (.builtin "Exception.__init__") (.ref a :: us)) Q E s := by
  obtain ⟨nm, qn, N, bs, sn, sub, ab, col, dd, z0, z1, z2, z3, z5, hC⟩ := T.row
  obtain ⟨t1, ho⟩ := exo_at I.hok e
  obtain ⟨hp, g, dr, tk, os⟩ := s
  refine wpAny_call (PySem.HandSPX.init_base F.excBase_Exception (fun _ => rfl) (I.kIn _ _ hC) ho hl fun h' t2 k hx => ?_)
  have J := I.write (t' := tk) (e := a) (by rw [e]; trivial) (Or.inl rfl) k ⟨_, hx⟩ (exo_ok (C := C) (d := none) hx)
  have same : upd H a (exo a C none) = H := funext fun b => by
    by_cases hb : b = a
    · rw [hb, upd_same, e]
    · rw [upd_ne hb]
  rw [same] at J
  exact h _ J
end
theorem type_Exc : typeOf (.type "Exception") = pure (.type "type") := by kernel_rfl

section
variable {X : Cx} {o e : Expr} {es : List Expr} {to te : TE} {ta : TA} {f : Str} {p p' p1 p2 pos : Pos}
def tExInit (K : PySem.W.Frag) (ta : TA) : TE := fun σ H Q => ta σ H fun vs H1 => ∃ (a C : Addr) (ws : List V), vs = .ref a :: ws ∧ ws.length ≤ 1000 ∧ ErrC K C ∧ H1 a = some (exo a C none) ∧ Q .non H1
def tSetErr (K : PySem.W.Frag) (f : Str) (to te : TE) : TS := fun D σ H => te σ H fun y H1 => to σ H1 fun x H2 => ∃ a C : Addr, x = .ref a ∧ ErrC K C ∧ PySem.W.findIn K (.ref C) f = some none ∧
  ((H2 a = some (exo a C none) ∧ ∀ d, H2 d = none → d ≠ a → D.nx σ (upd (upd H2 d (exd d [(f, y)])) a (exo a C (some d)))) ∨
    ∃ (d : Addr) (fs : List (Str × V)), H2 a = some (exo a C (some d)) ∧ H2 d = some (exd d fs) ∧ fs.length ≤ 900 ∧ D.nx σ (upd H2 d (exd d ((f, y) :: fs))))
/-- C(e, ..): the class's own __init__ keeps sp -/
def tMkErr (C : Addr) (sp : Sp) (ta : TA) : L2.St → Hp → XK → Prop := fun σ H Q => ta σ H fun vs H1 => vs.length ≤ 1000 ∧ ∀ a, H1 a = none → sp (.ref a :: vs) (upd H1 a (exo a C none))
  (fun v H2 => v = .non ∧ ∃ (d : Addr) (fs : List (Str × V)), H2 a = some (exo a C (some d)) ∧ H2 d = some (exd d fs) ∧ H1 d = none ∧ Q (.ref C) (some d) (upd (del H2 a) d (.xd fs))) (fun _ _ _ => False)
theorem pe_exinit {pl : Sem Bool} (hg : Gl X "Exception") (hm : X.mg "Exception" = none) (vV : PySem.W.findCls X.K (.type "Exception") (.type "type") "__init__" = some (.val (.builtin "Exception.__init__"))) (ha : PA X (e :: es) ta)
    (hc : eval (.Call (.Attribute (.Name "Exception" p1) "__init__" p2) (e :: es) [] pos) X.env = (do
      let v ← eval (.Name "Exception" p1) X.env
      standAt p2.atName
      let (m, first) ← holding [v] (getMethod v "__init__" pl)
      callWith pos m first (backTo pos (starEach (e :: es) X.env)) (backToKw pos (keywordEach [] X.env))) := by rfl)
    (he : starEach (e :: es) X.env = (false, eval e X.env) :: starEach es X.env := by rfl) (hpl : (backTo pos (starEach es X.env)).any (·.1) = false := by rfl) :
    PE X (.Call (.Attribute (.Name "Exception" p1) "__init__" p2) (e :: es) [] pos) (tExInit X.K ta) := by
  refine ⟨fun pins s σ H Q I h => ?_⟩
  refine PySem.W.methodCall_KW (ld_blt I hg hm PyProof.Rows.Boot.«Exception» ?_ (by decide) (by decide)) hc
  obtain ⟨m, fr⟩ := I.fr
  refine PySem.W.method_type fr I.ok.mod.kin type_Exc (by decide +kernel) vV (by decide +kernel) ?_
  show wpAny _ _ (callWith pos (.builtin "Exception.__init__") [] (backTo pos (starEach (e :: es) X.env)) []) _ _ _
  refine PyProof.Rows.callWith_method1 (thn (ha.run pos pins _ σ H _ (I.tok _) h) fun us s1 hh => ?_) he hpl
  obtain ⟨vs, H1, I1, r1, a, C, ws, ev, hl, T, ea, q⟩ := hh
  subst ev
  cases r1 with
  | @cons _ u0 _ ur ra rw' =>
    obtain rfl : u0 = Value.ref a := ra
    have few : ur.length ≤ sizeLine := by
      have := Paired.length rw'
      rw [sizeLine_eq]
      omega
    exact init_told T I1 ea few fun s' J => ⟨.non, H1, J, rfl, q⟩
theorem ps_seterr (ho : PE X o to) (he : PE X e te) (hs : swapsWith e (some (.Attribute o f p')) pos.line X.env = pure false := by rfl) : PS X (.Assign [.Attribute o f p'] e pos) (tSetErr X.K f to te) := by
  refine ⟨fun pins s σ H D I h => ?_⟩
  refine plainObj_wpAny_Assign_Attribute (thn (he.run pins s σ H _ I h) fun v s1 h1 => ?_) hs
  obtain ⟨y, H1, I1, r1, q1⟩ := h1
  refine thn (ho.run pins s1 σ H1 _ I1 q1) fun u s2 h2 => ?_
  obtain ⟨x, H2, I2, r2, a, C, ex, T, hno, q⟩ := h2
  subst ex
  obtain rfl : u = Value.ref a := r2
  rcases q with ⟨ea, q⟩ | ⟨d, fs, ea, ed, hl, q⟩
  · exact set_first T I2 ea hno r1 fun d s' n ne J => ⟨σ, _, J, q d n ne⟩
  · exact set_more T I2 ea ed hl hno r1 fun s' J => ⟨σ, _, J, q⟩
theorem pmk_err {x : Str} {C fI : Addr} {k : Nat} {fd : FuncData} {ps : List Str} {sp : Sp} (T : ErrC X.K C) (iC : PySem.W.findIn X.K (.ref C) "__init__" = some (some (.ref fI))) (tI : PySem.W.typeIn X.K (.ref fI) = some (.type "function"))
    (F1 : FnOk X.prog X.w X.K X.mg X.base CX0 k fI fd ps sp) (hr : Room (k + 1) X.A) (hb : Binds X.K fd ps []) (hm : X.mg x = some (.ref C)) (ha : PA X (e :: es) ta) (hg : Gl X x := by rfl)
    (hdb : (x == ("__debug__" : Str)) = false := by decide) (he : starEach (e :: es) X.env = (false, eval e X.env) :: starEach es X.env := by rfl) (hpl : (backTo pos (starEach es X.env)).any (·.1) = false := by rfl) :
    PMk X (.Call (.Name x p) (e :: es) [] pos) (tMkErr C sp ta) := by
  intro pins s σ H Q I h
  obtain ⟨nm, qn, N, bs, sn, sub, ab, col, dd, z0, z1, z2, z3, z5, hC⟩ := T.row
  refine wpAny_Call_Name_kw (ld_glob I hg hm ?_ hdb)
  refine PySem.W.callWith_K (h₀ := X.base) I.ok.mod.kin T.keep (thn (ha.run pos pins s σ H _ I h) fun us s1 hh => ?_) he hpl
  obtain ⟨vs, H1, I1, r1, hz, q1⟩ := hh
  refine ⟨I1.kIn, ?_⟩
  show wpAny _ _ (call (.ref C) us) _ _ _
  obtain ⟨hp, g, dr, tk, os⟩ := s1
  let tup := PySem.W.kdv_tup us
  let exc := PySem.HandSPX.excO C hp.objs.size
  have above : hp.objs.size ≤ hp.objs.size + 1 := Nat.le_succ _
  have hn : H1 (hp.objs.size + 1) = none := I1.hok.fresh above
  have hq := q1 (hp.objs.size + 1) hn
  have kk : ∀ b o, hp.get? b = some o → ((hp.push tup).push exc).get? b = some o := fun b o z => Heap.get?_push_of_some _ (Heap.get?_push_of_some _ z)
  have hget : ((hp.push tup).push exc).get? (hp.objs.size + 1) = some exc := by
    show ((hp.push (PySem.W.kdv_tup us)).push (PySem.HandSPX.excO C hp.objs.size)).get? (hp.objs.size + 1) = some (PySem.HandSPX.excO C hp.objs.size)
    heap_get
  have I2 : Inv X pins σ (upd H1 (hp.objs.size + 1) (exo (hp.objs.size + 1) C none)) ⟨(hp.push tup).push exc, g, dr, tk, os⟩ := I1.laid (t' := tk) kk above (exo_ok hget)
  have r2 : Vals (V.ref (hp.objs.size + 1) :: vs) (Value.ref (hp.objs.size + 1) :: us) := .cons rfl r1
  have hl : (Value.ref (hp.objs.size + 1) :: us).length = ps.length := r2.length.symm.trans (F1.len _ _ _ _ hq)
  have few : us.length ≤ sizeLine := by
    have := Paired.length r1
    rw [sizeLine_eq]
    omega
  have bnd := hb (s := ⟨(hp.push tup).push exc, g, dr, tk, os⟩) (Value.ref (hp.objs.size + 1) :: us) I2.kIn (by rw [List.append_nil]; exact hl)
  rw [List.append_nil] at bnd
  refine wpAny_call (PySem.HandSPX.call_own F.excBase_Exception (fun _ => rfl) (I1.kIn _ _ hC) (PySem.W.looks_findIn I1.kIn iC) (fun self => PySem.W.bind_fn I1.kIn self tI) few
    (codeAny_mono (F1.run _ X.stack _ _ ⟨Value.ref (hp.objs.size + 1) :: us, []⟩ (Value.ref (hp.objs.size + 1) :: us) _ _ (fun _ _ _ => False) (hr.make C us []) (I2.env0.make C us []) bnd r2 hq) fun r s' hq' => ?_))
  cases r with
  | error er => exact pass0 (X := X) pins σ _ _ er s' I2 hq'
  | ok fl =>
    cases fl with
    | ret u =>
      obtain ⟨v, H2, os2, bare2, un2, hok2, rv, ev, d, fs, ea, ed, hd1, q2⟩ := hq'
      subst ev
      obtain ⟨h2, g2, d2, t2, os'⟩ := s'
      exact ⟨rv, mk_end (raises_own T.base T.meta_) I1 above kk un2 hok2 os2 bare2 ea ed hd1 q2⟩
    | next => exact hq'.elim
    | brk => exact hq'.elim
    | cont => exact hq'.elim
end

/-! ### Fault -/
abbrev sFaultInit : Stmt := inClass (top 7) 0
/-- a fault's own dict -/
def ff (n p : Int) : List (Str × V) := [("place", .int p), ("number", .int n)]
def spFaultInit (C : Addr) : Sp := fun vs H Q _ => ∃ (a : Addr) (n p : Int), vs = [.ref a, .int n, .int p] ∧ H a = some (exo a C none) ∧
  ∀ d, H d = none → d ≠ a → Q .non (upd (upd (upd H d (exd d [("number", .int n)])) a (exo a C (some d))) d (exd d (ff n p)))
/-- what the top has written of Fault -/
structure FaultT (K : PySem.W.Frag) (mg : Str → Option Value) (C fI : Addr) : Prop where
  err : ErrC K C
  nN : PySem.W.findIn K (.ref C) "number" = some none
  nP : PySem.W.findIn K (.ref C) "place" = some none
  gE : mg "Exception" = none
  vE : PySem.W.findCls K (.type "Exception") (.type "type") "__init__" = some (.val (.builtin "Exception.__init__"))
  gC : mg "Fault" = some (.ref C)
  iC : PySem.W.findIn K (.ref C) "__init__" = some (some (.ref fI))
  tI : PySem.W.typeIn K (.ref fI) = some (.type "function")
section
variable {P : Program} {w : World} {K : PySem.W.Frag} {mg : Str → Option Value} {base : Heap} {C fI : Addr}
theorem scFaultInit : FnScope ["self", "number", "place"] ["self", "number", "place"] (defScope sFaultInit) := ⟨rfl, rfl, rfl, by decide +kernel, rfl, by decide +kernel, by decide +kernel⟩
theorem ok_faultInit {fd : FuncData} (F : Fun K "__init__" "Fault.__init__" sFaultInit fI fd) (T : FaultT K mg C fI) : FnOk P w K mg base CX0 1 fI fd ["self", "number", "place"] (spFaultInit C) := by
  refine F.ok scFaultInit (fun vs H Q E h => ?_) (fun cdv A outer s H vs Q E hr h => ?_)
  · obtain ⟨a, n, p, rfl, _⟩ := h
    rfl
  · obtain ⟨a, n, p, rfl, ha, k⟩ := h
    refine ⟨_, pss_cons (ps_expr (pe_exinit rfl T.gE T.vE (pa_cons (pv 0) pa_nil)))
      (pss_cons (ps_seterr (pv 0) (pv 1)) (pss_one (ps_seterr (pv 0) (pv 2)))), ?_⟩
    refine ⟨_, rfl, a, C, [], rfl, by decide, T.err, ha, ?_⟩
    refine ⟨_, rfl, _, rfl, a, C, rfl, T.err, T.nN, .inl ⟨ha, fun d hd ne => ?_⟩⟩
    refine ⟨_, rfl, _, rfl, a, C, rfl, T.err, T.nP, .inr ⟨d, [("number", .int n)], upd_same, ?_, by show 1 ≤ 900; decide, ?_⟩⟩
    · rw [upd_ne ne, upd_same]
    · exact k d hd ne
end
section
variable {X : Cx} {C fI : Addr} {fd : FuncData} {e1 e2 : Expr} {ta : TA} {p pos : Pos} {k : Nat}
/-- what making Fault(n, p) asks, behind its arguments -/
theorem mkf {C : Addr} {H : Hp} {n p : Int} {Q : XK} (q : ∀ d, H d = none → Q (.ref C) (some d) (upd H d (.xd (ff n p)))) :
    [V.int n, V.int p].length ≤ 1000 ∧ ∀ a, H a = none → spFaultInit C (.ref a :: [V.int n, V.int p]) (upd H a (exo a C none))
      (fun v H2 => v = .non ∧ ∃ (d : Addr) (fs : List (Str × V)), H2 a = some (exo a C (some d)) ∧ H2 d = some (exd d fs) ∧ H d = none ∧ Q (.ref C) (some d) (upd (del H2 a) d (.xd fs))) (fun _ _ _ => False) := by
  refine ⟨by show 2 ≤ 1000; decide, fun a hna => ⟨a, n, p, rfl, upd_same, fun d hd ne => ⟨rfl, d, ff n p, ?_, upd_same, ?_, ?_⟩⟩⟩
  · rw [upd_ne (Ne.symm ne), upd_same]
  · rw [upd_ne ne] at hd
    exact hd
  · rw [upd_ne ne] at hd
    have e : upd (del (upd (upd (upd (upd H a (exo a C none)) d (exd d [("number", .int n)])) a (exo a C (some d))) d (exd d (ff n p))) a) d (.xd (ff n p)) = upd H d (.xd (ff n p)) := funext fun b => by
      by_cases h1 : b = d
      · rw [h1, upd_same, upd_same]
      · rw [upd_ne h1, upd_ne h1]
        by_cases h2 : b = a
        · rw [h2, del_same, hna]
        · rw [del_ne h2, upd_ne h1, upd_ne h2, upd_ne h1, upd_ne h2]
    rw [e]
    exact q d hd
section
variable {X : Cx} {C fI : Addr} {fd : FuncData} {e1 e2 : Expr} {ta : TA} {p pos : Pos} {k : Nat} {W : WX}
/-- raise Fault(number, place) -/
theorem ps_fault {pos2 : Pos} (F : Fun X.K "__init__" "Fault.__init__" sFaultInit fI fd) (T : FaultT X.K X.mg C fI) (hb : Binds X.K fd ["self", "number", "place"] []) (hr : Room 2 X.A) (tk : Takes X W) (ha : PA X [e1, e2] ta) (hc : X.calm = true := by rfl) (hg : Gl X "Fault" := by rfl)
    (he : starEach [e1, e2] X.env = (false, eval e1 X.env) :: starEach [e2] X.env := by rfl) (hpl : (backTo pos (starEach [e2] X.env)).any (·.1) = false := by rfl) :
    PS X (.Raise (some (.Call (.Name "Fault" p) [e1, e2] [] pos)) none pos2) (fun _ σ H => tMkErr C (spFaultInit C) ta σ H fun cls d H' => W cls d σ H') :=
  ps_raise hc tk (pmk_err (k := 1) (sp := spFaultInit C) T.err T.iC T.tI (ok_faultInit F T) hr hb T.gC ha hg (by decide) he hpl)
end
end
end Fm

/-! Equality of data; spelled, Token. -/
namespace Fm
open PySem PySem.Spec PyProof.Rows L2

/-! ### lists of whole numbers, and lists of these, as data -/
def dI (l : List Int) : PyData := .list (l.map .int)
theorem dI_lay : ∀ l : List Int, PyData.canLayAll0 (l.map .int) = true
  | [] => by simp [PyData.canLayAll0]
  | z :: l => by simp [PyData.canLayAll0, PyData.canLay0, dI_lay l]
theorem dI_depth : ∀ l : List Int, PyData.depthAll (l.map .int) = 0
  | [] => by simp [PyData.depthAll]
  | z :: l => by simp [PyData.depthAll, PyData.depth, dI_depth l]
theorem dI_shaped (l : List Int) : SeqAt.shaped (dI l) = true := by
  show (PyData.canLay0 (.list (l.map .int)) && decide (PyData.depth (.list (l.map .int)) ≤ 64)) = true
  rw [Bool.and_eq_true]
  refine ⟨by simp only [PyData.canLay0]; exact dI_lay l, decide_eq_true ?_⟩
  simp only [PyData.depth, dI_depth]
  decide
theorem dI_all : ∀ l m : List Int, PyData.eqvAll (l.map .int) (m.map .int) = decide (l = m)
  | [], [] => by simp [PyData.eqvAll]
  | [], _ :: _ => by simp [PyData.eqvAll]
  | _ :: _, [] => by simp [PyData.eqvAll]
  | a :: l, b :: m => by
    simp only [List.map_cons, PyData.eqvAll, PyData.eqv, dI_all l m, List.cons.injEq, Bool.decide_and]
    rw [Bool.beq_eq_decide_eq]
theorem dI_eqv (l m : List Int) : PyData.eqv (dI l) (dI m) = decide (l = m) := by
  unfold dI
  simp only [PyData.eqv]
  exact dI_all l m
theorem dI_dpAll {K : PySem.W.Frag} {H : Hp} : ∀ l : List Int, DpAll K H (l.map V.int) (l.map .int)
  | [] => .nil
  | z :: l => .cons (.int z) (dI_dpAll l)
theorem dI_dp {K : PySem.W.Frag} {H : Hp} {a : Addr} {l : List Int} (h : SqL K H a (l.map V.int)) : Dp K H (.ref a) (dI l) := .lst h (dI_dpAll l)
def dII (l : List (List Int)) : PyData := .list (l.map dI)
theorem dII_lay : ∀ l : List (List Int), PyData.canLayAll0 (l.map dI) = true
  | [] => by simp [PyData.canLayAll0]
  | z :: l => by
    simp only [List.map_cons, PyData.canLayAll0, dII_lay l, Bool.and_true]
    unfold dI
    simp only [PyData.canLay0]
    exact dI_lay z
theorem dII_depth : ∀ l : List (List Int), PyData.depthAll (l.map dI) ≤ 1
  | [] => by simp [PyData.depthAll]
  | z :: l => by
    have h := dII_depth l
    have h2 : PyData.depth (dI z) = 1 := by
      unfold dI
      simp only [PyData.depth, dI_depth]
    simp only [List.map_cons, PyData.depthAll, h2]
    omega
theorem dII_shaped (l : List (List Int)) : SeqAt.shaped (dII l) = true := by
  show (PyData.canLay0 (.list (l.map dI)) && decide (PyData.depth (.list (l.map dI)) ≤ 64)) = true
  rw [Bool.and_eq_true]
  have h := dII_depth l
  refine ⟨by simp only [PyData.canLay0]; exact dII_lay l, decide_eq_true ?_⟩
  simp only [PyData.depth]
  omega
/-- lists of lists of whole numbers: the items stand at addresses -/
inductive Rows (K : PySem.W.Frag) (H : Hp) : List V → List (List Int) → Prop
  | nil : Rows K H [] []
  | cons {a : Addr} {l : List Int} {vs : List V} {ls : List (List Int)} : SqL K H a (l.map V.int) → Rows K H vs ls → Rows K H (.ref a :: vs) (l :: ls)
theorem Rows.dpAll {K : PySem.W.Frag} {H : Hp} {vs : List V} {ls : List (List Int)} (h : Rows K H vs ls) : DpAll K H vs (ls.map dI) := by
  induction h with
  | nil => exact .nil
  | cons a _ ih => exact .cons (dI_dp a) ih
theorem Rows.dp {K : PySem.W.Frag} {H : Hp} {a : Addr} {vs : List V} {ls : List (List Int)} (h : Rows K H vs ls) (q : SqL K H a vs) : Dp K H (.ref a) (dII ls) := .lst q h.dpAll
theorem Rows.len {K : PySem.W.Frag} {H : Hp} {vs : List V} {ls : List (List Int)} (h : Rows K H vs ls) : vs.length = ls.length := by
  induction h with
  | nil => rfl
  | cons _ _ ih => rw [List.length_cons, List.length_cons, ih]
theorem Rows.get {K : PySem.W.Frag} {H : Hp} {vs : List V} {ls : List (List Int)} (h : Rows K H vs ls) : ∀ {i : Nat} {l : List Int}, ls[i]? = some l → ∃ a, vs[i]? = some (.ref a) ∧ SqL K H a (l.map V.int) := by
  induction h with
  | nil => intro i l e; simp at e
  | @cons a l vs ls q _ ih =>
    intro i l' e
    cases i with
    | zero =>
      cases Option.some.inj e
      exact ⟨a, rfl, q⟩
    | succ i => exact ih (i := i) e
theorem Rows.snoc {K : PySem.W.Frag} {H : Hp} {vs : List V} {ls : List (List Int)} (h : Rows K H vs ls) {a : Addr} {l : List Int} (q : SqL K H a (l.map V.int)) : Rows K H (vs ++ [.ref a]) (ls ++ [l]) := by
  induction h with
  | nil => exact .cons q .nil
  | cons a _ ih => exact .cons a ih
theorem Rows.mono {K : PySem.W.Frag} {H H' : Hp} {vs : List V} {ls : List (List Int)} (h : Rows K H vs ls) (m : ∀ a l, SqL K H a l → SqL K H' a l) : Rows K H' vs ls := by
  induction h with
  | nil => exact .nil
  | cons q _ ih => exact .cons (m _ _ q) ih

/-! ### spelled -/
abbrev sSpelled : Stmt := top 23
/-- a text's codes as whole numbers -/
def codes (z : Str) : List Int := z.cps.toList.map fun (c : Nat) => (c : Int)
def spSpelled : Sp := fun vs H Q _ => ∃ z : Str, vs = [.str z] ∧ z.cps.size < sizeLine ∧ ∀ p, H p = none → Q (.ref p) (upd H p (.lst ((codes z).map V.int)))
section
variable {P : Program} {w : World} {K : PySem.W.Frag} {mg : Str → Option Value} {base : Heap}
theorem scSpelled : FnScope ["text", "sign"] ["text"] (defScope sSpelled) := ⟨rfl, rfl, rfl, by decide +kernel, rfl, by decide +kernel, by decide +kernel⟩
theorem ok_spelled {f : Addr} {fd : FuncData} (F : Fun K "spelled" "spelled" sSpelled f fd) (go : mg "ord" = none) : FnOk P w K mg base CX0 1 f fd ["text"] spSpelled := by
  refine F.ok scSpelled (fun vs H Q E h => ?_) (fun cdv A outer s H vs Q E hr h => ?_)
  · obtain ⟨z, rfl, _⟩ := h
    rfl
  · obtain ⟨z, rfl, hz, k⟩ := h
    refine ⟨_, pss_one (ps_ret (pe_lc (own := [("sign", 1)]) (g := gName 1) rfl scSpelled.nd (pi_str (pv 0)) (blkOk_by (own := [("sign", 1)]) (N := ["text", "sign"]) (sc := defScope sSpelled) (by decide +kernel))
      (fun _ _ _ _ _ => pg_name (i := 1) scSpelled.nd rfl (Or.inl rfl)) (fun _ _ _ _ _ => pts_nil)
      (fun _ _ _ _ _ => pe_callB call_ord (by rfl) go boot_ord (pa_cons (pv 1) pa_nil)))), ?_⟩
    refine ⟨_, rfl, z, rfl, fun D hD => ?_⟩
    refine lc_it walk_str (fun i H' => H' = upd H D (.lst (((codes z).take i).map V.int))) rfl (fun _ _ _ _ => trivial) ?_ ?_
    · rintro i x H1 H2 hi rfl ⟨rfl, c, hc, rfl⟩
      refine ⟨rfl, ?_⟩
      refine ⟨_, rfl, ⟨#[c]⟩, rfl, rfl, ?_⟩
      refine ⟨_, upd_same, ?_, ?_⟩
      · rw [List.length_map, List.length_take]
        omega
      · rw [upd_upd]
        have e : (codes z)[i]? = some (c : Int) := by
          unfold codes
          rw [List.getElem?_map, Array.getElem?_toList, hc]
          rfl
        rw [List.take_add_one, e]
        simp
    · rintro H' rfl
      have hl : (codes z).length = z.cps.size := by simp [codes]
      rw [List.take_of_length_le (by omega)]
      exact k D hD
end
end Fm

/-! Token; name_at, number_at, token_at. -/
namespace Fm
open PySem PySem.Spec PyProof.Rows L2

/-- a def of the module: where it stands, its promise's place -/
structure DefT (K : PySem.W.Frag) (mg : Str → Option Value) (x : Str) (st : Stmt) (ps : List Str) where
  f : Addr
  fd : FuncData
  F : Fun K x x st f fd
  b : Binds K fd ps []
  g : mg x = some (.ref f)
/-- a method of the class at C -/
structure MethT (K : PySem.W.Frag) (C : Addr) (m q : Str) (st : Stmt) (ps : List Str) where
  f : Addr
  fd : FuncData
  F : Fun K m q st f fd
  b : Binds K fd ps []
  m : Meth K C m f
/-- a class with its own __init__ -/
structure ClsT (K : PySem.W.Frag) (mg : Str → Option Value) (x q : Str) (st : Stmt) (ps : List Str) where
  C : Addr
  f : Addr
  fd : FuncData
  cl : Cls K C
  g : mg x = some (.ref C)
  makes : Mk K C f
  F : Fun K "__init__" q st f fd
  b : Binds K fd ps []
section
variable {X : Cx} {x : Str} {st : Stmt} {ps : List Str} {k : Nat} {sp : Sp} {e : Expr} {es : List Expr} {t : TA} {p pos : Pos}
/-- f(e, ..), f lets nothing out -/
theorem pe_def (D : DefT X.K X.mg x st ps) (G : FnOk X.prog X.w X.K X.mg X.base CX0 k D.f D.fd ps sp) (hr : Room k X.A) (ha : PA X (e :: es) t) (hg : Gl X x := by rfl) (hdb : (x == ("__debug__" : Str)) = false := by decide)
    (he : starEach (e :: es) X.env = (false, eval e X.env) :: starEach es X.env := by rfl) (hpl : (backTo pos (starEach es X.env)).any (·.1) = false := by rfl) : PE X (.Call (.Name x p) (e :: es) [] pos) (tCall sp [] E0 t) :=
  pe_call G hr hg D.g D.F.kp D.b .nil pass0 ha hdb he hpl
/-- f(e, ..), f may raise: what it raises is wished for at the caller's slots -/
theorem pe_defX {W : L2.St → XK} (D : DefT X.K X.mg x st ps) (G : FnOk X.prog X.w X.K X.mg X.base (L2.CX X.prog X.w) k D.f D.fd ps sp) (hr : Room k X.A) (hx : ∀ σ, PassesAt (L2.CX X.prog X.w) X σ (W σ)) (ha : PA X (e :: es) t) (hg : Gl X x := by rfl)
    (hdb : (x == ("__debug__" : Str)) = false := by decide) (he : starEach (e :: es) X.env = (false, eval e X.env) :: starEach es X.env := by rfl) (hpl : (backTo pos (starEach es X.env)).any (·.1) = false := by rfl) :
    PE X (.Call (.Name x p) (e :: es) [] pos) (tCallS sp W t) := pe_callS G hr hg D.g D.F.kp D.b hx ha hdb he hpl
end

theorem cut_nat {xs : List V} {n m : Nat} (h1 : n ≤ m) (h2 : m ≤ xs.length) : cutV xs (some (n : Int)) (some (m : Int)) = (xs.drop n).take (m - n) := by
  have e : ∀ (k d : Nat), k ≤ xs.length → HT.sIx xs.length d (some (k : Int)) = k := fun k d hk => by
    rw [HT.sIx_nat]
    omega
  unfold cutV
  rw [e n _ (by omega), e m _ h2]

/-! ### kinds as texts -/
def ks : Kd → Str
  | .measures => "measures"
  | .up => "up"
  | .down => "down"
  | .item => "item"
  | .name => "name"
  | .number => "number"
  | .comma => ","
  | .colon => ":"
  | .semi => ";"
  | .minus => "-"
  | .fin => "end"
theorem ks_inj {a b : Kd} (h : ks a = ks b) : a = b := by
  revert h
  cases a <;> cases b <;> first | (intro _; rfl) | (intro h; exact absurd h (by decide +kernel))

/-! ### Token -/
abbrev sTokInit : Stmt := inClass (top 22) 0
def tF (t : MTok) (s : Addr) : List (Str × V) := [("kind", .str (ks t.kind)), ("place", .int t.place), ("spelling", .ref s)]
def TokAt (C : Addr) (H : Hp) (a s : Addr) (t : MTok) : Prop := (∃ dx, H a = some (.ins C dx (tF t s))) ∧ H s = some (.lst (vb t.sp))
theorem lk_here {k : Str} {v : V} {r : List (Str × V)} : List.lookup k ((k, v) :: r) = some v := by
  have e : (k == k) = true := beq_self_eq_true k
  simp only [List.lookup, e]
theorem lk_past {k g : Str} {v : V} {r : List (Str × V)} (h : (k == g) = false) : List.lookup k ((g, v) :: r) = List.lookup k r := by
  simp only [List.lookup, h]
theorem put_here {f : Str} {v x : V} {r : List (Str × V)} : putF f v ((f, x) :: r) = (f, v) :: r := if_pos rfl
theorem put_past {f g : Str} {v x : V} {r : List (Str × V)} (h : ¬ g = f) : putF f v ((g, x) :: r) = (g, x) :: putF f v r := if_neg h
theorem tF_kind (t : MTok) (s : Addr) : (tF t s).lookup ("kind" : Str) = some (.str (ks t.kind)) := lk_here
theorem tF_place (t : MTok) (s : Addr) : (tF t s).lookup ("place" : Str) = some (.int t.place) := (lk_past (by decide +kernel)).trans lk_here
theorem tF_sp (t : MTok) (s : Addr) : (tF t s).lookup ("spelling" : Str) = some (.ref s) := (lk_past (by decide +kernel)).trans ((lk_past (by decide +kernel)).trans lk_here)
theorem TokAt.same {C : Addr} {H H' : Hp} {a s : Addr} {t : MTok} (h : TokAt C H a s t) (m : Same H H') : TokAt C H' a s t := by
  obtain ⟨⟨dx, h1⟩, h2⟩ := h
  exact ⟨⟨dx, m _ _ h1⟩, m _ _ h2⟩
/-- what the top has written of Token -/
structure TokT (K : PySem.W.Frag) (C : Addr) : Prop where
  nK : NoAttr K C "kind"
  nP : NoAttr K C "place"
  nS : NoAttr K C "spelling"
def spTokInit (C : Addr) : Sp := fun vs H Q _ => ∃ (p dx : Addr) (k x s : V), vs = [.ref p, k, x, s] ∧ H p = some (.ins C dx []) ∧ Q .non (upd H p (.ins C dx [("kind", k), ("place", x), ("spelling", s)]))
section
variable {P : Program} {w : World} {K : PySem.W.Frag} {mg : Str → Option Value} {base : Heap}
theorem scTokInit : FnScope ["self", "kind", "place", "spelling"] ["self", "kind", "place", "spelling"] (defScope sTokInit) := ⟨rfl, rfl, rfl, by decide +kernel, rfl, by decide +kernel, by decide +kernel⟩
abbrev TokC (K : PySem.W.Frag) (mg : Str → Option Value) := ClsT K mg "Token" "Token.__init__" sTokInit ["self", "kind", "place", "spelling"]
theorem ok_tokInit (T : TokC K mg) (N : TokT K T.C) : FnOk P w K mg base CX0 1 T.f T.fd ["self", "kind", "place", "spelling"] (spTokInit T.C) := by
  refine T.F.ok scTokInit (fun vs H Q E h => ?_) (fun cdv A outer s H vs Q E hr h => ?_)
  · obtain ⟨p, dx, k, x, s, rfl, _⟩ := h
    rfl
  · obtain ⟨p, dx, k, x, s, rfl, hp, q⟩ := h
    refine ⟨_, pss_cons (ps_fld (pv 0) (pv 1) rfl) (pss_cons (ps_fld (pv 0) (pv 2) rfl) (pss_one (ps_fld (pv 0) (pv 3) rfl))), ?_⟩
    refine ⟨_, rfl, _, rfl, p, T.C, dx, [], rfl, hp, T.cl, N.nK, (by show 0 < 1000; decide), ?_⟩
    refine ⟨_, rfl, _, rfl, p, T.C, dx, _, rfl, upd_same, T.cl, N.nP, (by show 1 < 1000; decide), ?_⟩
    refine ⟨_, rfl, _, rfl, p, T.C, dx, _, rfl, upd_same, T.cl, N.nS, (by show 2 < 1000; decide), ?_⟩
    rw [upd_upd, upd_upd]
    have e : putF "spelling" s (putF "place" x (putF "kind" k [])) = ([("kind", k), ("place", x), ("spelling", s)] : List (Str × V)) := by
      show putF "spelling" s (putF "place" x ([("kind", k)] : List (Str × V))) = _
      rw [put_past (by decide +kernel)]
      show putF "spelling" s ([("kind", k), ("place", x)] : List (Str × V)) = _
      rw [put_past (by decide +kernel), put_past (by decide +kernel)]
      rfl
    rw [e]
    exact q
/-- behind Token(k, p, s) -/
theorem mk_tok {C : Addr} {H : Hp} {t : MTok} {s : Addr} {Q : VK} {E : XK} (hs : H s = some (.lst (vb t.sp))) (q : ∀ H' a, Same H H' → H a = none → TokAt C H' a s t → Q (.ref a) H') :
    ∀ x dx, H x = none → H dx = none → dx ≠ x → spTokInit C (.ref x :: ([V.str (ks t.kind), V.int t.place, V.ref s] ++ [])) (upd (upd H dx (.own x)) x (.ins C dx [])) (fun v H2 => v = .non ∧ Q (.ref x) H2) E := fun x dx hx hdx ne => by
  refine ⟨x, dx, _, _, _, rfl, upd_same, rfl, ?_⟩
  rw [upd_upd]
  have sm : Same H (upd (upd H dx (.own x)) x (.ins C dx (tF t s))) := fun b o e => by
    rw [upd_ne (ne_of_none e hx), upd_ne (ne_of_none e hdx)]
    exact e
  exact q _ x sm hx ⟨⟨dx, upd_same⟩, sm _ _ hs⟩

/-! ### name_at -/
abbrev sNameAt : Stmt := top 29
/-- what stands behind a def that makes a token of a text's rest, or raises fault 2 -/
def spTok (K : PySem.W.Frag) (C CF : Addr) (pre : VaskyBase.Bytes → Prop) (m : VaskyBase.Bytes → Option (Kd × VaskyBase.Bytes)) : Sp := fun vs H Q E => ∃ (a : Addr) (l : VaskyBase.Bytes) (n : Nat), vs = [.ref a, .int n] ∧ SqL K H a (vb l) ∧ l.length ≤ 4096 ∧ n ≤ l.length ∧ pre (l.drop n) ∧
  (∀ k b, m (l.drop n) = some (k, b) → ∀ H' t s, Same H H' → H t = none → H s = none → TokAt C H' t s ⟨k, n, b⟩ → Q (.ref t) H') ∧
  (m (l.drop n) = none → ∀ H' d, Same H H' → H' d = some (.xd (ff 2 n)) → E (.ref CF) (some d) H')
theorem scNameAt : FnScope ["text", "place", "end", "spelling", "word"] ["text", "place"] (defScope sNameAt) := ⟨rfl, rfl, rfl, by decide +kernel, rfl, by decide +kernel, by decide +kernel⟩
/-- how far the signs go for which p holds -/
theorem while_len {p : UInt8 → Bool} {l : VaskyBase.Bytes} {n j : Nat} (hn : n ≤ j) (hj : j + ((l.drop j).takeWhile p).length = n + ((l.drop n).takeWhile p).length) {b : UInt8} (hb : l.drop j = b :: l.drop (j + 1)) (c : p b = true) :
    j + 1 + ((l.drop (j + 1)).takeWhile p).length = n + ((l.drop n).takeWhile p).length := by
  rw [← hj, hb, List.takeWhile_cons, if_pos c, List.length_cons]
  omega
theorem take_while {p : UInt8 → Bool} (l : VaskyBase.Bytes) : l.take (l.takeWhile p).length = l.takeWhile p := by
  have z := List.takeWhile_append_dropWhile (p := p) (l := l)
  conv => lhs; arg 2; rw [← z]
  rw [List.take_left]

theorem take_while_len (p : UInt8 → Bool) (l : VaskyBase.Bytes) : (l.takeWhile p).length ≤ l.length := (List.takeWhile_sublist _).length_le
/-- the bytes of a text's signs -/
def bi (l : VaskyBase.Bytes) : List Int := l.map fun b => (b.toNat : Int)
theorem bi_inj : ∀ {l m : VaskyBase.Bytes}, bi l = bi m → l = m
  | [], [], _ => rfl
  | [], _ :: _, h => by cases h
  | _ :: _, [], h => by cases h
  | a :: l, b :: m, h => by
    have h1 : (a.toNat : Int) = b.toNat := (List.cons.inj h).1
    have h2 : bi l = bi m := (List.cons.inj h).2
    have e : a = b := UInt8.toNat_inj.mp (by omega)
    rw [e, bi_inj h2]
theorem vb_bi (l : VaskyBase.Bytes) : vb l = (bi l).map V.int := by
  unfold vb bi
  rw [List.map_map]
  rfl
/-- the words, in the module's order -/
def words : List Kd := [.measures, .up, .down, .item]
theorem kindOf_word : ∀ (w : VaskyBase.Bytes) (k : Kd), k ∈ words → (decide (bi w = codes (ks k)) = decide (kindOf w = k)) := by
  intro w k hk
  have key : ∀ (s : String) (k : Kd), bi (VaskyBase.word s) = codes (ks k) → (∀ w, kindOf w = k ↔ w = VaskyBase.word s) → (decide (bi w = codes (ks k)) = decide (kindOf w = k)) := fun s k h1 h2 => by
    apply decide_eq_decide.mpr
    rw [h2, ← h1]
    exact ⟨fun z => bi_inj z, fun z => by rw [z]⟩
  simp only [words, List.mem_cons, List.not_mem_nil, or_false] at hk
  rcases hk with rfl | rfl | rfl | rfl
  · exact key "measures" _ (by decide +kernel) kw_measures
  · exact key "up" _ (by decide +kernel) kw_up
  · exact key "down" _ (by decide +kernel) kw_down
  · exact key "item" _ (by decide +kernel) kw_item
theorem kind_cases (w : VaskyBase.Bytes) : kindOf w = .name ∨ kindOf w ∈ words := by
  unfold kindOf
  split
  · exact .inr (by decide)
  · split
    · exact .inr (by decide)
    · split
      · exact .inr (by decide)
      · split
        · exact .inr (by decide)
        · exact .inl rfl
/-- a run of signs: it is over, or goes on -/
theorem run_at (p : UInt8 → Bool) {l : VaskyBase.Bytes} {j : Nat} (hj : j ≤ l.length) :
    (((l.drop j).takeWhile p).length = 0 ∧ (j = l.length ∨ ∃ b, j < l.length ∧ l[j]? = some b ∧ p b = false)) ∨ (((l.drop j).takeWhile p).length ≠ 0 ∧ ∃ b, j < l.length ∧ l[j]? = some b ∧ p b = true ∧ l.drop j = b :: l.drop (j + 1)) := by
  by_cases h : j < l.length
  · obtain ⟨b, hb, hd⟩ := drop_at h
    cases c : p b with
    | true => exact .inr ⟨by rw [hd, List.takeWhile_cons, if_pos c, List.length_cons]; omega, b, h, hb, c, hd⟩
    | false => exact .inl ⟨by rw [hd, List.takeWhile_cons, if_neg (by rw [c]; exact Bool.false_ne_true)]; rfl, .inr ⟨b, h, hb, c⟩⟩
  · have e : j = l.length := by omega
    exact .inl ⟨by rw [List.drop_eq_nil_of_le (by omega)]; rfl, .inl e⟩
theorem cut_run {p : UInt8 → Bool} {l : VaskyBase.Bytes} {n j : Nat} (hn : n ≤ j) (hj : j ≤ l.length) (inv : j + ((l.drop j).takeWhile p).length = n + ((l.drop n).takeWhile p).length) (z : ((l.drop j).takeWhile p).length = 0) :
    cutV (vb l) (some (n : Int)) (some (j : Int)) = vb ((l.drop n).takeWhile p) := by
  rw [cut_nat hn (by rw [vb_len]; exact hj)]
  have e : j - n = ((l.drop n).takeWhile p).length := by omega
  rw [e]
  unfold vb
  rw [← List.map_drop, ← List.map_take, take_while]
theorem ok_nameAt {CF fI : Addr} {fdI : FuncData} (D : DefT K mg "name_at" sNameAt ["text", "place"]) (T : TokC K mg) (N : TokT K T.C) (FL : DefT K mg "is_letter" sIsLetter ["byte"]) (FD : DefT K mg "is_digit" sIsDigit ["byte"])
    (FS : DefT K mg "spelled" sSpelled ["text"]) (TF : FaultT K mg CF fI) (FI : Fun K "__init__" "Fault.__init__" sFaultInit fI fdI) (bI : Binds K fdI ["self", "number", "place"] [])
    (gl : mg "len" = none) (go : mg "ord" = none) (gW : GT K mg "WORDS" (words.map fun k => V.str (ks k))) (gN : GS mg "NAME" (ks .name)) (gL : GI mg "LONGEST_NAME" 16) (gT : GI mg "NO_TOKEN" 2) :
    FnOk P w K mg base (L2.CX P w) 4 D.f D.fd ["text", "place"] (spTok K T.C CF (fun l => l ≠ []) mname) := by
  refine D.F.okX scNameAt (fun vs H Q E h => ?_) (fun cdv A outer s H vs Q E hr h => ?_)
  · obtain ⟨a, l, n, rfl, _⟩ := h
    rfl
  · obtain ⟨a, l, n, rfl, hl, h4, hn, hne, kS, kF⟩ := h
    obtain ⟨aW, mW, tW⟩ := gW
    have hr1 : Room 1 _ := hr.mono (by decide)
    have hr2 : Room 2 _ := hr.mono (by decide)
    refine ⟨_, pss_cons (ps_set (i := 2) scNameAt.nd rfl (Or.inl rfl) (pv 1))
      (pss_cons (ps_while (passes_of rfl)
        (PW.pt (pw_and (pt_cmpR op_lt (pv 2) (pe_callB call_len_seq (by rfl) gl PySem.boot_len (pa_cons (pv 0) pa_nil)) (nomark _))
          (pw_and1 (PW.pt (pw_or (pt_val (pe_def FL (ok_letter FL.F) hr1 (pa_cons (pe_ix ix_list (pv 0) (pv 2) (fun _ _ => rfl)) pa_nil)))
            (pw_or1 (pt_val (pe_def FD (ok_digit FD.F) hr1 (pa_cons (pe_ix ix_list (pv 0) (pv 2) (fun _ _ => rfl)) pa_nil))))))))) 
        (pss_one (ps_aug (i := 2) scNameAt.nd rfl (Or.inl rfl) pe_int ip_add)))
      (pss_cons (ps_set (i := 3) scNameAt.nd rfl (Or.inl rfl) (pe_slice sl_list (pv 0) (po_some (pv 1)) (po_some (pv 2))))
      (pss_cons (ps_for (passes_of rfl) rfl (pi_tup (pe_gr mW)) (pg_name (i := 4) scNameAt.nd rfl (Or.inl rfl))
        (pss_one (ps_if (pt_cmpR (op_eqD hr.units) (pv 3) (pe_def FS (ok_spelled FS.F go) hr1 (pa_cons (pv 4) pa_nil)) (nomark _))
          (pss_one (ps_ret (pe_make T.makes (ok_tokInit T N) hr2 (by rfl) T.g T.b .nil pass0 (pa_cons (pv 4) (pa_cons (pv 1) (pa_cons (pv 3) pa_nil)))))) pss_nil)))
      (pss_cons (ps_if (pt_cmpR op_gt (pe_callB call_len_seq (by rfl) gl PySem.boot_len (pa_cons (pv 3) pa_nil)) (pe_gi gL) (nomark _))
        (pss_one (ps_fault FI TF bI hr2 (takes_of rfl rfl rfl rfl) (pa_cons (pe_gi gT) (pa_cons (pv 1) pa_nil)))) pss_nil)
      (pss_one (ps_ret (pe_make T.makes (ok_tokInit T N) hr2 (by rfl) T.g T.b .nil pass0 (pa_cons (pe_gs gN) (pa_cons (pv 1) (pa_cons (pv 3) pa_nil)))))))))), ?_⟩
    refine ⟨_, rfl, ?_⟩
    refine while_v (fun m σ H' => ∃ j, m = l.length - j ∧ n ≤ j ∧ j ≤ l.length ∧ σ = [some (.ref a), some (.int n), some (.int (j : Nat)), none, none] ∧ H = H' ∧ j + ((l.drop j).takeWhile alnum).length = n + ((l.drop n).takeWhile alnum).length)
      (m0 := l.length - n) ⟨n, rfl, Nat.le_refl _, hn, rfl, rfl, rfl⟩ ?_
    rintro m σ H' ⟨j, rfl, hnj, hj, rfl, rfl, inv⟩
    rcases run_at alnum hj with ⟨z, hend⟩ | ⟨z, b, hlt, hb, c, hdr⟩
    · -- the run is over
      refine ⟨false, fun G g => ?_, fun c => Bool.noConfusion c, fun _ => ?_⟩
      · refine ⟨_, rfl, _, rfl, a, _, rfl, .inl hl, _, _, rfl, rfl, _, rfl, ?_⟩
        rw [vb_len]
        rcases hend with e | ⟨b, hlt, hb, c⟩
        · exact if_f (decide_eq_false (by omega)) g
        · refine if_t (decide_eq_true (by omega)) ?_
          unfold alnum at c
          have hc := Bool.or_eq_false_iff.mp c
          refine ⟨_, rfl, _, rfl, a, _, _, _, rfl, rfl, hl, vb_at hb, b, rfl, _, rfl, ?_⟩
          refine if_f hc.1 ?_
          refine ⟨_, rfl, _, rfl, a, _, _, _, rfl, rfl, hl, vb_at hb, b, rfl, _, rfl, ?_⟩
          rw [hc.2]
          exact g
      · have ew := cut_run hnj hj inv z
        refine ⟨_, rfl, _, rfl, _, rfl, _, rfl, _, rfl, a, _, rfl, hl, fun sp hsp => ?_⟩
        rw [ew]
        have hm : mname (l.drop n) = if kindOf ((l.drop n).takeWhile alnum) = .name ∧ 16 < ((l.drop n).takeWhile alnum).length then none else some (kindOf ((l.drop n).takeWhile alnum), (l.drop n).takeWhile alnum) := rfl
        revert hm
        generalize (l.drop n).takeWhile alnum = wd
        intro hm
        refine ⟨aW, rfl, ⟨_, tW _⟩, for_tup (K := K) (a := aW) (xs := words.map fun k => V.str (ks k)) (fun i σ H' => ∃ v : Option V, σ = [some (.ref a), some (.int n), some (.int (j : Nat)), some (.ref sp), v] ∧ Same H H' ∧ H' sp = some (.lst (vb wd)) ∧ kindOf wd ∉ words.take i)
          ⟨none, rfl, fun b o e => by rw [upd_ne (ne_of_none e hsp)]; exact e, upd_same, by simp⟩ (fun i σ H' _ _ => tW _) ?_ ?_⟩
        · rintro i y σ H' hi ⟨v, rfl, sm, hs, hno⟩
          obtain ⟨k, hk, rfl⟩ : ∃ k, words[i]? = some k ∧ y = V.str (ks k) := by
            rw [List.getElem?_map] at hi
            cases e : words[i]? with
            | none => rw [e] at hi; cases hi
            | some k => rw [e] at hi; exact ⟨k, rfl, (Option.some.inj hi).symm⟩
          have hkm : k ∈ words := List.mem_of_getElem? hk
          refine ⟨_, rfl, _, rfl, ks k, rfl, ?_, fun q hq => ?_⟩
          · have : ∀ k ∈ words, (ks k).cps.size < sizeLine := by
              rw [sizeLine_eq]
              decide +kernel
            exact this k hkm
          · -- spelling == spelled(word)
            have d1 : Dp K (upd H' q (.lst ((codes (ks k)).map V.int))) (.ref sp) (dI (bi wd)) := dI_dp (SqL.of (by rw [upd_ne (ne_of_none hs hq), ← vb_bi]; exact hs))
            have d2 : Dp K (upd H' q (.lst ((codes (ks k)).map V.int))) (.ref q) (dI (codes (ks k))) := dI_dp (SqL.of upd_same)
            have sm2 : Same H (upd H' q (.lst ((codes (ks k)).map V.int))) := fun b o e => by
              rw [upd_ne (ne_of_none (sm b o e) hq)]
              exact sm b o e
            have hs2 : upd H' q (.lst ((codes (ks k)).map V.int)) sp = some (.lst (vb wd)) := by rw [upd_ne (ne_of_none hs hq)]; exact hs
            refine ⟨_, _, d1, d2, dI_shaped _, dI_shaped _, _, rfl, ?_⟩
            rw [dI_eqv, kindOf_word wd k hkm]
            refine ite2 (fun c => ?_) (fun c => ?_)
            · have ek : kindOf wd = k := of_decide_eq_true c
              have hne2 : ¬ (kindOf wd = .name ∧ 16 < wd.length) := fun z => by
                rw [z.1] at ek
                rw [← ek] at hkm
                revert hkm
                decide
              rw [if_neg hne2, ek] at hm
              refine ⟨_, rfl, _, rfl, _, rfl, ?_⟩
              exact mk_tok (t := ⟨k, n, wd⟩) hs2 fun H3 t s3 ht htok => kS k wd hm H3 t sp (sm2.trans s3) (sm2.free ht) hsp htok
            · refine ⟨some (.str (ks k)), rfl, sm2, hs2, ?_⟩
              have ek : kindOf wd ≠ k := fun z => c (decide_eq_true z)
              rw [List.take_add_one, hk]
              simp only [Option.toList_some, List.mem_append, List.mem_singleton]
              rintro (z | z)
              · exact hno z
              · exact ek z
        · rintro σ H' ⟨v, rfl, sm, hs, hno⟩
          have ek : kindOf wd = .name := by
            rcases kind_cases wd with z | z
            · exact z
            · rw [List.length_map, List.take_length] at hno
              exact absurd z hno
          refine ⟨_, rfl, sp, _, rfl, .inl (SqL.of hs), _, _, rfl, rfl, _, rfl, ?_⟩
          rw [vb_len]
          refine ite2 (fun c => ?_) (fun c => ?_)
          · have h16 : 16 < wd.length := by
              have := of_decide_eq_true c
              omega
            rw [if_pos ⟨ek, h16⟩] at hm
            refine ⟨_, rfl, mkf fun d hd => kF hm _ d (fun b o e => ?_) upd_same⟩
            rw [upd_ne (ne_of_none (sm b o e) hd)]
            exact sm b o e
          · have h16 : ¬ 16 < wd.length := fun z => c (decide_eq_true (by omega))
            rw [if_neg (fun z => h16 z.2), ek] at hm
            refine ⟨_, rfl, _, rfl, ?_⟩
            exact mk_tok (t := ⟨.name, n, wd⟩) hs fun H3 t s3 ht htok => kS .name wd hm H3 t sp (sm.trans s3) (sm.free ht) hsp htok
    · refine ⟨true, fun G g => ?_, fun _ => ?_, fun c => Bool.noConfusion c⟩
      · refine ⟨_, rfl, _, rfl, a, _, rfl, .inl hl, _, _, rfl, rfl, _, rfl, ?_⟩
        rw [vb_len]
        refine if_t (decide_eq_true (by omega)) ?_
        refine ⟨_, rfl, _, rfl, a, _, _, _, rfl, rfl, hl, vb_at hb, b, rfl, _, rfl, ?_⟩
        unfold alnum at c
        refine ite2 (fun c1 => g) (fun c1 => ?_)
        rw [eq_false_of_ne_true c1, Bool.false_or] at c
        refine ⟨_, rfl, _, rfl, a, _, _, _, rfl, rfl, hl, vb_at hb, b, rfl, _, rfl, ?_⟩
        rw [c]
        exact g
      · refine ⟨_, rfl, _, _, rfl, rfl, ?_⟩
        exact ⟨l.length - (j + 1), by omega, j + 1, rfl, by omega, hlt, rfl, rfl, while_len hnj inv hdr c⟩
end
end Fm

/-! number_at, token_at, tokens_of. -/
namespace Fm
open PySem PySem.Spec PyProof.Rows L2
abbrev sNumberAt : Stmt := top 30
abbrev sTokenAt : Stmt := top 31
abbrev sTokensOf : Stmt := top 32
section
variable {P : Program} {w : World} {K : PySem.W.Frag} {mg : Str → Option Value} {base : Heap}
theorem scNumberAt : FnScope ["text", "place", "end", "digits"] ["text", "place"] (defScope sNumberAt) := ⟨rfl, rfl, rfl, by decide +kernel, rfl, by decide +kernel, by decide +kernel⟩
theorem ok_numberAt {CF fI : Addr} {fdI : FuncData} (D : DefT K mg "number_at" sNumberAt ["text", "place"]) (T : TokC K mg) (N : TokT K T.C) (FD : DefT K mg "is_digit" sIsDigit ["byte"])
    (FA : DefT K mg "amount" sAmount ["digits"]) (TF : FaultT K mg CF fI) (FI : Fun K "__init__" "Fault.__init__" sFaultInit fI fdI) (bI : Binds K fdI ["self", "number", "place"] [])
    (gl : mg "len" = none) (gZ : GI mg "ZERO" 48) (gN : GS mg "NUMBER" (ks .number)) (gG : GI mg "GREATEST_NUMBER" 1000000000) (gT : GI mg "NO_TOKEN" 2) :
    FnOk P w K mg base (L2.CX P w) 4 D.f D.fd ["text", "place"] (spTok K T.C CF (fun l => ∃ b r, l = b :: r ∧ VaskyBase.isDigit b = true) mnumber) := by
  refine D.F.okX scNumberAt (fun vs H Q E h => ?_) (fun cdv A outer s H vs Q E hr h => ?_)
  · obtain ⟨a, l, n, rfl, _⟩ := h
    rfl
  · obtain ⟨a, l, n, rfl, hl, h4, hn, ⟨b0, r0, hpre, hd0⟩, kS, kF⟩ := h
    have hr1 : Room 1 _ := hr.mono (by decide)
    have hr2 : Room 2 _ := hr.mono (by decide)
    refine ⟨_, pss_cons (ps_set (i := 2) scNumberAt.nd rfl (Or.inl rfl) (pv 1))
      (pss_cons (ps_while (passes_of rfl)
        (PW.pt (pw_and (pt_cmpR op_lt (pv 2) (pe_callB call_len_seq (by rfl) gl PySem.boot_len (pa_cons (pv 0) pa_nil)) (nomark _))
          (pw_and1 (pt_val (pe_def FD (ok_digit FD.F) hr1 (pa_cons (pe_ix ix_list (pv 0) (pv 2) (fun _ _ => rfl)) pa_nil))))))
        (pss_one (ps_aug (i := 2) scNumberAt.nd rfl (Or.inl rfl) pe_int ip_add)))
      (pss_cons (ps_set (i := 3) scNumberAt.nd rfl (Or.inl rfl) (pe_slice sl_list (pv 0) (po_some (pv 1)) (po_some (pv 2))))
      (pss_cons (ps_if (PW.pt (pw_and (pt_cmpR op_gt (pe_callB call_len_seq (by rfl) gl PySem.boot_len (pa_cons (pv 3) pa_nil)) pe_int (nomark _))
          (pw_and1 (pt_cmpR op_eq (pe_ix ix_list (pv 3) pe_int (fun _ _ => rfl)) (pe_gi gZ) (nomark _)))))
        (pss_one (ps_fault FI TF bI hr2 (takes_of rfl rfl rfl rfl) (pa_cons (pe_gi gT) (pa_cons (pv 1) pa_nil)))) pss_nil)
      (pss_cons (ps_if (pt_cmpR op_gt (pe_def FA (ok_amount FA.F gZ) hr1 (pa_cons (pv 3) pa_nil)) (pe_gi gG) (nomark _))
        (pss_one (ps_fault FI TF bI hr2 (takes_of rfl rfl rfl rfl) (pa_cons (pe_gi gT) (pa_cons (pv 1) pa_nil)))) pss_nil)
      (pss_one (ps_ret (pe_make T.makes (ok_tokInit T N) hr2 (by rfl) T.g T.b .nil pass0 (pa_cons (pe_gs gN) (pa_cons (pv 1) (pa_cons (pv 3) pa_nil)))))))))), ?_⟩
    refine ⟨_, rfl, ?_⟩
    refine while_v (fun m σ H' => ∃ j, m = l.length - j ∧ n ≤ j ∧ j ≤ l.length ∧ σ = [some (.ref a), some (.int n), some (.int (j : Nat)), none] ∧ H = H' ∧ j + ((l.drop j).takeWhile VaskyBase.isDigit).length = n + ((l.drop n).takeWhile VaskyBase.isDigit).length)
      (m0 := l.length - n) ⟨n, rfl, Nat.le_refl _, hn, rfl, rfl, rfl⟩ ?_
    rintro m σ H' ⟨j, rfl, hnj, hj, rfl, rfl, inv⟩
    rcases run_at VaskyBase.isDigit hj with ⟨z, hend⟩ | ⟨z, b, hlt, hb, c, hdr⟩
    · refine ⟨false, fun G g => ?_, fun c => Bool.noConfusion c, fun _ => ?_⟩
      · refine ⟨_, rfl, _, rfl, a, _, rfl, .inl hl, _, _, rfl, rfl, _, rfl, ?_⟩
        rw [vb_len]
        rcases hend with e | ⟨b, hlt, hb, c⟩
        · exact if_f (decide_eq_false (by omega)) g
        · refine if_t (decide_eq_true (by omega)) ?_
          refine ⟨_, rfl, _, rfl, a, _, _, _, rfl, rfl, hl, vb_at hb, b, rfl, _, rfl, ?_⟩
          rw [c]
          exact g
      · have ew := cut_run hnj hj inv z
        refine ⟨_, rfl, _, rfl, _, rfl, _, rfl, _, rfl, a, _, rfl, hl, fun sp hsp => ?_⟩
        rw [ew]
        have hm : mnumber (l.drop n) = if (1 < ((l.drop n).takeWhile VaskyBase.isDigit).length ∧ ((l.drop n).takeWhile VaskyBase.isDigit).head? = some 48) ∨ 1000000000 < VaskyBase.decimal ((l.drop n).takeWhile VaskyBase.isDigit) then none else some (.number, (l.drop n).takeWhile VaskyBase.isDigit) := rfl
        have hdig : ∀ b ∈ (l.drop n).takeWhile VaskyBase.isDigit, VaskyBase.isDigit b = true := fun b hb => (List.all_takeWhile (p := VaskyBase.isDigit) (l := l.drop n) |> List.all_eq_true.mp) b hb
        have hlen : ((l.drop n).takeWhile VaskyBase.isDigit).length ≤ 4096 := by
          have := take_while_len VaskyBase.isDigit (l.drop n)
          rw [List.length_drop] at this
          omega
        have hcons : ∃ t, (l.drop n).takeWhile VaskyBase.isDigit = b0 :: t := ⟨_, by rw [hpre, List.takeWhile_cons, if_pos hd0]⟩
        revert hm hdig hlen hcons
        generalize (l.drop n).takeWhile VaskyBase.isDigit = wd
        intro hm hdig hlen hcons
        obtain ⟨wt, rfl⟩ := hcons
        have hs : upd H sp (.lst (vb (b0 :: wt))) sp = some (.lst (vb (b0 :: wt))) := upd_same
        have sm : Same H (upd H sp (.lst (vb (b0 :: wt)))) := fun b o e => by
          rw [upd_ne (ne_of_none e hsp)]
          exact e
        revert hs sm
        generalize upd H sp (.lst (vb (b0 :: wt))) = H1
        intro hs sm
        have e48 : decide (V.int b0.toNat = V.int 48) = (b0 == 48) := v8_eq (n := 48) (by decide)
        have fault : mnumber (l.drop n) = none → ∀ d, H1 d = none → E (.ref CF) (some d) (upd H1 d (.xd (ff 2 n))) := fun hm d hd => kF hm _ d (fun b o e => by
          rw [upd_ne (ne_of_none (sm b o e) hd)]
          exact sm b o e) upd_same
        dsimp only [gName, tSeq]
        refine if_v (decide (1 < (b0 :: wt).length) && (b0 == 48)) (fun G g => ?_) (fun c => ?_) (fun c => ?_)
        · refine ⟨_, rfl, sp, _, rfl, .inl (SqL.of hs), _, _, rfl, rfl, _, rfl, ?_⟩
          rw [vb_len]
          refine ite2 (fun c => ?_) (fun c => ?_)
          · have c' : decide (1 < (b0 :: wt).length) = true := by
              have := of_decide_eq_true c
              exact decide_eq_true (by omega)
            rw [c', Bool.true_and] at g
            refine ⟨_, rfl, sp, _, _, _, rfl, rfl, SqL.of hs, vb_at (n := 0) (b := b0) rfl, rfl, _, rfl, ?_⟩
            rw [e48]
            exact g
          · have c' : decide (1 < (b0 :: wt).length) = false := decide_eq_false fun z => c (decide_eq_true (by omega))
            rw [c', Bool.false_and] at g
            exact g
        · have c' := Bool.and_eq_true_iff.mp c
          have h48 : (b0 :: wt).head? = some 48 := by
            rw [beq_iff_eq.mp c'.2]
            rfl
          rw [if_pos (.inl ⟨of_decide_eq_true c'.1, h48⟩)] at hm
          exact ⟨_, rfl, mkf (fault hm)⟩
        · have hno : ¬ (1 < (b0 :: wt).length ∧ (b0 :: wt).head? = some 48) := fun z => by
            have e1 : b0 = 48 := Option.some.inj z.2
            rw [decide_eq_true z.1, e1] at c
            cases c
          refine ⟨_, rfl, sp, _, rfl, SqL.of hs, by omega, hdig, _, _, rfl, rfl, _, rfl, ?_⟩
          refine ite2 (fun c => ?_) (fun c => ?_)
          · have hbig : 1000000000 < VaskyBase.decimal (b0 :: wt) := by
              have := of_decide_eq_true c
              omega
            rw [if_pos (.inr hbig)] at hm
            exact ⟨_, rfl, mkf (fault hm)⟩
          · have hbig : ¬ 1000000000 < VaskyBase.decimal (b0 :: wt) := fun z => c (decide_eq_true (by omega))
            rw [if_neg (fun z => z.elim hno hbig)] at hm
            refine ⟨_, rfl, _, rfl, ?_⟩
            exact mk_tok (t := ⟨.number, n, b0 :: wt⟩) hs fun H3 t s3 ht htok => kS .number (b0 :: wt) hm H3 t sp (sm.trans s3) (sm.free ht) hsp htok
    · refine ⟨true, fun G g => ?_, fun _ => ?_, fun c => Bool.noConfusion c⟩
      · refine ⟨_, rfl, _, rfl, a, _, rfl, .inl hl, _, _, rfl, rfl, _, rfl, ?_⟩
        rw [vb_len]
        refine if_t (decide_eq_true (by omega)) ?_
        refine ⟨_, rfl, _, rfl, a, _, _, _, rfl, rfl, hl, vb_at hb, b, rfl, _, rfl, ?_⟩
        rw [c]
        exact g
      · refine ⟨_, rfl, _, _, rfl, rfl, ?_⟩
        exact ⟨l.length - (j + 1), by omega, j + 1, rfl, by omega, hlt, rfl, rfl, while_len hnj inv hdr c⟩

/-! ### token_at -/
/-- the module's dict of the signs: asked by a byte -/
structure SignsR (P : Program) (w : World) (K : PySem.W.Frag) (a : Addr) : Prop where
  isin : ∀ X : Cx, X.prog = P → X.w = w → X.K = K → X.A.units + 1 < cLine → OpR X (compareOp .In) (fun x y H Q => ∃ b : UInt8, x = .int b.toNat ∧ y = .ref a ∧ Q (.bl (signKind b).isSome) H)
  item : ∀ X : Cx, X.prog = P → X.w = w → X.K = K → X.A.units + 1 < cLine → IxR X (fun x y H Q => ∃ (b : UInt8) (k : Kd), x = .ref a ∧ y = .int b.toNat ∧ signKind b = some k ∧ Q (.str (ks k)) H)
theorem scTokenAt : FnScope ["text", "place", "byte"] ["text", "place"] (defScope sTokenAt) := ⟨rfl, rfl, rfl, by decide +kernel, rfl, by decide +kernel, by decide +kernel⟩
theorem ok_tokenAt {CF fI aS : Addr} {fdI : FuncData} (D : DefT K mg "token_at" sTokenAt ["text", "place"]) (T : TokC K mg) (N : TokT K T.C) (FL : DefT K mg "is_letter" sIsLetter ["byte"]) (FD : DefT K mg "is_digit" sIsDigit ["byte"])
    (FN : DefT K mg "name_at" sNameAt ["text", "place"]) (FM : DefT K mg "number_at" sNumberAt ["text", "place"])
    (GN : FnOk P w K mg base (L2.CX P w) 4 FN.f FN.fd ["text", "place"] (spTok K T.C CF (fun l => l ≠ []) mname))
    (GM : FnOk P w K mg base (L2.CX P w) 4 FM.f FM.fd ["text", "place"] (spTok K T.C CF (fun l => ∃ b r, l = b :: r ∧ VaskyBase.isDigit b = true) mnumber))
    (TF : FaultT K mg CF fI) (FI : Fun K "__init__" "Fault.__init__" sFaultInit fI fdI) (bI : Binds K fdI ["self", "number", "place"] [])
    (gS : mg "SIGNS" = some (.ref aS)) (SR : SignsR P w K aS) (gT : GI mg "NO_TOKEN" 2) :
    FnOk P w K mg base (L2.CX P w) 5 D.f D.fd ["text", "place"] (spTok K T.C CF (fun l => l ≠ []) mtoken) := by
  refine D.F.okX scTokenAt (fun vs H Q E h => ?_) (fun cdv A outer s H vs Q E hr h => ?_)
  · obtain ⟨a, l, n, rfl, _⟩ := h
    rfl
  · obtain ⟨a, l, n, rfl, hl, h4, hn, hne, kS, kF⟩ := h
    have hr1 : Room 1 _ := hr.mono (by decide)
    have hr2 : Room 2 _ := hr.mono (by decide)
    have hu := hu_of hr
    refine ⟨_, pss_cons (ps_set (i := 2) scTokenAt.nd rfl (Or.inl rfl) (pe_ix ix_list (pv 0) (pv 1) (fun _ _ => rfl)))
      (pss_cons (ps_if (pt_val (pe_def FL (ok_letter FL.F) hr1 (pa_cons (pv 2) pa_nil)))
        (pss_one (ps_ret (pe_call GN hr rfl FN.g FN.F.kp FN.b .nil (passes_call (takes_of rfl rfl rfl rfl) (fun _ _ _ _ h => h)) (pa_cons (pv 0) (pa_cons (pv 1) pa_nil))))) pss_nil)
      (pss_cons (ps_if (pt_val (pe_def FD (ok_digit FD.F) hr1 (pa_cons (pv 2) pa_nil)))
        (pss_one (ps_ret (pe_call GM hr rfl FM.g FM.F.kp FM.b .nil (passes_call (takes_of rfl rfl rfl rfl) (fun _ _ _ _ h => h)) (pa_cons (pv 0) (pa_cons (pv 1) pa_nil))))) pss_nil)
      (pss_cons (ps_if (pt_cmpR (SR.isin _ rfl rfl rfl hu) (pv 2) (pe_gr gS) rfl)
        (pss_one (ps_ret (pe_make T.makes (ok_tokInit T N) hr2 (by rfl) T.g T.b .nil pass0 (pa_cons (pe_ix (SR.item _ rfl rfl rfl hu) (pe_gr gS) (pv 2) (fun _ _ => rfl)) (pa_cons (pv 1) (pa_cons (pe_lst (pa_cons (pv 2) pa_nil)) pa_nil)))))) pss_nil)
      (pss_one (ps_fault FI TF bI hr2 (takes_of rfl rfl rfl rfl) (pa_cons (pe_gi gT) (pa_cons (pv 1) pa_nil))))))), ?_⟩
    have hlt : n < l.length := Nat.lt_of_not_le fun z => hne (List.drop_eq_nil_of_le z)
    obtain ⟨b, hb, hdr⟩ := drop_at hlt
    have hm : mtoken (l.drop n) = if VaskyBase.isLetter b = true then mname (l.drop n) else if VaskyBase.isDigit b = true then mnumber (l.drop n) else (signKind b).map fun k => (k, [b]) := by
      rw [hdr]
      rfl
    refine ⟨_, rfl, _, rfl, a, _, _, _, rfl, rfl, hl, vb_at hb, ?_⟩
    refine ⟨_, rfl, b, rfl, _, rfl, ?_⟩
    refine ite2 (fun c => ?_) (fun c => ?_)
    · rw [if_pos c] at hm
      rw [hm] at kS kF
      exact ⟨_, rfl, _, rfl, a, l, n, rfl, hl, h4, hn, hne, kS, kF⟩
    · rw [if_neg c] at hm
      refine ⟨_, rfl, b, rfl, _, rfl, ?_⟩
      refine ite2 (fun c2 => ?_) (fun c2 => ?_)
      · rw [if_pos c2] at hm
        rw [hm] at kS kF
        exact ⟨_, rfl, _, rfl, a, l, n, rfl, hl, h4, hn, ⟨b, _, hdr, c2⟩, kS, kF⟩
      · rw [if_neg c2] at hm
        refine ⟨_, rfl, b, rfl, rfl, _, rfl, ?_⟩
        cases hk : signKind b with
        | none =>
          rw [hk] at hm
          refine iteF ?_
          exact ⟨_, rfl, mkf fun d hd => kF hm _ d (fun c o e => by
            rw [upd_ne (ne_of_none e hd)]
            exact e) upd_same⟩
        | some k =>
          rw [hk] at hm
          refine iteT ?_
          refine ⟨_, rfl, b, k, rfl, rfl, hk, _, rfl, _, rfl, (by show 1 ≤ sizeLine; decide), fun sp hsp => ?_⟩
          have hs : upd H sp (.lst [V.int b.toNat]) sp = some (.lst (vb [b])) := upd_same
          have sm : Same H (upd H sp (.lst [V.int b.toNat])) := fun c o e => by
            rw [upd_ne (ne_of_none e hsp)]
            exact e
          exact mk_tok (t := ⟨k, n, [b]⟩) hs fun H3 t s3 ht htok => kS k [b] hm H3 t sp (sm.trans s3) (sm.free ht) hsp htok
end
end Fm

/-! A written dict whose keys are whole numbers: SIGNS. -/
namespace Fm
open PySem PySem.Spec PyProof.Rows L2
def sigE (t1 t2 t3 t4 u1 u2 u3 u4 : Tok) : Array DictEntry := #[⟨44, .int 44 t1, .str "," u1⟩, ⟨58, .int 58 t2, .str ":" u2⟩, ⟨59, .int 59 t3, .str ";" u3⟩, ⟨45, .int 45 t4, .str "-" u4⟩]
section
variable {t1 t2 t3 t4 u1 u2 u3 u4 : Tok}
theorem sig_find (b : UInt8) : findBy Value.isInt (sigE t1 t2 t3 t4 u1 u2 u3 u4) (b.toNat : Int) = match signKind b with
    | some .comma => some (.str "," u1)
    | some .colon => some (.str ":" u2)
    | some .semi => some (.str ";" u3)
    | some .minus => some (.str "-" u4)
    | _ => none := by
  have n : ∀ k : UInt8, ((k.toNat : Int) = (b.toNat : Int)) ↔ b = k := fun k => by
    constructor
    · intro z
      exact UInt8.toNat_inj.mp (by omega)
    · intro z
      rw [z]
  have n44 : ((44 : Int) = (b.toNat : Int)) ↔ b = 44 := n 44
  have n58 : ((58 : Int) = (b.toNat : Int)) ↔ b = 58 := n 58
  have n59 : ((59 : Int) = (b.toNat : Int)) ↔ b = 59 := n 59
  have n45 : ((45 : Int) = (b.toNat : Int)) ↔ b = 45 := n 45
  unfold findBy sigE signKind
  rw [List.find?_toArray]
  by_cases h1 : b = 44
  · subst h1; rfl
  · by_cases h2 : b = 58
    · subst h2; rfl
    · by_cases h3 : b = 59
      · subst h3; rfl
      · by_cases h4 : b = 45
        · subst h4; rfl
        · rw [if_neg h1, if_neg h2, if_neg h3, if_neg h4]
          have e : ∀ (k : Int) (t : Tok), ¬ k = (b.toNat : Int) → Value.isInt (b.toNat : Int) (.int k t) = false := fun k t hk => by
            simp only [Value.isInt]
            first
              | exact beq_eq_false_iff_ne.mpr hk
              | exact beq_eq_false_iff_ne.mpr (Ne.symm hk)
              | exact decide_eq_false hk
              | exact decide_eq_false (Ne.symm hk)
          simp only [List.find?_cons, e 44 t1 (fun z => h1 (n44.mp z)), e 58 t2 (fun z => h2 (n58.mp z)), e 59 t3 (fun z => h3 (n59.mp z)), e 45 t4 (fun z => h4 (n45.mp z)), List.find?_nil, Option.map_none]
theorem sig_map {P : Program} {w : World} {K : PySem.W.Frag} {h : Heap} {a : Addr} {n : Nat} (X : K.In h) (hl : K.lookup a = some ⟨.type "dict", none, .dict (sigE t1 t2 t3 t4 u1 u2 u3 u4) n, #[]⟩) :
    h.MapOf (PySem.intKind P w) a (fun k => findBy Value.isInt (sigE t1 t2 t3 t4 u1 u2 u3 u4) k) :=
  ⟨_, _, n, X _ _ hl, ⟨rfl, rfl, rfl⟩, rfl, fun e he => by
    simp only [sigE, List.mem_toArray, List.mem_cons, List.not_mem_nil, or_false] at he
    rcases he with rfl | rfl | rfl | rfl
    · exact ⟨44, PySem.intKind_is _ _ _ _, rfl⟩
    · exact ⟨58, PySem.intKind_is _ _ _ _, rfl⟩
    · exact ⟨59, PySem.intKind_is _ _ _ _, rfl⟩
    · exact ⟨45, PySem.intKind_is _ _ _ _, rfl⟩, fun _ => rfl⟩
theorem sign_kinds (b : UInt8) : signKind b = none ∨ signKind b = some .comma ∨ signKind b = some .colon ∨ signKind b = some .semi ∨ signKind b = some .minus := by
  cases h : signKind b with
  | none => exact .inl rfl
  | some k =>
    unfold signKind at h
    by_cases h1 : b = 44
    · rw [if_pos h1] at h; cases h; exact .inr (.inl rfl)
    · rw [if_neg h1] at h
      by_cases h2 : b = 58
      · rw [if_pos h2] at h; cases h; exact .inr (.inr (.inl rfl))
      · rw [if_neg h2] at h
        by_cases h3 : b = 59
        · rw [if_pos h3] at h; cases h; exact .inr (.inr (.inr (.inl rfl)))
        · rw [if_neg h3] at h
          by_cases h4 : b = 45
          · rw [if_pos h4] at h; cases h; exact .inr (.inr (.inr (.inr rfl)))
          · rw [if_neg h4] at h; cases h
theorem signsR {P : Program} {w : World} {K : PySem.W.Frag} {a : Addr} {n : Nat} (hl : K.lookup a = some ⟨.type "dict", none, .dict (sigE t1 t2 t3 t4 u1 u2 u3 u4) n, #[]⟩) (low : (a == sysModules) = false) : SignsR P w K a := by
  refine ⟨fun X h1 h2 h3 _ => ?_, fun X h1 h2 h3 _ => ?_⟩
  · subst h1 h2 h3
    intro pins s σ H x y v u Q I rx ry h
    obtain ⟨b, rfl, rfl, q⟩ := h
    obtain ⟨t, rfl⟩ := rx
    cases ry
    refine wpAny_in_of (PySem.intKind_is X.prog X.w _ t) low (sig_map I.kIn hl) ?_
    rw [sig_find]
    have e : (match signKind b with
      | some .comma => some (Value.str "," u1)
      | some .colon => some (.str ":" u2)
      | some .semi => some (.str ";" u3)
      | some .minus => some (.str "-" u4)
      | _ => none).isSome = (signKind b).isSome := by
      rcases sign_kinds b with h | h | h | h | h <;> rw [h] <;> rfl
    rw [e]
    exact ⟨.bl _, H, I.tok _, rfl, q⟩
  · subst h1 h2 h3
    intro value slice pins s σ H x y v u Q I rx ry h hs
    obtain ⟨b, k, rfl, rfl, hk, q⟩ := h
    cases rx
    obtain ⟨t, rfl⟩ := ry
    have hm := sig_map (P := X.prog) (w := X.w) I.kIn hl
    have key : ∀ (z : Str) (tk : Tok), findBy Value.isInt (sigE t1 t2 t3 t4 u1 u2 u3 u4) (b.toNat : Int) = some (.str z tk) → z = ks k → wpAny (model X.prog X.w) X.A (subscriptTail value slice (.ref a) (.int b.toNat t)) (EP X pins σ Q) X.xe s := fun z tk e ez =>
      tail_any hm.typeIs slot_dict_getitem.lookup (wpAny_getItem_of (PySem.intKind_is X.prog X.w _ t) hm e ⟨.str (ks k), H, I.tok _, ⟨tk, by rw [ez]⟩, q⟩) hs
    have hf := sig_find (t1 := t1) (t2 := t2) (t3 := t3) (t4 := t4) (u1 := u1) (u2 := u2) (u3 := u3) (u4 := u4) b
    rw [hk] at hf
    rcases sign_kinds b with h | h | h | h | h
    · rw [h] at hk; cases hk
    · rw [h] at hk; cases hk; exact key _ _ hf rfl
    · rw [h] at hk; cases hk; exact key _ _ hf rfl
    · rw [h] at hk; cases hk; exact key _ _ hf rfl
    · rw [h] at hk; cases hk; exact key _ _ hf rfl
end
end Fm

/-! tokens_of. -/
namespace Fm
open PySem PySem.Spec PyProof.Rows L2
/-- the tokens of a list, none of their parts at an address of L -/
inductive TokL (C : Addr) (H : Hp) (L : List Addr) : List V → List MTok → Prop
  | nil : TokL C H L [] []
  | cons {a s : Addr} {t : MTok} {vs : List V} {ts : List MTok} : TokAt C H a s t → a ∉ L → s ∉ L → TokL C H L vs ts → TokL C H L (.ref a :: vs) (t :: ts)
theorem TokL.len {C : Addr} {H : Hp} {L : List Addr} {vs : List V} {ts : List MTok} (h : TokL C H L vs ts) : vs.length = ts.length := by
  induction h with
  | nil => rfl
  | cons _ _ _ _ ih => rw [List.length_cons, List.length_cons, ih]
theorem TokL.mono {C : Addr} {H H' : Hp} {L : List Addr} {vs : List V} {ts : List MTok} (h : TokL C H L vs ts) (m : ∀ b o, b ∉ L → H b = some o → H' b = some o) : TokL C H' L vs ts := by
  induction h with
  | nil => exact .nil
  | cons q h1 h2 _ ih =>
    obtain ⟨⟨dx, e1⟩, e2⟩ := q
    exact .cons ⟨⟨dx, m _ _ h1 e1⟩, m _ _ h2 e2⟩ h1 h2 ih
theorem TokL.snoc {C : Addr} {H : Hp} {L : List Addr} {vs : List V} {ts : List MTok} (h : TokL C H L vs ts) {a s : Addr} {t : MTok} (q : TokAt C H a s t) (h1 : a ∉ L) (h2 : s ∉ L) : TokL C H L (vs ++ [.ref a]) (ts ++ [t]) := by
  induction h with
  | nil => exact .cons q h1 h2 .nil
  | cons p g1 g2 _ ih => exact .cons p g1 g2 ih
theorem TokL.get {C : Addr} {H : Hp} {L : List Addr} {vs : List V} {ts : List MTok} (h : TokL C H L vs ts) : ∀ {i : Nat} {t : MTok}, ts[i]? = some t → ∃ a s, vs[i]? = some (.ref a) ∧ TokAt C H a s t ∧ a ∉ L ∧ s ∉ L := by
  induction h with
  | nil => intro i t e; simp at e
  | @cons a s t vs ts q h1 h2 _ ih =>
    intro i t' e
    cases i with
    | zero =>
      cases Option.some.inj e
      exact ⟨a, s, rfl, q, h1, h2⟩
    | succ i => exact ih (i := i) e
theorem TokL.weak {C : Addr} {H : Hp} {L : List Addr} {vs : List V} {ts : List MTok} (h : TokL C H L vs ts) : TokL C H [] vs ts := by
  induction h with
  | nil => exact .nil
  | cons q _ _ _ ih => exact .cons q List.not_mem_nil List.not_mem_nil ih
theorem TokL.less1 {C : Addr} {H : Hp} {L L' : List Addr} {vs : List V} {ts : List MTok} (h : TokL C H L vs ts) (n : ∀ b ∈ L', b ∈ L) : TokL C H L' vs ts := by
  induction h with
  | nil => exact .nil
  | cons q h1 h2 _ ih => exact .cons q (fun z => h1 (n _ z)) (fun z => h2 (n _ z)) ih
theorem TokL.app {C : Addr} {H : Hp} {L M : List Addr} {vs : List V} {ts : List MTok} (h : TokL C H L vs ts) (n : ∀ b ∈ M, H b = none) : TokL C H (M ++ L) vs ts := by
  induction h with
  | nil => exact .nil
  | cons q h1 h2 _ ih =>
    obtain ⟨⟨dx, e1⟩, e2⟩ := q
    refine .cons ⟨⟨dx, e1⟩, e2⟩ (fun z => ?_) (fun z => ?_) ih
    · rcases List.mem_append.mp z with z | z
      · rw [n _ z] at e1; cases e1
      · exact h1 z
    · rcases List.mem_append.mp z with z | z
      · rw [n _ z] at e2; cases e2
      · exact h2 z
theorem TokL.fresh {C : Addr} {H : Hp} {L : List Addr} {vs : List V} {ts : List MTok} (h : TokL C H [] vs ts) (n : ∀ b ∈ L, H b = none) : TokL C H L vs ts := by
  induction h with
  | nil => exact .nil
  | cons q _ _ _ ih =>
    obtain ⟨⟨dx, e1⟩, e2⟩ := q
    exact .cons ⟨⟨dx, e1⟩, e2⟩ (fun z => by rw [n _ z] at e1; cases e1) (fun z => by rw [n _ z] at e2; cases e2) ih
/-- the tokens at T -/
def Toks (C : Addr) (H : Hp) (T : Addr) (L : List Addr) (ts : List MTok) : Prop := ∃ vs, H T = some (.lst vs) ∧ T ∉ L ∧ TokL C H L vs ts
theorem Toks.fresh {C : Addr} {H : Hp} {T : Addr} {L : List Addr} {ts : List MTok} (h : Toks C H T [] ts) (n : ∀ b ∈ L, H b = none) : Toks C H T L ts := by
  obtain ⟨vs, e, _, t⟩ := h
  exact ⟨vs, e, (fun z => by rw [n _ z] at e; cases e), t.fresh n⟩
theorem Toks.app {C : Addr} {H : Hp} {T : Addr} {L M : List Addr} {ts : List MTok} (h : Toks C H T L ts) (n : ∀ b ∈ M, H b = none) : Toks C H T (M ++ L) ts := by
  obtain ⟨vs, e, h0, t⟩ := h
  refine ⟨vs, e, (fun z => ?_), t.app n⟩
  rcases List.mem_append.mp z with z | z
  · rw [n _ z] at e
    cases e
  · exact h0 z
def spTokens (K : PySem.W.Frag) (C CF : Addr) : Sp := fun vs H Q E => ∃ (a : Addr) (l : VaskyBase.Bytes) (L : List Addr), vs = [.ref a] ∧ SqL K H a (vb l) ∧ l.length ≤ 4096 ∧ (∀ b ∈ L, H b ≠ none) ∧
  (∀ ts, mtokens l = .ok ts → ∀ H' T, Same H H' → H T = none → Toks C H' T L ts → Q (.ref T) H') ∧
  (∀ p, mtokens l = .error p → ∀ H' d, Same H H' → H' d = some (.xd (ff 2 p)) → E (.ref CF) (some d) H')
section
variable {P : Program} {w : World} {K : PySem.W.Frag} {mg : Str → Option Value} {base : Heap}
theorem scTokensOf : FnScope ["text", "tokens", "place", "token"] ["text"] (defScope sTokensOf) := ⟨rfl, rfl, rfl, by decide +kernel, rfl, by decide +kernel, by decide +kernel⟩
theorem map_map2 {x : Except Nat (List MTok)} {pre : List MTok} {t : MTok} : ((x.map fun l => t :: l).map (pre ++ ·)) = x.map ((pre ++ [t]) ++ ·) := by
  cases x with
  | error e => rfl
  | ok l => simp [Except.map]
theorem ok_tokensOf {CF : Addr} (D : DefT K mg "tokens_of" sTokensOf ["text"]) (T : TokC K mg) (N : TokT K T.C) (FB : DefT K mg "past_blanks" sPastBlanks ["text", "at"]) (FT : DefT K mg "token_at" sTokenAt ["text", "place"])
    (GB : FnOk P w K mg base CX0 2 FB.f FB.fd ["text", "at"] (spBlanks K)) (GT : FnOk P w K mg base (L2.CX P w) 5 FT.f FT.fd ["text", "place"] (spTok K T.C CF (fun l => l ≠ []) mtoken))
    (gl : mg "len" = none) (gE : GS mg "END" (ks .fin)) : FnOk P w K mg base (L2.CX P w) 6 D.f D.fd ["text"] (spTokens K T.C CF) := by
  refine D.F.okX scTokensOf (fun vs H Q E h => ?_) (fun cdv A outer s H vs Q E hr h => ?_)
  · obtain ⟨a, l, L, rfl, _⟩ := h
    rfl
  · obtain ⟨a, l, L, rfl, hl, h4, hL, kS, kF⟩ := h
    have hr2 : Room 2 _ := hr.mono (by decide)
    refine ⟨_, pss_cons (ps_set (i := 1) scTokensOf.nd rfl (Or.inl rfl) (pe_lst pa_nil))
      (pss_cons (ps_set (i := 2) scTokensOf.nd rfl (Or.inl rfl) (pe_def FB GB hr2 (pa_cons (pv 0) (pa_cons pe_int pa_nil))))
      (pss_cons (ps_while (passes_of rfl) (pt_cmpR op_lt (pv 2) (pe_callB call_len_seq (by rfl) gl PySem.boot_len (pa_cons (pv 0) pa_nil)) (nomark _))
        (pss_cons (ps_set (i := 3) scTokensOf.nd rfl (Or.inl rfl) (pe_call GT hr rfl FT.g FT.F.kp FT.b .nil (passes_call (takes_of rfl rfl rfl rfl) (fun _ _ _ _ h => h)) (pa_cons (pv 0) (pa_cons (pv 2) pa_nil))))
        (pss_cons (ps_expr (pe_bm PySem.F.plainAttrs_list PySem.F.slot_list_append PySem.F.type_list_append mt_append (pv 1) (pa_cons (pv 3) pa_nil)))
        (pss_one (ps_set (i := 2) scTokensOf.nd rfl (Or.inl rfl) (pe_def FB GB hr2 (pa_cons (pv 0) (pa_cons (pe_op op_add (pv 2) (pe_callB call_len_seq (by rfl) gl PySem.boot_len (pa_cons (pe_fld (pv 3) rfl) pa_nil))) pa_nil))))))))
      (pss_cons (ps_expr (pe_bm PySem.F.plainAttrs_list PySem.F.slot_list_append PySem.F.type_list_append mt_append (pv 1)
          (pa_cons (pe_make T.makes (ok_tokInit T N) hr2 (by rfl) T.g T.b .nil pass0 (pa_cons (pe_gs gE) (pa_cons (pe_callB call_len_seq (by rfl) gl PySem.boot_len (pa_cons (pv 0) pa_nil)) (pa_cons (pe_lst pa_nil) pa_nil)))) pa_nil)))
      (pss_one (ps_ret (pv 1)))))), ?_⟩
    refine ⟨Nat.zero_le _, fun tl htl => ?_⟩
    have sm0 : Same H (upd H tl (.lst [])) := fun b o e => by
      rw [upd_ne (ne_of_none e htl)]
      exact e
    refine ⟨_, rfl, a, l, 0, rfl, sm0.seq hl, Nat.zero_le _, ?_⟩
    have hs0 := skip_le false l
    refine while_v (fun m σ H' => ∃ (j f : Nat) (pre : List MTok) (vs : List V) (v : Option V), m = l.length - j ∧ j ≤ l.length ∧ σ = [some (.ref a), some (.ref tl), some (.int (j : Nat)), v] ∧ Same H H' ∧ H' tl = some (.lst vs) ∧ TokL T.C H' (tl :: L) vs pre ∧ pre.length ≤ j ∧
        l.length - j ≤ f ∧ mtokens l = (mloop f j (l.drop j)).map (pre ++ ·)) (m0 := l.length - skipB false l)
      ⟨skipB false l, l.length, [], [], none, rfl, hs0, by rw [List.drop_zero, Nat.zero_add]; rfl, sm0, upd_same, .nil, Nat.zero_le _, by omega, by unfold mtokens; cases mloop l.length (skipB false l) (l.drop (skipB false l)) <;> rfl⟩ ?_
    rintro m σ H' ⟨j, f, pre, vs, v, rfl, hj, rfl, sm, htl', hT, hpl, hf, hmt⟩
    have tne : ∀ {b : Addr} {o : HO}, H b = some o → b ≠ tl := fun {b o} e => ne_of_none e htl
    have offL : ∀ {b : Addr} {H2 : Hp}, Same H H2 → H2 b = none → b ∉ L := fun {b H2} s z y => hL b y (s.free z)
    have off2 : ∀ {b : Addr}, b ≠ tl → b ∉ L → b ∉ tl :: L := fun {b} h1 h2 z => by
      rcases List.mem_cons.mp z with z | z
      · exact h1 z
      · exact h2 z
    by_cases hlt : j < l.length
    · refine ⟨true, fun G g => ?_, fun _ => ?_, fun c => Bool.noConfusion c⟩
      · refine ⟨_, rfl, _, rfl, a, _, rfl, .inl (sm.seq hl), _, _, rfl, rfl, _, rfl, ?_⟩
        rw [vb_len, decide_eq_true (by omega)]
        exact g
      · obtain ⟨b, hb, hdr⟩ := drop_at hlt
        cases f with
        | zero => omega
        | succ f =>
          have hml : mloop (f + 1) j (l.drop j) = match mtoken (l.drop j) with
            | none => .error j
            | some (k, s) => (mloop f (j + s.length + skipB false ((l.drop j).drop s.length)) (((l.drop j).drop s.length).drop (skipB false ((l.drop j).drop s.length)))).map fun l => ⟨k, j, s⟩ :: l := by
            rw [hdr]
            rfl
          rw [hml] at hmt
          refine ⟨_, rfl, _, rfl, a, l, j, rfl, sm.seq hl, h4, hj, (by rw [hdr]; exact List.cons_ne_nil _ _), fun k bs hk H2 t sp sm2 ht hsp htok => ?_, fun hk H2 d sm2 hd => ?_⟩
          · rw [hk] at hmt
            have hlen : 0 < bs.length ∧ bs.length ≤ (l.drop j).length := by
              rw [hdr] at hk ⊢
              exact mtoken_len hk
            rw [List.length_drop] at hlen
            have tn : t ≠ tl := fun z => by
              rw [z, htl'] at ht
              cases ht
            have sn : sp ≠ tl := fun z => by
              rw [z, htl'] at hsp
              cases hsp
            have h2tl : H2 tl = some (.lst vs) := sm2 _ _ htl'
            refine ⟨_, rfl, .inl ⟨rfl, _, SqL.of h2tl⟩, _, rfl, tl, _, _, rfl, rfl, h2tl, ?_, ?_⟩
            · have := hT.len
              rw [sizeLine_eq]
              omega
            · have keep0 : ∀ b o, b ≠ tl → H' b = some o → upd H2 tl (.lst (vs ++ [V.ref t])) b = some o := fun b o ne e => by
                rw [upd_ne ne]
                exact sm2 b o e
              have keep : ∀ b o, b ∉ tl :: L → H' b = some o → upd H2 tl (.lst (vs ++ [V.ref t])) b = some o := fun b o ne e => keep0 b o (fun z => ne (by rw [z]; exact List.mem_cons_self)) e
              have htok' : TokAt T.C (upd H2 tl (.lst (vs ++ [V.ref t]))) t sp ⟨k, j, bs⟩ := by
                obtain ⟨⟨dx, e1⟩, e2⟩ := htok
                exact ⟨⟨dx, by rw [upd_ne tn]; exact e1⟩, by rw [upd_ne sn]; exact e2⟩
              have sm3 : Same H (upd H2 tl (.lst (vs ++ [V.ref t]))) := fun b o e => keep0 b o (tne e) (sm b o e)
              obtain ⟨⟨dx, e1⟩, e2⟩ := id htok'
              refine ⟨_, rfl, _, rfl, _, rfl, t, T.C, dx, _, _, rfl, e1, T.cl, N.nS, tF_sp _ _, sp, _, rfl, .inl (SqL.of e2), _, _, rfl, rfl, ?_⟩
              refine ⟨a, l, j + bs.length, by rw [vb_len]; rfl, sm3.seq hl, by omega, ?_⟩
              have hsk := skip_le false (l.drop (j + bs.length))
              rw [List.length_drop] at hsk
              refine ⟨l.length - (j + bs.length + skipB false (l.drop (j + bs.length))), by omega, j + bs.length + skipB false (l.drop (j + bs.length)), f, pre ++ [⟨k, j, bs⟩], vs ++ [V.ref t], some (.ref t), rfl, by omega, rfl, sm3, upd_same,
                (hT.mono keep).snoc htok' (off2 tn (offL sm ht)) (off2 sn (offL sm hsp)), by simp; omega, by omega, ?_⟩
              rw [hmt]
              simp only [List.drop_drop]
              rw [map_map2]
          · rw [hk] at hmt
            exact kF j hmt _ d (sm.trans sm2) hd
    · have hje : j = l.length := by omega
      refine ⟨false, fun G g => ?_, fun c => Bool.noConfusion c, fun _ => ?_⟩
      · refine ⟨_, rfl, _, rfl, a, _, rfl, .inl (sm.seq hl), _, _, rfl, rfl, _, rfl, ?_⟩
        rw [vb_len, decide_eq_false (by omega)]
        exact g
      · have hend : mtokens l = .ok (pre ++ [⟨.fin, l.length, []⟩]) := by
          rw [hmt, List.drop_eq_nil_of_le (by omega), hje]
          cases f <;> rfl
        refine ⟨_, rfl, .inl ⟨rfl, _, SqL.of htl'⟩, ?_⟩
        refine ⟨_, rfl, a, _, rfl, .inl (sm.seq hl), (by show 0 ≤ sizeLine; decide), fun sp hsp => ?_⟩
        have hs : upd H' sp (.lst []) sp = some (.lst (vb [])) := upd_same
        have sn : sp ≠ tl := fun z => by
          rw [z, htl'] at hsp
          cases hsp
        have s1 : Same H' (upd H' sp (.lst [])) := fun b o e => by
          rw [upd_ne (ne_of_none e hsp)]
          exact e
        rw [vb_len]
        dsimp only [tNil]
        refine mk_tok (t := ⟨.fin, l.length, []⟩) (Q := fun v H2 => rAppend (.ref tl) [v] H2 _) hs fun H3 t s3 ht htok => ?_
        have tn : t ≠ tl := fun z => by
          rw [z, upd_ne (Ne.symm sn), htl'] at ht
          cases ht
        have h3tl : H3 tl = some (.lst vs) := s3 _ _ (s1 _ _ htl')
        refine ⟨tl, _, _, rfl, rfl, h3tl, ?_, ?_⟩
        · have := hT.len
          rw [sizeLine_eq]
          omega
        · have keep0 : ∀ b o, b ≠ tl → H' b = some o → upd H3 tl (.lst (vs ++ [V.ref t])) b = some o := fun b o ne e => by
            rw [upd_ne ne]
            exact s3 b o (s1 b o e)
          have keep : ∀ b o, b ∉ tl :: L → H' b = some o → upd H3 tl (.lst (vs ++ [V.ref t])) b = some o := fun b o ne e => keep0 b o (fun z => ne (by rw [z]; exact List.mem_cons_self)) e
          have htok' : TokAt T.C (upd H3 tl (.lst (vs ++ [V.ref t]))) t sp ⟨.fin, l.length, []⟩ := by
            obtain ⟨⟨dx, e1⟩, e2⟩ := htok
            exact ⟨⟨dx, by rw [upd_ne tn]; exact e1⟩, by rw [upd_ne sn]; exact e2⟩
          refine ⟨_, rfl, ?_⟩
          exact kS _ hend _ tl (fun b o e => keep0 b o (tne e) (sm b o e)) htl ⟨_, upd_same, (fun z => hL tl z htl), ((hT.mono keep).snoc htok' (off2 tn (offL (sm.trans s1) ht)) (off2 sn (offL sm hsp))).less1 fun _ => List.mem_cons_of_mem _⟩
end
end Fm

/-! HeldList: how a list of measures and items lies in the heap; its methods. -/
namespace Fm
open PySem PySem.Spec PyProof.Rows L2
open Vaskya (Measure Item Sheet)

/-- lists of whole numbers that stand at addresses -/
inductive RL (H : Hp) : List V → List (List Int) → Prop
  | nil : RL H [] []
  | cons {a : Addr} {l : List Int} {vs : List V} {ls : List (List Int)} : H a = some (.lst (l.map V.int)) → RL H vs ls → RL H (.ref a :: vs) (l :: ls)
section
variable {H H' : Hp} {vs : List V} {ls : List (List Int)}
theorem RL.rows {K : PySem.W.Frag} (h : RL H vs ls) : Rows K H vs ls := by
  induction h with
  | nil => exact .nil
  | cons e _ ih => exact .cons (SqL.of e) ih
theorem RL.len (h : RL H vs ls) : vs.length = ls.length := by
  induction h with
  | nil => rfl
  | cons _ _ ih => rw [List.length_cons, List.length_cons, ih]
theorem RL.keep (h : RL H vs ls) (m : ∀ a o, V.ref a ∈ vs → H a = some o → H' a = some o) : RL H' vs ls := by
  induction h with
  | nil => exact .nil
  | cons e _ ih => exact .cons (m _ _ List.mem_cons_self e) (ih fun a o ha => m a o (List.mem_cons_of_mem _ ha))
theorem RL.same (h : RL H vs ls) (m : Same H H') : RL H' vs ls := h.keep fun a o _ => m a o
theorem RL.snoc (h : RL H vs ls) {a : Addr} {l : List Int} (q : H a = some (.lst (l.map V.int))) : RL H (vs ++ [.ref a]) (ls ++ [l]) := by
  induction h with
  | nil => exact .cons q .nil
  | cons p _ ih => exact .cons p ih
theorem RL.get (h : RL H vs ls) : ∀ {i : Nat} {l : List Int}, ls[i]? = some l → ∃ a, vs[i]? = some (.ref a) ∧ H a = some (.lst (l.map V.int)) := by
  induction h with
  | nil => intro i l e; simp at e
  | @cons a l vs ls q _ ih =>
    intro i l' e
    cases i with
    | zero =>
      cases Option.some.inj e
      exact ⟨a, rfl, q⟩
    | succ i => exact ih (i := i) e
theorem RL.mem (h : RL H vs ls) : ∀ v ∈ vs, ∃ (a : Addr) (l : List Int), v = .ref a ∧ H a = some (.lst (l.map V.int)) := by
  induction h with
  | nil => intro v hv; cases hv
  | cons q _ ih =>
    intro v hv
    rcases List.mem_cons.mp hv with rfl | hv
    · exact ⟨_, _, rfl, q⟩
    · exact ih v hv
end
def way (up : Bool) : Str := if up then "up" else "down"
structure HA where
  a : Addr
  ms : Addr
  ws : Addr
  ns : Addr
  rs : Addr
  gs : Addr
  old : List Addr
def HA.ls (x : HA) : List Addr := [x.ms, x.ws, x.ns, x.rs, x.gs]
/-- its own lists, and what it keeps off -/
def HA.av (x : HA) : List Addr := x.ls ++ x.old
theorem av_ls {x : HA} {b : Addr} (h : b ∈ x.ls) : b ∈ x.av := List.mem_append_left _ h
theorem not_av {x : HA} {b : Addr} (h : b ∉ x.av) : b ∉ x.ls := fun z => h (av_ls z)
def hF (x : HA) : List (Str × V) := [("measures", .ref x.ms), ("ways", .ref x.ws), ("names", .ref x.ns), ("rows", .ref x.rs), ("gains", .ref x.gs)]
structure HeldAt (C : Addr) (H : Hp) (x : HA) (s : Sheet) : Prop where
  ins : ∃ dx, H x.a = some (.ins C dx (hF x))
  nd : x.ls.Nodup
  ways : H x.ws = some (.lst (s.ms.map fun m => V.str (way m.up)))
  lists : ∃ vm vn vr vg, H x.ms = some (.lst vm) ∧ RL H vm (s.ms.map fun m => bi m.name) ∧ H x.ns = some (.lst vn) ∧ RL H vn (s.items.map fun i => bi i.name) ∧
    H x.rs = some (.lst vr) ∧ RL H vr (s.items.map (·.vs)) ∧ H x.gs = some (.lst vg) ∧ RL H vg (Vaskya.rows s) ∧ (∀ b ∈ x.av, V.ref b ∉ vm ∧ V.ref b ∉ vn ∧ V.ref b ∉ vr ∧ V.ref b ∉ vg)
theorem HeldAt.same {C : Addr} {H H' : Hp} {x : HA} {s : Sheet} (h : HeldAt C H x s) (m : Same H H') : HeldAt C H' x s := by
  obtain ⟨⟨dx, h1⟩, h2, h3, vm, vn, vr, vg, e1, r1, e2, r2, e3, r3, e4, r4, no⟩ := h
  exact ⟨⟨dx, m _ _ h1⟩, h2, m _ _ h3, vm, vn, vr, vg, m _ _ e1, r1.same m, m _ _ e2, r2.same m, m _ _ e3, r3.same m, m _ _ e4, r4.same m, no⟩
theorem HeldAt.notin {C : Addr} {H : Hp} {x : HA} {s : Sheet} (h : HeldAt C H x s) : x.a ∉ x.ls := by
  obtain ⟨⟨dx, h1⟩, h2, h3, vm, vn, vr, vg, e1, r1, e2, r2, e3, r3, e4, r4, no⟩ := h
  intro hm
  simp only [HA.ls, List.mem_cons, List.not_mem_nil, or_false] at hm
  rcases hm with z | z | z | z | z <;> rw [z] at h1
  · rw [e1] at h1; cases h1
  · rw [h3] at h1; cases h1
  · rw [e2] at h1; cases h1
  · rw [e3] at h1; cases h1
  · rw [e4] at h1; cases h1
theorem hF_ms (x : HA) : (hF x).lookup ("measures" : Str) = some (.ref x.ms) := lk_here
theorem hF_ws (x : HA) : (hF x).lookup ("ways" : Str) = some (.ref x.ws) := (lk_past (by decide +kernel)).trans lk_here
theorem hF_ns (x : HA) : (hF x).lookup ("names" : Str) = some (.ref x.ns) := (lk_past (by decide +kernel)).trans ((lk_past (by decide +kernel)).trans lk_here)
theorem hF_rs (x : HA) : (hF x).lookup ("rows" : Str) = some (.ref x.rs) := (lk_past (by decide +kernel)).trans ((lk_past (by decide +kernel)).trans ((lk_past (by decide +kernel)).trans lk_here))
theorem hF_gs (x : HA) : (hF x).lookup ("gains" : Str) = some (.ref x.gs) := (lk_past (by decide +kernel)).trans ((lk_past (by decide +kernel)).trans ((lk_past (by decide +kernel)).trans ((lk_past (by decide +kernel)).trans lk_here)))
theorem hF_no (x : HA) {m : Str} (h1 : (m == ("measures" : Str)) = false) (h2 : (m == ("ways" : Str)) = false) (h3 : (m == ("names" : Str)) = false) (h4 : (m == ("rows" : Str)) = false) (h5 : (m == ("gains" : Str)) = false) : (hF x).lookup m = none :=
  (lk_past h1).trans ((lk_past h2).trans ((lk_past h3).trans ((lk_past h4).trans ((lk_past h5).trans rfl))))
/-- what the top has written of HeldList -/
structure HeldT (K : PySem.W.Frag) (C : Addr) : Prop where
  nM : NoAttr K C "measures"
  nW : NoAttr K C "ways"
  nN : NoAttr K C "names"
  nR : NoAttr K C "rows"
  nG : NoAttr K C "gains"
/-- all but the held lists stand -/
def But (L : List Addr) (H H' : Hp) : Prop := ∀ b o, H b = some o → b ∉ L → H' b = some o
theorem But.trans {L : List Addr} {H H1 H2 : Hp} (a : But L H H1) (b : But L H1 H2) : But L H H2 := fun c o h n => b c o (a c o h n) n
theorem But.of {L : List Addr} {H H' : Hp} (a : Same H H') : But L H H' := fun c o h _ => a c o h
theorem But.mono {L L' : List Addr} {H H' : Hp} (a : But L H H') (h : ∀ b ∈ L, b ∈ L') : But L' H H' := fun c o e n => a c o e fun z => n (h c z)

abbrev sHeldInit : Stmt := inClass (top 9) 0
abbrev sAddMeasure : Stmt := inClass (top 9) 1
abbrev sAddItem : Stmt := inClass (top 9) 2
/-- a new list that holds nothing -/
def spHeldInit (C : Addr) : Sp := fun vs H Q _ => ∃ (a dx : Addr) (old : List Addr), vs = [.ref a] ∧ H a = some (.ins C dx []) ∧ ∀ H' (x : HA), x.a = a → x.old = old → HeldAt C H' x ⟨[], []⟩ → (∀ b ∈ x.ls, H b = none) → (∀ b o, H b = some o → b ≠ a → H' b = some o) → Q .non H'
section
variable {P : Program} {w : World} {K : PySem.W.Frag} {mg : Str → Option Value} {base : Heap}
theorem scHeldInit : FnScope ["self"] ["self"] (defScope sHeldInit) := ⟨rfl, rfl, rfl, by decide +kernel, rfl, by decide +kernel, by decide +kernel⟩
abbrev HeldC (K : PySem.W.Frag) (mg : Str → Option Value) := ClsT K mg "HeldList" "HeldList.__init__" sHeldInit ["self"]
theorem ok_heldInit (T : HeldC K mg) (N : HeldT K T.C) : FnOk P w K mg base CX0 1 T.f T.fd ["self"] (spHeldInit T.C) := by
  refine T.F.ok scHeldInit (fun vs H Q E h => ?_) (fun cdv A outer s H vs Q E hr h => ?_)
  · obtain ⟨a, dx, old, rfl, _⟩ := h
    rfl
  · obtain ⟨a, dx, old, rfl, ha, k⟩ := h
    refine ⟨_, pss_cons (ps_fld (pv 0) (pe_lst pa_nil) rfl) (pss_cons (ps_fld (pv 0) (pe_lst pa_nil) rfl) (pss_cons (ps_fld (pv 0) (pe_lst pa_nil) rfl) (pss_cons (ps_fld (pv 0) (pe_lst pa_nil) rfl) (pss_one (ps_fld (pv 0) (pe_lst pa_nil) rfl))))), ?_⟩
    have hz : ([] : List V).length ≤ sizeLine := Nat.zero_le _
    refine ⟨hz, fun a1 h1 => ?_⟩
    have n1 : a ≠ a1 := ne_of_none ha h1
    refine ⟨_, rfl, a, T.C, dx, [], rfl, by rw [upd_ne n1]; exact ha, T.cl, N.nM, (by show 0 < 1000; decide), ?_⟩
    refine ⟨hz, fun a2 h2 => ?_⟩
    have n2 : a ≠ a2 := fun z => by rw [← z, upd_same] at h2; cases h2
    refine ⟨_, rfl, a, T.C, dx, _, rfl, by rw [upd_ne n2]; exact upd_same, T.cl, N.nW, (by show 1 < 1000; decide), ?_⟩
    refine ⟨hz, fun a3 h3 => ?_⟩
    have n3 : a ≠ a3 := fun z => by rw [← z, upd_same] at h3; cases h3
    refine ⟨_, rfl, a, T.C, dx, _, rfl, by rw [upd_ne n3]; exact upd_same, T.cl, N.nN, (by show 2 < 1000; decide), ?_⟩
    refine ⟨hz, fun a4 h4 => ?_⟩
    have n4 : a ≠ a4 := fun z => by rw [← z, upd_same] at h4; cases h4
    refine ⟨_, rfl, a, T.C, dx, _, rfl, by rw [upd_ne n4]; exact upd_same, T.cl, N.nR, (by show 3 < 1000; decide), ?_⟩
    refine ⟨hz, fun a5 h5 => ?_⟩
    have n5 : a ≠ a5 := fun z => by rw [← z, upd_same] at h5; cases h5
    refine ⟨_, rfl, a, T.C, dx, _, rfl, by rw [upd_ne n5]; exact upd_same, T.cl, N.nG, (by show 4 < 1000; decide), ?_⟩
    have hp : putF "gains" (V.ref a5) (putF "rows" (V.ref a4) (putF "names" (V.ref a3) (putF "ways" (V.ref a2) (putF "measures" (V.ref a1) [])))) = hF ⟨a, a1, a2, a3, a4, a5, old⟩ := by
      have q1 : putF "measures" (V.ref a1) [] = ([("measures", .ref a1)] : List (Str × V)) := rfl
      have q2 : putF "ways" (V.ref a2) ([("measures", .ref a1)] : List (Str × V)) = ([("measures", .ref a1), ("ways", .ref a2)] : List (Str × V)) := (put_past (by decide +kernel)).trans rfl
      have q3 : putF "names" (V.ref a3) ([("measures", .ref a1), ("ways", .ref a2)] : List (Str × V)) = ([("measures", .ref a1), ("ways", .ref a2), ("names", .ref a3)] : List (Str × V)) := by
        rw [put_past (by decide +kernel), put_past (by decide +kernel)]
        rfl
      have q4 : putF "rows" (V.ref a4) ([("measures", .ref a1), ("ways", .ref a2), ("names", .ref a3)] : List (Str × V)) = ([("measures", .ref a1), ("ways", .ref a2), ("names", .ref a3), ("rows", .ref a4)] : List (Str × V)) := by
        rw [put_past (by decide +kernel), put_past (by decide +kernel), put_past (by decide +kernel)]
        rfl
      have q5 : putF "gains" (V.ref a5) ([("measures", .ref a1), ("ways", .ref a2), ("names", .ref a3), ("rows", .ref a4)] : List (Str × V)) = hF ⟨a, a1, a2, a3, a4, a5, old⟩ := by
        rw [put_past (by decide +kernel), put_past (by decide +kernel), put_past (by decide +kernel), put_past (by decide +kernel)]
        rfl
      rw [q1, q2, q3, q4, q5]
    rw [hp]
    have m12 : a1 ≠ a2 := fun z => by rw [← z, upd_ne (Ne.symm n1), upd_same] at h2; cases h2
    have m13 : a1 ≠ a3 := fun z => by rw [← z, upd_ne (Ne.symm n1), upd_ne m12, upd_ne (Ne.symm n1), upd_same] at h3; cases h3
    have m14 : a1 ≠ a4 := fun z => by rw [← z, upd_ne (Ne.symm n1), upd_ne m13, upd_ne (Ne.symm n1), upd_ne m12, upd_ne (Ne.symm n1), upd_same] at h4; cases h4
    have m15 : a1 ≠ a5 := fun z => by rw [← z, upd_ne (Ne.symm n1), upd_ne m14, upd_ne (Ne.symm n1), upd_ne m13, upd_ne (Ne.symm n1), upd_ne m12, upd_ne (Ne.symm n1), upd_same] at h5; cases h5
    have m23 : a2 ≠ a3 := fun z => by rw [← z, upd_ne (Ne.symm n2), upd_same] at h3; cases h3
    have m24 : a2 ≠ a4 := fun z => by rw [← z, upd_ne (Ne.symm n2), upd_ne m23, upd_ne (Ne.symm n2), upd_same] at h4; cases h4
    have m25 : a2 ≠ a5 := fun z => by rw [← z, upd_ne (Ne.symm n2), upd_ne m24, upd_ne (Ne.symm n2), upd_ne m23, upd_ne (Ne.symm n2), upd_same] at h5; cases h5
    have m34 : a3 ≠ a4 := fun z => by rw [← z, upd_ne (Ne.symm n3), upd_same] at h4; cases h4
    have m35 : a3 ≠ a5 := fun z => by rw [← z, upd_ne (Ne.symm n3), upd_ne m34, upd_ne (Ne.symm n3), upd_same] at h5; cases h5
    have m45 : a4 ≠ a5 := fun z => by rw [← z, upd_ne (Ne.symm n4), upd_same] at h5; cases h5
    have f1 : H a1 = none := h1
    have f2 : H a2 = none := by rw [upd_ne (Ne.symm n2), upd_ne (Ne.symm m12)] at h2; exact h2
    have f3 : H a3 = none := by rw [upd_ne (Ne.symm n3), upd_ne (Ne.symm m23), upd_ne (Ne.symm n3), upd_ne (Ne.symm m13)] at h3; exact h3
    have f4 : H a4 = none := by rw [upd_ne (Ne.symm n4), upd_ne (Ne.symm m34), upd_ne (Ne.symm n4), upd_ne (Ne.symm m24), upd_ne (Ne.symm n4), upd_ne (Ne.symm m14)] at h4; exact h4
    have f5 : H a5 = none := by rw [upd_ne (Ne.symm n5), upd_ne (Ne.symm m45), upd_ne (Ne.symm n5), upd_ne (Ne.symm m35), upd_ne (Ne.symm n5), upd_ne (Ne.symm m25), upd_ne (Ne.symm n5), upd_ne (Ne.symm m15)] at h5; exact h5
    refine k _ ⟨a, a1, a2, a3, a4, a5, old⟩ rfl rfl ⟨⟨dx, upd_same⟩, ?_, ?_, [], [], [], [], ?_, .nil, ?_, .nil, ?_, .nil, ?_, .nil, ?_⟩ ?_ ?_
    · simp only [HA.ls, List.nodup_cons, List.mem_cons, List.not_mem_nil, or_false, not_or]
      exact ⟨⟨m12, m13, m14, m15⟩, ⟨m23, m24, m25⟩, ⟨m34, m35⟩, m45, by simp⟩
    · simp only [upd_ne (Ne.symm n2), upd_ne m25, upd_ne m24, upd_ne m23, upd_same]
      rfl
    · simp only [upd_ne (Ne.symm n1), upd_ne m15, upd_ne m14, upd_ne m13, upd_ne m12, upd_same]
    · simp only [upd_ne (Ne.symm n3), upd_ne m35, upd_ne m34, upd_same]
    · simp only [upd_ne (Ne.symm n4), upd_ne m45, upd_same]
    · simp only [upd_ne (Ne.symm n5), upd_same]
    · intro b _
      exact ⟨List.not_mem_nil, List.not_mem_nil, List.not_mem_nil, List.not_mem_nil⟩
    · intro b hb
      simp only [HA.ls, List.mem_cons, List.not_mem_nil, or_false] at hb
      rcases hb with rfl | rfl | rfl | rfl | rfl <;> assumption
    · intro b o e hba
      have g : ∀ {c : Addr}, H c = none → b ≠ c := fun {c} z => ne_of_none e z
      simp only [upd_ne hba, upd_ne (g f1), upd_ne (g f2), upd_ne (g f3), upd_ne (g f4), upd_ne (g f5)]
      exact e
end
end Fm

/-! add_measure, add_item. -/
namespace Fm
open PySem PySem.Spec PyProof.Rows L2
open Vaskya (Measure Item Sheet)
def spAddMeasure (C : Addr) : Sp := fun vs H Q _ => ∃ (x : HA) (s : Sheet) (nm : Addr) (b : VaskyBase.Bytes) (up : Bool), vs = [.ref x.a, .ref nm, .str (way up)] ∧ HeldAt C H x s ∧ H nm = some (.lst (vb b)) ∧ nm ∉ x.av ∧ s.ms.length ≤ 1000 ∧ s.items = [] ∧
  ∀ H', HeldAt C H' x ⟨s.ms ++ [⟨b, up⟩], []⟩ → But x.ls H H' → (∀ b, H b = none → H' b = none) → Q .non H'
def spAddItem (C : Addr) : Sp := fun vs H Q _ => ∃ (x : HA) (s : Sheet) (nm rw : Addr) (b : VaskyBase.Bytes) (l : List Int), vs = [.ref x.a, .ref nm, .ref rw] ∧ HeldAt C H x s ∧ H nm = some (.lst (vb b)) ∧ H rw = some (.lst (l.map V.int)) ∧ nm ∉ x.av ∧ rw ∉ x.av ∧ (∀ b ∈ x.old, H b ≠ none) ∧
  s.items.length ≤ 1000 ∧ l.length = s.ms.length ∧ l.length ≤ 1000 ∧ ∀ H', HeldAt C H' x ⟨s.ms, s.items ++ [⟨b, l⟩]⟩ → But x.ls H H' → Q .non H'
theorem nd5 {x : HA} (h : x.ls.Nodup) : (x.ms ≠ x.ws ∧ x.ms ≠ x.ns ∧ x.ms ≠ x.rs ∧ x.ms ≠ x.gs) ∧ (x.ws ≠ x.ns ∧ x.ws ≠ x.rs ∧ x.ws ≠ x.gs) ∧ (x.ns ≠ x.rs ∧ x.ns ≠ x.gs) ∧ x.rs ≠ x.gs := by
  simp only [HA.ls, List.nodup_cons, List.mem_cons, List.not_mem_nil, or_false, not_or] at h
  exact ⟨h.1, h.2.1, h.2.2.1, h.2.2.2.1⟩
theorem in5 (x : HA) : x.ms ∈ x.ls ∧ x.ws ∈ x.ls ∧ x.ns ∈ x.ls ∧ x.rs ∈ x.ls ∧ x.gs ∈ x.ls := by simp [HA.ls]
theorem off {a c : Addr} {L : List Addr} (ha : a ∈ L) (hc : c ∉ L) : c ≠ a := fun z => hc (by rw [z]; exact ha)
theorem small_line {n : Nat} (h : n ≤ 1000000) : n < sizeLine := by
  rw [sizeLine_eq]
  omega
section
variable {P : Program} {w : World} {K : PySem.W.Frag} {mg : Str → Option Value} {base : Heap}
theorem scAddMeasure : FnScope ["self", "name", "way"] ["self", "name", "way"] (defScope sAddMeasure) := ⟨rfl, rfl, rfl, by decide +kernel, rfl, by decide +kernel, by decide +kernel⟩
theorem ok_addMeasure {C : Addr} (M : MethT K C "add_measure" "HeldList.add_measure" sAddMeasure ["self", "name", "way"]) (cl : Cls K C) (N : HeldT K C) : FnOk P w K mg base CX0 1 M.f M.fd ["self", "name", "way"] (spAddMeasure C) := by
  refine M.F.ok scAddMeasure (fun vs H Q E h => ?_) (fun cdv A outer s H vs Q E hr h => ?_)
  · obtain ⟨x, s, nm, b, up, rfl, _⟩ := h
    rfl
  · obtain ⟨x, s, nm, b, up, rfl, hH, hnm, nn, hm, hi, k⟩ := h
    refine ⟨_, pss_cons (ps_expr (pe_bm PySem.F.plainAttrs_list PySem.F.slot_list_append PySem.F.type_list_append mt_append (pe_fld (pv 0) rfl) (pa_cons (pv 1) pa_nil)))
      (pss_one (ps_expr (pe_bm PySem.F.plainAttrs_list PySem.F.slot_list_append PySem.F.type_list_append mt_append (pe_fld (pv 0) rfl) (pa_cons (pv 2) pa_nil)))), ?_⟩
    have hno := hH.notin
    obtain ⟨⟨dx, h1⟩, nd, hw, vm, vn, vr, vg, e1, r1, e2, r2, e3, r3, e4, r4, no⟩ := hH
    obtain ⟨n1, n2, n3, n4⟩ := nd5 nd
    obtain ⟨i1, i2, i3, i4, i5⟩ := in5 x
    have a1 : x.a ≠ x.ms := off i1 hno
    have a2 : x.a ≠ x.ws := off i2 hno
    have l1 := r1.len
    rw [List.length_map] at l1
    refine ⟨_, rfl, x.a, C, dx, _, _, rfl, h1, cl, N.nM, hF_ms x, .inl ⟨rfl, _, SqL.of e1⟩, _, rfl, x.ms, _, _, rfl, rfl, e1, small_line (by omega), ?_⟩
    refine ⟨_, rfl, x.a, C, dx, _, _, rfl, by rw [upd_ne a1]; exact h1, cl, N.nW, hF_ws x, .inl ⟨rfl, _, SqL.of (by rw [upd_ne (Ne.symm n1.1)]; exact hw)⟩, _, rfl, x.ws, _, _, rfl, rfl, by rw [upd_ne (Ne.symm n1.1)]; exact hw, small_line (by rw [List.length_map]; omega), ?_⟩
    have keep : ∀ (c : Addr) (o : HO), c ∉ x.ls → H c = some o → upd (upd H x.ms (.lst (vm ++ [V.ref nm]))) x.ws (.lst ((s.ms.map fun m => V.str (way m.up)) ++ [V.str (way up)])) c = some o := fun c o hc e => by
      rw [upd_ne (off i2 hc), upd_ne (off i1 hc)]
      exact e
    have kp : ∀ {vs : List V}, (∀ b ∈ x.ls, V.ref b ∉ vs) → ∀ a o, V.ref a ∈ vs → H a = some o → upd (upd H x.ms (.lst (vm ++ [V.ref nm]))) x.ws (.lst ((s.ms.map fun m => V.str (way m.up)) ++ [V.str (way up)])) a = some o := fun {vs} h a o ha e => keep a o (fun z => h a z ha) e
    have hr0 : Vaskya.rows s = [] := by
      unfold Vaskya.rows
      rw [hi]
      rfl
    rw [hi] at r2 r3
    rw [hr0] at r4
    refine k _ ⟨⟨dx, keep _ _ hno h1⟩, nd, ?_, vm ++ [V.ref nm], vn, vr, vg, ?_, ?_, ?_, r2.keep (kp fun b hb => (no b (av_ls hb)).2.1), ?_, r3.keep (kp fun b hb => (no b (av_ls hb)).2.2.1), ?_, ?_, fun b hb => ⟨?_, (no b hb).2⟩⟩ (fun c o e hc => keep c o hc e) ?_
    · rw [upd_same, List.map_append]
      rfl
    · rw [upd_ne n1.1, upd_same]
    · rw [List.map_append]
      exact (r1.keep (kp fun b hb => (no b (av_ls hb)).1)).snoc (by rw [← vb_bi]; exact keep _ _ (not_av nn) hnm)
    · rw [upd_ne (Ne.symm n2.1), upd_ne (Ne.symm n1.2.1)]
      exact e2
    · rw [upd_ne (Ne.symm n2.2.1), upd_ne (Ne.symm n1.2.2.1)]
      exact e3
    · rw [upd_ne (Ne.symm n2.2.2), upd_ne (Ne.symm n1.2.2.2)]
      exact e4
    · exact r4.keep (kp fun b hb => (no b (av_ls hb)).2.2.2)
    · rw [List.mem_append, List.mem_singleton]
      rintro (z | z)
      · exact (no b hb).1 z
      · exact nn (V.ref.inj z ▸ hb)
    · intro c hc
      rw [upd_ne (fun z => by rw [z, hw] at hc; cases hc), upd_ne (fun z => by rw [z, e1] at hc; cases hc)]
      exact hc

theorem scAddItem : FnScope ["self", "name", "row", "value", "way"] ["self", "name", "row"] (defScope sAddItem) := ⟨rfl, rfl, rfl, by decide +kernel, rfl, by decide +kernel, by decide +kernel⟩
theorem way_up (up : Bool) : decide (V.str (way up) = V.str "up") = up := by
  cases up
  · exact decide_eq_false fun z => absurd (V.str.inj z) (by decide +kernel)
  · exact decide_eq_true rfl
theorem good_take (ms : List Measure) (l : List Int) {i : Nat} {m : Measure} {z : Int} (hm : ms[i]? = some m) (hl : l[i]? = some z) :
    (Vaskya.goodOf ms l).take (i + 1) = (Vaskya.goodOf ms l).take i ++ [if m.up = true then z else -z] := by
  have e : (Vaskya.goodOf ms l)[i]? = some (if m.up = true then z else -z) := by
    unfold Vaskya.goodOf
    rw [List.getElem?_map, (List.getElem?_zip_eq_some (z := (m, z))).mpr ⟨hm, hl⟩]
    rfl
  rw [List.take_add_one, e]
  rfl
theorem ok_addItem {C : Addr} (M : MethT K C "add_item" "HeldList.add_item" sAddItem ["self", "name", "row"]) (cl : Cls K C) (N : HeldT K C) (gz : mg "zip" = none) : FnOk P w K mg base CX0 1 M.f M.fd ["self", "name", "row"] (spAddItem C) := by
  refine M.F.ok scAddItem (fun vs H Q E h => ?_) (fun cdv A outer s H vs Q E hr h => ?_)
  · obtain ⟨x, s, nm, rw, b, l, rfl, _⟩ := h
    rfl
  · obtain ⟨x, s, nm, rw_, b, l, rfl, hH, hnm, hrw, nn, nr, hold, hi, hlw, hl1, k⟩ := h
    refine ⟨_, pss_cons (ps_expr (pe_bm PySem.F.plainAttrs_list PySem.F.slot_list_append PySem.F.type_list_append mt_append (pe_fld (pv 0) rfl) (pa_cons (pv 1) pa_nil)))
      (pss_cons (ps_expr (pe_bm PySem.F.plainAttrs_list PySem.F.slot_list_append PySem.F.type_list_append mt_append (pe_fld (pv 0) rfl) (pa_cons (pv 2) pa_nil)))
      (pss_one (ps_expr (pe_bm PySem.F.plainAttrs_list PySem.F.slot_list_append PySem.F.type_list_append mt_append (pe_fld (pv 0) rfl)
        (pa_cons (pe_lc (own := [("value", 3), ("way", 4)]) (g := gTup K 2 (gCons (gName 3) (gCons (gName 4) gNil))) rfl scAddItem.nd (pi_zip (by rfl) gz (pa_cons (pv 2) (pa_cons (pe_fld (pv 0) rfl) pa_nil)))
          (blkOk_by (own := [("value", 3), ("way", 4)]) (N := ["self", "name", "row", "value", "way"]) (sc := defScope sAddItem) (by decide +kernel))
          (fun _ _ _ _ _ => pg_tup rfl (pgs_cons (pg_name (i := 3) scAddItem.nd rfl (Or.inl rfl)) (pgs_cons (pg_name (i := 4) scAddItem.nd rfl (Or.inl rfl)) pgs_nil))) (fun _ _ _ _ _ => pts_nil)
          (fun _ _ _ _ _ => pe_ifExp (pt_cmpR op_eq (pv 4) pe_str (nomark _)) (pv 3) (pe_un un_neg (pv 3)))) pa_nil))))), ?_⟩
    have hno := hH.notin
    obtain ⟨⟨dx, h1⟩, nd, hw, vm, vn, vr, vg, e1, r1, e2, r2, e3, r3, e4, r4, no⟩ := hH
    obtain ⟨n1, n2, n3, n4⟩ := nd5 nd
    obtain ⟨i1, i2, i3, i4, i5⟩ := in5 x
    have a3 : x.a ≠ x.ns := off i3 hno
    have a4 : x.a ≠ x.rs := off i4 hno
    have l2 := r2.len
    have l3 := r3.len
    have l4 := r4.len
    rw [List.length_map] at l2 l3
    have l4' : vg.length = s.items.length := by rw [l4]; exact List.length_map ..
    refine ⟨_, rfl, x.a, C, dx, _, _, rfl, h1, cl, N.nN, hF_ns x, .inl ⟨rfl, _, SqL.of e2⟩, _, rfl, x.ns, _, _, rfl, rfl, e2, small_line (by omega), ?_⟩
    refine ⟨_, rfl, x.a, C, dx, _, _, rfl, by rw [upd_ne a3]; exact h1, cl, N.nR, hF_rs x, .inl ⟨rfl, _, SqL.of (by rw [upd_ne (Ne.symm n3.1)]; exact e3)⟩, _, rfl, x.rs, _, _, rfl, rfl, by rw [upd_ne (Ne.symm n3.1)]; exact e3, small_line (by omega), ?_⟩
    -- the heap behind the two stores
    have keep0 : ∀ (c : Addr) (o : HO), c ≠ x.ns → c ≠ x.rs → H c = some o → upd (upd H x.ns (.lst (vn ++ [V.ref nm]))) x.rs (.lst (vr ++ [V.ref rw_])) c = some o := fun c o h h' e => by
      rw [upd_ne h', upd_ne h]
      exact e
    have hns1 : upd (upd H x.ns (.lst (vn ++ [V.ref nm]))) x.rs (.lst (vr ++ [V.ref rw_])) x.ns = some (.lst (vn ++ [V.ref nm])) := by rw [upd_ne n3.1, upd_same]
    have hrs1 : upd (upd H x.ns (.lst (vn ++ [V.ref nm]))) x.rs (.lst (vr ++ [V.ref rw_])) x.rs = some (.lst (vr ++ [V.ref rw_])) := upd_same
    revert keep0 hns1 hrs1
    generalize upd (upd H x.ns (.lst (vn ++ [V.ref nm]))) x.rs (.lst (vr ++ [V.ref rw_])) = H1
    intro keep0 hns1 hrs1
    have k1 : ∀ (c : Addr) (o : HO), c ∉ x.ls → H c = some o → H1 c = some o := fun c o hc e => keep0 c o (off i3 hc) (off i4 hc) e
    have hw1 := keep0 _ _ n2.1 n2.2.1 hw
    have hg1 := keep0 _ _ (Ne.symm n3.2) (Ne.symm n4) e4
    have hm1 := keep0 _ _ n1.2.1 n1.2.2.1 e1
    have hrow1 := k1 _ _ (not_av nr) hrw
    refine ⟨_, rfl, x.a, C, dx, _, _, rfl, k1 _ _ hno h1, cl, N.nG, hF_gs x, .inl ⟨rfl, _, SqL.of hg1⟩, ?_⟩
    refine ⟨_, rfl, _, rfl, x.a, C, dx, _, _, rfl, k1 _ _ hno h1, cl, N.nW, hF_ws x, rw_, x.ws, _, _, rfl, SqL.of hrow1, SqL.of hw1, fun D hD => ?_⟩
    have toD : Same H1 (upd H1 D (.lst [])) := fun b o e => by
      rw [upd_ne (ne_of_none e hD)]
      exact e
    refine lc_it (walk_zip (n := l.length) (by rw [List.length_map, List.length_map]; omega)) (fun i H' => Same H1 H' ∧ H' D = some (.lst (((Vaskya.goodOf s.ms l).take i).map V.int))) ⟨toD, upd_same⟩
      (fun i H' _ h => ⟨h.1.seq (SqL.of hrow1), h.1.seq (SqL.of hw1)⟩) ?_ ?_
    · rintro i y H2 H3 hi2 ⟨sm, hD2⟩ ⟨tp, u, v, rfl, htp, rfl, hu, hv⟩
      replace hu : (l.map V.int)[i]? = some u := hu
      replace hv : (s.ms.map fun m => V.str (way m.up))[i]? = some v := hv
      obtain ⟨z, hz, rfl⟩ : ∃ z, l[i]? = some z ∧ u = V.int z := by
        rw [List.getElem?_map] at hu
        cases e : l[i]? with
        | none => rw [e] at hu; cases hu
        | some z => rw [e] at hu; exact ⟨z, rfl, (Option.some.inj hu).symm⟩
      obtain ⟨m, hm, rfl⟩ : ∃ m, s.ms[i]? = some m ∧ v = V.str (way m.up) := by
        rw [List.getElem?_map] at hv
        cases e : s.ms[i]? with
        | none => rw [e] at hv; cases hv
        | some m => rw [e] at hv; exact ⟨m, rfl, (Option.some.inj hv).symm⟩
      have nDt : D ≠ tp := fun q => by rw [q, htp] at hD2; cases hD2
      have sm3 : Same H1 (upd H2 tp (.tup [V.int z, V.str (way m.up)])) := fun b o e => by
        rw [upd_ne (ne_of_none (sm b o e) htp)]
        exact sm b o e
      refine ⟨tp, _, rfl, SqT.of upd_same, rfl, _, _, rfl, _, _, rfl, rfl, rfl, ?_⟩
      refine ⟨_, rfl, rfl, _, rfl, ?_⟩
      have fin : ∀ y : Int, y = (if m.up = true then z else -z) → ∃ acc, upd H2 tp (.tup [V.int z, V.str (way m.up)]) D = some (.lst acc) ∧ acc.length < sizeLine ∧
          (Same H1 (upd (upd H2 tp (.tup [V.int z, V.str (way m.up)])) D (.lst (acc ++ [V.int y]))) ∧ upd (upd H2 tp (.tup [V.int z, V.str (way m.up)])) D (.lst (acc ++ [V.int y])) D = some (.lst (((Vaskya.goodOf s.ms l).take (i + 1)).map V.int))) := fun y hy => by
        refine ⟨_, by rw [upd_ne nDt]; exact hD2, ?_, fun b o e => ?_, ?_⟩
        · rw [List.length_map, List.length_take]
          exact small_line (by omega)
        · rw [upd_ne (ne_of_none e hD)]
          exact sm3 b o e
        · rw [upd_same, good_take s.ms l hm hz, hy, List.map_append]
          rfl
      rw [way_up]
      refine ite2 (fun c => ?_) (fun c => ?_)
      · exact ⟨_, rfl, fin z (by rw [if_pos c])⟩
      · exact ⟨_, rfl, _, rfl, fin (-z) (by rw [if_neg c])⟩
    · rintro H2 ⟨sm, hD2⟩
      have hlen : (Vaskya.goodOf s.ms l).length = l.length := by
        unfold Vaskya.goodOf
        rw [List.length_map, List.length_zip]
        omega
      rw [List.take_of_length_le (by omega)] at hD2
      have hg2 := sm _ _ hg1
      refine ⟨x.gs, _, _, rfl, rfl, hg2, small_line (by omega), ?_⟩
      have nDg : D ≠ x.gs := fun q => by rw [q, hg1] at hD; cases hD
      have keep : ∀ (c : Addr) (o : HO), c ∉ x.ls → H c = some o → upd H2 x.gs (.lst (vg ++ [V.ref D])) c = some o := fun c o hc e => by
        rw [upd_ne (off i5 hc)]
        exact sm _ _ (k1 c o hc e)
      have kp : ∀ {vs : List V}, (∀ b ∈ x.ls, V.ref b ∉ vs) → ∀ a o, V.ref a ∈ vs → H a = some o → upd H2 x.gs (.lst (vg ++ [V.ref D])) a = some o := fun {vs} h a o ha e => keep a o (fun z => h a z ha) e
      have hrows : Vaskya.rows ⟨s.ms, s.items ++ [⟨b, l⟩]⟩ = Vaskya.rows s ++ [Vaskya.goodOf s.ms l] := by
        unfold Vaskya.rows
        rw [List.map_append]
        rfl
      have mem_app : ∀ {vs : List V} {c d : Addr}, V.ref c ∉ vs → c ≠ d → V.ref c ∉ vs ++ [V.ref d] := fun {vs c d} h1 h2 z => by
        rcases List.mem_append.mp z with z | z
        · exact h1 z
        · exact h2 (V.ref.inj (List.mem_singleton.mp z))
      refine k _ ⟨⟨dx, keep _ _ hno h1⟩, nd, ?_, vm, vn ++ [V.ref nm], vr ++ [V.ref rw_], vg ++ [V.ref D], ?_, r1.keep (kp fun b hb => (no b (av_ls hb)).1), ?_, ?_, ?_, ?_, upd_same, ?_, fun b hb => ⟨(no b hb).1, mem_app (no b hb).2.1 (fun z => nn (z ▸ hb)), mem_app (no b hb).2.2.1 (fun z => nr (z ▸ hb)), mem_app (no b hb).2.2.2 (fun z => ?_)⟩⟩ (fun c o e hc => keep c o hc e)
      · rw [upd_ne n2.2.2]
        exact sm _ _ hw1
      · rw [upd_ne n1.2.2.2]
        exact sm _ _ hm1
      · rw [upd_ne n3.2]
        exact sm _ _ hns1
      · rw [List.map_append]
        exact (r2.keep (kp fun b hb => (no b (av_ls hb)).2.1)).snoc (by rw [← vb_bi]; exact keep _ _ (not_av nn) hnm)
      · rw [upd_ne n4]
        exact sm _ _ hrs1
      · rw [List.map_append]
        exact (r3.keep (kp fun b hb => (no b (av_ls hb)).2.2.1)).snoc (keep _ _ (not_av nr) hrw)
      · rw [hrows]
        exact (r4.keep (kp fun b hb => (no b (av_ls hb)).2.2.2)).snoc (by rw [upd_ne nDg]; exact hD2)
      · -- D is none of the five, none of the old ones
        subst z
        rcases List.mem_append.mp hb with hb | hb
        · simp only [HA.ls, List.mem_cons, List.not_mem_nil, or_false] at hb
          rcases hb with z | z | z | z | z
          · rw [z, hm1] at hD; cases hD
          · rw [z, hw1] at hD; cases hD
          · rw [z, hns1] at hD; cases hD
          · rw [z, hrs1] at hD; cases hD
          · exact nDg z
        · have h0 := hold b hb
          cases e : H b with
          | none => exact h0 e
          | some o =>
            have e1 := keep0 b o (fun z => by rw [z, hns1] at hD; cases hD) (fun z => by rw [z, hrs1] at hD; cases hD) e
            rw [hD] at e1
            cases e1
end
end Fm

/-! TokenReader; refuse_too_many, refuse_name_twice, value_of. -/
namespace Fm
open PySem PySem.Spec PyProof.Rows L2
open Vaskya (Measure Item Sheet)
abbrev sRdInit : Stmt := inClass (top 38) 0
abbrev sTake : Stmt := inClass (top 38) 1
abbrev sTooMany : Stmt := top 39
abbrev sTwice : Stmt := top 40
abbrev sValueOf : Stmt := top 41

theorem hu65 {k : Nat} {A : Around} (hr : Room k A) : A.units + 65 < cLine := by
  have := hr.un
  omega
theorem TokAt.keep {C C' dx r : Addr} {H H' : Hp} {a s : Addr} {t : MTok} {fs : List (Str × V)} (h : TokAt C H a s t) (hr : H r = some (.ins C' dx fs)) (hf : fs.lookup ("kind" : Str) = none) (m : But [r] H H') : TokAt C H' a s t ∧ a ≠ r ∧ s ≠ r := by
  obtain ⟨⟨dx', h1⟩, h2⟩ := h
  have n1 : a ≠ r := fun z => by
    rw [z, hr] at h1
    have e := Option.some.inj h1
    injection e with _ _ e3
    rw [e3] at hf
    rw [tF_kind] at hf
    cases hf
  have n2 : s ≠ r := fun z => by
    rw [z, hr] at h2
    cases h2
  exact ⟨⟨⟨dx', m _ _ h1 (by simpa using n1)⟩, m _ _ h2 (by simpa using n2)⟩, n1, n2⟩
theorem TokL.keep {C C' dx r : Addr} {H H' : Hp} {L : List Addr} {vs : List V} {ts : List MTok} {fs : List (Str × V)} (h : TokL C H L vs ts) (hr : H r = some (.ins C' dx fs)) (hf : fs.lookup ("kind" : Str) = none) (m : But [r] H H') : TokL C H' L vs ts := by
  induction h with
  | nil => exact .nil
  | cons q h1 h2 _ ih => exact .cons (q.keep hr hf m).1 h1 h2 ih
theorem Toks.keep {C C' dx r : Addr} {H H' : Hp} {T : Addr} {L : List Addr} {ts : List MTok} {fs : List (Str × V)} (h : Toks C H T L ts) (hr : H r = some (.ins C' dx fs)) (hf : fs.lookup ("kind" : Str) = none) (m : But [r] H H') : Toks C H' T L ts := by
  obtain ⟨vs, h1, h0, h2⟩ := h
  have n : T ≠ r := fun z => by
    rw [z, hr] at h1
    cases h1
  exact ⟨vs, m _ _ h1 (by simpa using n), h0, h2.keep hr hf m⟩
theorem Toks.but {C : Addr} {H H' : Hp} {T : Addr} {L : List Addr} {ts : List MTok} (h : Toks C H T L ts) (m : But L H H') : Toks C H' T L ts := by
  obtain ⟨vs, h1, h0, h2⟩ := h
  exact ⟨vs, m _ _ h1 h0, h0, h2.mono fun b o n e => m b o e n⟩
theorem Toks.same {C : Addr} {H H' : Hp} {T : Addr} {L : List Addr} {ts : List MTok} (h : Toks C H T L ts) (m : Same H H') : Toks C H' T L ts := h.but (But.of m)

def rF (T : Addr) (i : Nat) : List (Str × V) := [("tokens", .ref T), ("at", .int i)]
theorem rF_T (T : Addr) (i : Nat) : (rF T i).lookup ("tokens" : Str) = some (.ref T) := lk_here
theorem rF_at (T : Addr) (i : Nat) : (rF T i).lookup ("at" : Str) = some (.int i) := (lk_past (by decide +kernel)).trans lk_here
theorem rF_kind (T : Addr) (i : Nat) : (rF T i).lookup ("kind" : Str) = none := (lk_past (by decide +kernel)).trans ((lk_past (by decide +kernel)).trans rfl)
theorem rF_take (T : Addr) (i : Nat) : (rF T i).lookup ("take" : Str) = none := (lk_past (by decide +kernel)).trans ((lk_past (by decide +kernel)).trans rfl)
/-- a reader at r: the tokens at T, of which rest is still to come -/
structure RdAt (CT CR : Addr) (H : Hp) (r T : Addr) (L : List Addr) (ts rest : List MTok) : Prop where
  ex : ∃ (i : Nat) (dx : Addr), ts.drop i = rest ∧ i ≤ ts.length ∧ H r = some (.ins CR dx (rF T i))
  toks : Toks CT H T L ts
  off : r ∉ L
theorem RdAt.but {CT CR : Addr} {H H' : Hp} {r T : Addr} {L : List Addr} {ts rest : List MTok} (h : RdAt CT CR H r T L ts rest) (m : But L H H') : RdAt CT CR H' r T L ts rest := by
  obtain ⟨⟨i, dx, h1, h2, h3⟩, h4, h5⟩ := h
  exact ⟨⟨i, dx, h1, h2, m _ _ h3 h5⟩, h4.but m, h5⟩
theorem RdAt.same {CT CR : Addr} {H H' : Hp} {r T : Addr} {L : List Addr} {ts rest : List MTok} (h : RdAt CT CR H r T L ts rest) (m : Same H H') : RdAt CT CR H' r T L ts rest := h.but (But.of m)
theorem RdAt.kind {CT CR : Addr} {H : Hp} {r T : Addr} {L : List Addr} {ts rest : List MTok} (h : RdAt CT CR H r T L ts rest) : ∃ dx fs, H r = some (.ins CR dx fs) ∧ fs.lookup ("kind" : Str) = none ∧ fs.lookup ("take" : Str) = none := by
  obtain ⟨⟨i, dx, h1, h2, h3⟩, h4, _⟩ := h
  exact ⟨dx, _, h3, rF_kind T i, rF_take T i⟩
theorem RdAt.mem {CT CR : Addr} {H : Hp} {r T : Addr} {L : List Addr} {ts rest : List MTok} (h : RdAt CT CR H r T L ts rest) : ∀ t ∈ rest, t ∈ ts := by
  obtain ⟨⟨i, dx, h1, h2, h3⟩, h4, _⟩ := h
  intro t ht
  rw [← h1] at ht
  exact List.mem_of_mem_drop ht
/-- what the top has written of TokenReader -/
structure RdT (K : PySem.W.Frag) (C : Addr) : Prop where
  nT : NoAttr K C "tokens"
  nA : NoAttr K C "at"
def spRdInit (C : Addr) : Sp := fun vs H Q _ => ∃ (p dx T : Addr), vs = [.ref p, .ref T] ∧ H p = some (.ins C dx []) ∧ Q .non (upd H p (.ins C dx (rF T 0)))
/-- the next token, of one of these kinds -/
def spTake (K : PySem.W.Frag) (CT CR CF : Addr) : Sp := fun vs H Q E => ∃ (r T kd : Addr) (L : List Addr) (ts rest : List MTok) (kinds : List Kd), vs = [.ref r, .ref kd] ∧ RdAt CT CR H r T L ts rest ∧ rest ≠ [] ∧ SqT K H kd (kinds.map fun k => V.str (ks k)) ∧
  (∀ t rest', mtake kinds rest = .ok (t, rest') → ∀ H' a s, RdAt CT CR H' r T L ts rest' → But [r] H H' → TokAt CT H' a s t → a ∉ L → s ∉ L → Q (.ref a) H') ∧
  (∀ f : VaskyBase.Fault, mtake kinds rest = .error f → ∀ H' d, Same H H' → H' d = some (.xd (ff f.code f.place)) → E (.ref CF) (some d) H')
theorem inV_kinds (k : Kd) : ∀ kinds : List Kd, inV (V.str (ks k)) (kinds.map fun k => V.str (ks k)) = decide (k ∈ kinds)
  | [] => rfl
  | c :: r => by
    have ih := inV_kinds k r
    unfold inV at ih ⊢
    rw [List.map_cons, List.any_cons, ih]
    show ((ks c == ks k) || _) = _
    by_cases h : k = c
    · rw [decide_eq_true (show k ∈ c :: r by rw [h]; exact List.mem_cons_self), h, beq_self_eq_true]
      rfl
    · have e : (ks c == ks k) = false := beq_eq_false_iff_ne.mpr fun z => h (ks_inj z).symm
      rw [e, Bool.false_or]
      apply decide_eq_decide.mpr
      simp [h]
theorem flat_kinds : ∀ kinds : List Kd, (kinds.map fun k => V.str (ks k)).all flatV = true
  | [] => rfl
  | c :: r => by
    rw [List.map_cons, List.all_cons, flat_kinds r]
    rfl
section
variable {P : Program} {w : World} {K : PySem.W.Frag} {mg : Str → Option Value} {base : Heap}
theorem scRdInit : FnScope ["self", "tokens"] ["self", "tokens"] (defScope sRdInit) := ⟨rfl, rfl, rfl, by decide +kernel, rfl, by decide +kernel, by decide +kernel⟩
abbrev RdC (K : PySem.W.Frag) (mg : Str → Option Value) := ClsT K mg "TokenReader" "TokenReader.__init__" sRdInit ["self", "tokens"]
theorem ok_rdInit (R : RdC K mg) (N : RdT K R.C) : FnOk P w K mg base CX0 1 R.f R.fd ["self", "tokens"] (spRdInit R.C) := by
  refine R.F.ok scRdInit (fun vs H Q E h => ?_) (fun cdv A outer s H vs Q E hr h => ?_)
  · obtain ⟨p, dx, T, rfl, _⟩ := h
    rfl
  · obtain ⟨p, dx, T, rfl, hp, q⟩ := h
    refine ⟨_, pss_cons (ps_fld (pv 0) (pv 1) rfl) (pss_one (ps_fld (pv 0) pe_int rfl)), ?_⟩
    refine ⟨_, rfl, _, rfl, p, R.C, dx, [], rfl, hp, R.cl, N.nT, (by show 0 < 1000; decide), ?_⟩
    refine ⟨_, rfl, p, R.C, dx, _, rfl, upd_same, R.cl, N.nA, (by show 1 < 1000; decide), ?_⟩
    rw [upd_upd]
    have e : putF "at" (V.int 0) (putF "tokens" (V.ref T) []) = rF T 0 := by
      show putF "at" (V.int 0) ([("tokens", V.ref T)] : List (Str × V)) = _
      rw [put_past (by decide +kernel)]
      rfl
    rw [e]
    exact q
theorem scTake : FnScope ["self", "kinds", "token"] ["self", "kinds"] (defScope sTake) := ⟨rfl, rfl, rfl, by decide +kernel, rfl, by decide +kernel, by decide +kernel⟩
/-- what every def that may raise a fault leans on -/
structure FltT (K : PySem.W.Frag) (mg : Str → Option Value) where
  C : Addr
  f : Addr
  fd : FuncData
  T : FaultT K mg C f
  F : Fun K "__init__" "Fault.__init__" sFaultInit f fd
  b : Binds K fd ["self", "number", "place"] []
theorem ok_take {CR : Addr} (M : MethT K CR "take" "TokenReader.take" sTake ["self", "kinds"]) (cR : Cls K CR) (NR : RdT K CR) (T : TokC K mg) (N : TokT K T.C) (FT : FltT K mg) (gA : GI mg "NOT_ALLOWED" 3) :
    FnOk P w K mg base (L2.CX P w) 3 M.f M.fd ["self", "kinds"] (spTake K T.C CR FT.C) := by
  refine M.F.okX scTake (fun vs H Q E h => ?_) (fun cdv A outer s H vs Q E hr h => ?_)
  · obtain ⟨r, T, kd, L, ts, rest, kinds, rfl, _⟩ := h
    rfl
  · obtain ⟨r, tl, kd, L, ts, rest, kinds, rfl, hR, hne, hkd, kS, kF⟩ := h
    refine ⟨_, pss_cons (ps_set (i := 2) scTake.nd rfl (Or.inl rfl) (pe_ix ix_list (pe_fld (pv 0) rfl) (pe_fld (pv 0) rfl) (fun _ _ => rfl)))
      (pss_cons (ps_if (pt_cmpR op_notIn_seq (pe_fld (pv 2) rfl) (pv 1) rfl)
        (pss_one (ps_fault FT.F FT.T FT.b hr (takes_of rfl rfl rfl rfl) (pa_cons (pe_gi gA) (pa_cons (pe_fld (pv 2) rfl) pa_nil)))) pss_nil)
      (pss_cons (ps_fldaug (pv 0) pe_int in_add)
      (pss_one (ps_ret (pv 2))))), ?_⟩
    obtain ⟨⟨i, dx, hd, hi, hr0⟩, ⟨vs, htl, h0, hT⟩, hrL⟩ := hR
    cases hrest : rest with
    | nil => exact absurd hrest hne
    | cons t rest' =>
      have hlt : i < ts.length := by
        have := congrArg List.length hd
        rw [List.length_drop, hrest, List.length_cons] at this
        omega
      have hti : ts[i]? = some t := by
        rw [hrest] at hd
        have e := List.drop_eq_getElem_cons hlt
        rw [hd] at e
        rw [List.getElem?_eq_getElem hlt]
        exact congrArg some (List.cons.inj e).1.symm
      have hdr : ts.drop (i + 1) = rest' := by
        rw [hrest] at hd
        have e := List.drop_eq_getElem_cons hlt
        rw [hd] at e
        exact (List.cons.inj e).2.symm
      obtain ⟨a, sp, hva, htok, aL, sL⟩ := hT.get hti
      have htok' := htok
      obtain ⟨⟨dxa, h1⟩, h2⟩ := htok
      refine ⟨_, rfl, r, CR, dx, _, _, rfl, hr0, cR, NR.nT, rF_T tl i, _, rfl, r, CR, dx, _, _, rfl, hr0, cR, NR.nA, rF_at tl i, tl, _, _, _, rfl, rfl, SqL.of htl, atI_nat hva, ?_⟩
      refine ⟨_, rfl, a, T.C, dxa, _, _, rfl, h1, T.cl, N.nK, tF_kind t sp, _, rfl, kd, _, rfl, .inr hkd, rfl, flat_kinds kinds, _, rfl, ?_⟩
      show if (!inV (V.str (ks t.kind)) (kinds.map fun k => V.str (ks k))) = true then _ else _
      rw [inV_kinds]
      have hm : mtake kinds rest = if t.kind ∈ kinds then .ok (t, rest') else .error ⟨3, t.place⟩ := by
        rw [hrest]
        rfl
      by_cases c : t.kind ∈ kinds
      · rw [decide_eq_true c]
        refine iteF ?_
        rw [if_pos c] at hm
        refine ⟨_, rfl, r, CR, dx, _, _, rfl, hr0, cR, NR.nA, rF_at tl i, _, _, rfl, rfl, dx, _, hr0, (by show 2 < 1000; decide), ?_⟩
        have e : putF "at" (V.int ((i : Int) + 1)) (rF tl i) = rF tl (i + 1) := by
          unfold rF
          rw [put_past (by decide +kernel), put_here]
          rfl
        rw [e]
        have bt : But [r] H (upd H r (.ins CR dx (rF tl (i + 1)))) := fun b o q n => by
          rw [upd_ne (by simpa using n)]
          exact q
        refine ⟨_, rfl, kS t rest' hm _ a sp ⟨⟨i + 1, dx, hdr, hlt, upd_same⟩, Toks.keep ⟨vs, htl, h0, hT⟩ hr0 (rF_kind tl i) bt, hrL⟩ bt (htok'.keep hr0 (rF_kind tl i) bt).1 aL sL⟩
      · rw [decide_eq_false c]
        refine iteT ?_
        rw [if_neg c] at hm
        refine ⟨_, rfl, a, T.C, dxa, _, _, rfl, h1, T.cl, N.nP, tF_place t sp, ?_⟩
        refine mkf fun d hd => kF _ hm _ d (fun b o q => ?_) upd_same
        rw [upd_ne (ne_of_none q hd)]
        exact q

/-! ### the refusals -/
def spTooMany (K : PySem.W.Frag) (CT CF : Addr) : Sp := fun vs H Q E => ∃ (a s e : Addr) (t : MTok) (xs : List V) (m : Nat), vs = [.ref a, .ref e, .int m] ∧ TokAt CT H a s t ∧ SqL K H e xs ∧
  (xs.length ≠ m → Q .non H) ∧ (xs.length = m → ∀ H' d, Same H H' → H' d = some (.xd (ff 4 t.place)) → E (.ref CF) (some d) H')
theorem scTooMany : FnScope ["token", "earlier", "most"] ["token", "earlier", "most"] (defScope sTooMany) := ⟨rfl, rfl, rfl, by decide +kernel, rfl, by decide +kernel, by decide +kernel⟩
theorem ok_tooMany (D : DefT K mg "refuse_too_many" sTooMany ["token", "earlier", "most"]) (T : TokC K mg) (N : TokT K T.C) (FT : FltT K mg) (gl : mg "len" = none) (gM : GI mg "TOO_MANY" 4) :
    FnOk P w K mg base (L2.CX P w) 3 D.f D.fd ["token", "earlier", "most"] (spTooMany K T.C FT.C) := by
  refine D.F.okX scTooMany (fun vs H Q E h => ?_) (fun cdv A outer s H vs Q E hr h => ?_)
  · obtain ⟨a, s, e, t, xs, m, rfl, _⟩ := h
    rfl
  · obtain ⟨a, s, e, t, xs, m, rfl, ⟨⟨dx, h1⟩, h2⟩, hx, kS, kF⟩ := h
    refine ⟨_, pss_one (ps_if (pt_cmpR op_eq (pe_callB call_len_seq (by rfl) gl PySem.boot_len (pa_cons (pv 1) pa_nil)) (pv 2) (nomark _))
      (pss_one (ps_fault FT.F FT.T FT.b hr (takes_of rfl rfl rfl rfl) (pa_cons (pe_gi gM) (pa_cons (pe_fld (pv 0) rfl) pa_nil)))) pss_nil), ?_⟩
    refine ⟨_, rfl, e, _, rfl, .inl hx, _, rfl, rfl, _, rfl, ?_⟩
    refine ite2 (fun c => ?_) (fun c => ?_)
    · have ce : xs.length = m := by
        have := V.int.inj (of_decide_eq_true c)
        omega
      refine ⟨_, rfl, a, T.C, dx, _, _, rfl, h1, T.cl, N.nP, tF_place t s, ?_⟩
      refine mkf fun d hd => kF ce _ d (fun b o q => ?_) upd_same
      rw [upd_ne (ne_of_none q hd)]
      exact q
    · exact kS fun z => c (decide_eq_true (by rw [z]))
def spTwice (K : PySem.W.Frag) (CT CF : Addr) : Sp := fun vs H Q E => ∃ (a s e : Addr) (t : MTok) (vn : List V) (ls : List VaskyBase.Bytes), vs = [.ref a, .ref e] ∧ TokAt CT H a s t ∧ H e = some (.lst vn) ∧ RL H vn (ls.map bi) ∧
  (ls.any (fun l => l == t.sp) = false → Q .non H) ∧ (ls.any (fun l => l == t.sp) = true → ∀ H' d, Same H H' → H' d = some (.xd (ff 5 t.place)) → E (.ref CF) (some d) H')
theorem scTwice : FnScope ["token", "earlier"] ["token", "earlier"] (defScope sTwice) := ⟨rfl, rfl, rfl, by decide +kernel, rfl, by decide +kernel, by decide +kernel⟩
theorem any_dI (m : VaskyBase.Bytes) : ∀ ls : List VaskyBase.Bytes, ((ls.map bi).map dI).any (fun z => PyData.eqv z (dI (bi m))) = ls.any fun l => l == m
  | [] => rfl
  | l :: r => by
    rw [List.map_cons, List.map_cons, List.any_cons, List.any_cons, any_dI m r, dI_eqv]
    congr 1
    by_cases h : l = m
    · rw [h, beq_self_eq_true]
      exact decide_eq_true rfl
    · rw [beq_eq_false_iff_ne.mpr h]
      exact decide_eq_false fun z => h (bi_inj z)
theorem ok_twice (D : DefT K mg "refuse_name_twice" sTwice ["token", "earlier"]) (T : TokC K mg) (N : TokT K T.C) (FT : FltT K mg) (gM : GI mg "NAME_TWICE" 5) :
    FnOk P w K mg base (L2.CX P w) 3 D.f D.fd ["token", "earlier"] (spTwice K T.C FT.C) := by
  refine D.F.okX scTwice (fun vs H Q E h => ?_) (fun cdv A outer s H vs Q E hr h => ?_)
  · obtain ⟨a, s, e, t, vn, ls, rfl, _⟩ := h
    rfl
  · obtain ⟨a, s, e, t, vn, ls, rfl, ⟨⟨dx, h1⟩, h2⟩, hx, hrl, kS, kF⟩ := h
    refine ⟨_, pss_one (ps_if (pt_cmpR (op_inD (hu65 hr)) (pe_fld (pv 0) rfl) (pv 1) rfl)
      (pss_one (ps_fault FT.F FT.T FT.b hr (takes_of rfl rfl rfl rfl) (pa_cons (pe_gi gM) (pa_cons (pe_fld (pv 0) rfl) pa_nil)))) pss_nil), ?_⟩
    refine ⟨_, rfl, a, T.C, dx, _, _, rfl, h1, T.cl, N.nS, tF_sp t s, _, rfl, dI (bi t.sp), (ls.map bi).map dI, dI_dp (SqL.of (by rw [← vb_bi]; exact h2)), hrl.rows.dp (SqL.of hx), dI_shaped _, dII_shaped _, _, rfl, ?_⟩
    rw [any_dI]
    refine ite2 (fun c => ?_) (fun c => ?_)
    · refine ⟨_, rfl, a, T.C, dx, _, _, rfl, h1, T.cl, N.nP, tF_place t s, ?_⟩
      refine mkf fun d hd => kF c _ d (fun b o q => ?_) upd_same
      rw [upd_ne (ne_of_none q hd)]
      exact q
    · exact kS (eq_false_of_ne_true c)

/-! ### value_of -/
def DigOk (t : MTok) : Prop := (∀ b ∈ t.sp, VaskyBase.isDigit b = true) ∧ t.sp.length ≤ 10000
def spValueOf (CT CF : Addr) : Sp := fun vs H Q E => ∃ (a s : Addr) (t : MTok), vs = [.ref a] ∧ TokAt CT H a s t ∧ DigOk t ∧
  (∀ v, mvalueOf t = .ok v → Q (.int v) H) ∧ (∀ f : VaskyBase.Fault, mvalueOf t = .error f → ∀ H' d, Same H H' → H' d = some (.xd (ff f.code f.place)) → E (.ref CF) (some d) H')
theorem scValueOf : FnScope ["token", "value"] ["token"] (defScope sValueOf) := ⟨rfl, rfl, rfl, by decide +kernel, rfl, by decide +kernel, by decide +kernel⟩
theorem ok_valueOf (D : DefT K mg "value_of" sValueOf ["token"]) (T : TokC K mg) (N : TokT K T.C) (FT : FltT K mg) (FA : DefT K mg "amount" sAmount ["digits"]) (gZ : GI mg "ZERO" 48) (gG : GI mg "GREATEST_VALUE" 1000) (gT : GI mg "TOO_GREAT" 7) :
    FnOk P w K mg base (L2.CX P w) 3 D.f D.fd ["token"] (spValueOf T.C FT.C) := by
  refine D.F.okX scValueOf (fun vs H Q E h => ?_) (fun cdv A outer s H vs Q E hr h => ?_)
  · obtain ⟨a, s, t, rfl, _⟩ := h
    rfl
  · obtain ⟨a, s, t, rfl, ⟨⟨dx, h1⟩, h2⟩, hdg, kS, kF⟩ := h
    have hr1 : Room 1 _ := hr.mono (by decide)
    refine ⟨_, pss_cons (ps_set (i := 1) scValueOf.nd rfl (Or.inl rfl) (pe_def FA (ok_amount FA.F gZ) hr1 (pa_cons (pe_fld (pv 0) rfl) pa_nil)))
      (pss_cons (ps_if (pt_cmpR op_gt (pv 1) (pe_gi gG) (nomark _))
        (pss_one (ps_fault FT.F FT.T FT.b hr (takes_of rfl rfl rfl rfl) (pa_cons (pe_gi gT) (pa_cons (pe_fld (pv 0) rfl) pa_nil)))) pss_nil)
      (pss_one (ps_ret (pv 1)))), ?_⟩
    refine ⟨_, rfl, a, T.C, dx, _, _, rfl, h1, T.cl, N.nS, tF_sp t s, s, t.sp, rfl, SqL.of h2, hdg.2, hdg.1, ?_⟩
    refine ⟨_, rfl, _, _, rfl, rfl, _, rfl, ?_⟩
    have hm : mvalueOf t = if 1000 < VaskyBase.decimal t.sp then .error ⟨7, t.place⟩ else .ok (VaskyBase.decimal t.sp : Int) := rfl
    refine ite2 (fun c => ?_) (fun c => ?_)
    · have hb : 1000 < VaskyBase.decimal t.sp := by
        have := of_decide_eq_true c
        omega
      rw [if_pos hb] at hm
      refine ⟨_, rfl, a, T.C, dx, _, _, rfl, h1, T.cl, N.nP, tF_place t s, ?_⟩
      refine mkf fun d hd => kF _ hm _ d (fun b o q => ?_) upd_same
      rw [upd_ne (ne_of_none q hd)]
      exact q
    · have hb : ¬ 1000 < VaskyBase.decimal t.sp := fun z => c (decide_eq_true (by omega))
      rw [if_neg hb] at hm
      exact ⟨_, rfl, kS _ hm⟩
end
end Fm

/-! read_value, read_row. -/
namespace Fm
open PySem PySem.Spec PyProof.Rows L2
open Vaskya (Measure Item Sheet)
abbrev sReadValue : Stmt := top 42
abbrev sReadRow : Stmt := top 43
/-- the numbers among the tokens are digits -/
def Digs (ts : List MTok) : Prop := ∀ t ∈ ts, t.kind = .number → DigOk t
/-- what is asked of a reader, by every def that goes on with it -/
structure Rdy (CT CR : Addr) (H : Hp) (r T : Addr) (L : List Addr) (ts rest : List MTok) : Prop where
  at_ : RdAt CT CR H r T L ts rest
  good : Good rest
  digs : Digs ts
theorem Rdy.same {CT CR : Addr} {H H' : Hp} {r T : Addr} {L : List Addr} {ts rest : List MTok} (h : Rdy CT CR H r T L ts rest) (m : Same H H') : Rdy CT CR H' r T L ts rest := ⟨h.at_.same m, h.good, h.digs⟩
theorem Rdy.but {CT CR : Addr} {H H' : Hp} {r T : Addr} {L : List Addr} {ts rest : List MTok} (h : Rdy CT CR H r T L ts rest) (m : But L H H') : Rdy CT CR H' r T L ts rest := ⟨h.at_.but m, h.good, h.digs⟩
theorem TokL.more {C : Addr} {H : Hp} {L : List Addr} {vs : List V} {ts : List MTok} {p : Addr} (h : TokL C H L vs ts) (n : H p = none) : TokL C H (p :: L) vs ts := by
  induction h with
  | nil => exact .nil
  | cons q h1 h2 _ ih =>
    obtain ⟨⟨dx, e1⟩, e2⟩ := q
    refine .cons ⟨⟨dx, e1⟩, e2⟩ (fun z => ?_) (fun z => ?_) ih
    · rcases List.mem_cons.mp z with z | z
      · rw [z, n] at e1; cases e1
      · exact h1 z
    · rcases List.mem_cons.mp z with z | z
      · rw [z, n] at e2; cases e2
      · exact h2 z
theorem TokL.less {C : Addr} {H : Hp} {L L' : List Addr} {vs : List V} {ts : List MTok} (h : TokL C H L vs ts) (n : ∀ b ∈ L', b ∈ L) : TokL C H L' vs ts := by
  induction h with
  | nil => exact .nil
  | cons q h1 h2 _ ih => exact .cons q (fun z => h1 (n _ z)) (fun z => h2 (n _ z)) ih
theorem Rdy.more {CT CR : Addr} {H : Hp} {r T p : Addr} {L : List Addr} {ts rest : List MTok} (h : Rdy CT CR H r T L ts rest) (n : H p = none) : Rdy CT CR H r T (p :: L) ts rest := by
  obtain ⟨⟨⟨i, dx, h1, h2, h3⟩, ⟨vs, h4, h5, h6⟩, h7⟩, hg, hd⟩ := h
  refine ⟨⟨⟨i, dx, h1, h2, h3⟩, ⟨vs, h4, fun z => ?_, h6.more n⟩, fun z => ?_⟩, hg, hd⟩
  · rcases List.mem_cons.mp z with z | z
    · rw [z, n] at h4; cases h4
    · exact h5 z
  · rcases List.mem_cons.mp z with z | z
    · rw [z, n] at h3; cases h3
    · exact h7 z
theorem Rdy.less {CT CR : Addr} {H : Hp} {r T : Addr} {L L' : List Addr} {ts rest : List MTok} (h : Rdy CT CR H r T L ts rest) (n : ∀ b ∈ L', b ∈ L) : Rdy CT CR H r T L' ts rest := by
  obtain ⟨⟨⟨i, dx, h1, h2, h3⟩, ⟨vs, h4, h5, h6⟩, h7⟩, hg, hd⟩ := h
  exact ⟨⟨⟨i, dx, h1, h2, h3⟩, ⟨vs, h4, (fun z => h5 (n _ z)), h6.less n⟩, fun z => h7 (n _ z)⟩, hg, hd⟩
theorem good_ne {l : List MTok} (h : Good l) : l ≠ [] := fun z => by
  rw [z] at h
  exact h
theorem same_upd {H : Hp} {p : Addr} {o : HO} (h : H p = none) : Same H (upd H p o) := fun b u e => by
  rw [upd_ne (ne_of_none e h)]
  exact e
section
variable {P : Program} {w : World} {K : PySem.W.Frag} {mg : Str → Option Value} {base : Heap}
/-- what stands behind reader.take((..)): from the tuple that is made on to the promise -/
theorem take_told {CT CR CF : Addr} {H : Hp} {r T p : Addr} {L : List Addr} {ts rest : List MTok} (kinds : List Kd) {Q : VK} {E : XK} {vk : List V} (R : Rdy CT CR H r T L ts rest) (hp : H p = none) (hv : vk = kinds.map fun k => V.str (ks k))
    (kS : ∀ t rest', mtake kinds rest = .ok (t, rest') → ∀ H' a s, RdAt CT CR H' r T L ts rest' → But [r] H H' → TokAt CT H' a s t → a ∉ L → s ∉ L → Q (.ref a) H')
    (kF : ∀ f : VaskyBase.Fault, mtake kinds rest = .error f → ∀ H' d, But [r] H H' → H' d = some (.xd (ff f.code f.place)) → E (.ref CF) (some d) H') :
    spTake K CT CR CF ([.ref r, .ref p] ++ []) (upd H p (.tup vk)) Q E := by
  have sm : Same H (upd H p (.tup vk)) := same_upd hp
  exact ⟨r, T, p, L, ts, rest, kinds, rfl, R.at_.same sm, good_ne R.good, by rw [hv]; exact SqT.of upd_same,
    fun t rest' e H' a s h1 h2 h3 h4 h5 => kS t rest' e H' a s h1 ((But.of sm).trans h2) h3 h4 h5, fun f e H' d h1 h2 => kF f e H' d (But.of (sm.trans h1)) h2⟩
def spReadValue (CT CR CF : Addr) : Sp := fun vs H Q E => ∃ (r T : Addr) (L : List Addr) (ts rest : List MTok), vs = [.ref r] ∧ Rdy CT CR H r T L ts rest ∧
  (∀ v rest', mvalue rest = .ok (v, rest') → ∀ H', Rdy CT CR H' r T L ts rest' → But [r] H H' → Q (.int v) H') ∧
  (∀ f : VaskyBase.Fault, mvalue rest = .error f → ∀ H' d, But [r] H H' → H' d = some (.xd (ff f.code f.place)) → E (.ref CF) (some d) H')
theorem scReadValue : FnScope ["reader", "token"] ["reader"] (defScope sReadValue) := ⟨rfl, rfl, rfl, by decide +kernel, rfl, by decide +kernel, by decide +kernel⟩
theorem ok_readValue {CR CF : Addr} (D : DefT K mg "read_value" sReadValue ["reader"]) (M : MethT K CR "take" "TokenReader.take" sTake ["self", "kinds"]) (cR : Cls K CR) (T : TokC K mg) (N : TokT K T.C)
    (GM : FnOk P w K mg base (L2.CX P w) 3 M.f M.fd ["self", "kinds"] (spTake K T.C CR CF)) (FV : DefT K mg "value_of" sValueOf ["token"]) (GV : FnOk P w K mg base (L2.CX P w) 3 FV.f FV.fd ["token"] (spValueOf T.C CF)) (gN : GS mg "NUMBER" (ks .number)) :
    FnOk P w K mg base (L2.CX P w) 4 D.f D.fd ["reader"] (spReadValue T.C CR CF) := by
  refine D.F.okX scReadValue (fun vs H Q E h => ?_) (fun cdv A outer s H vs Q E hr h => ?_)
  · obtain ⟨r, tl, L, ts, rest, rfl, _⟩ := h
    rfl
  · obtain ⟨r, tl, L, ts, rest, rfl, R, kS, kF⟩ := h
    refine ⟨_, pss_cons (ps_set (i := 1) scReadValue.nd rfl (Or.inl rfl) (pe_meth (pv 0) cR M.m GM hr M.b .nil (passes_call (takes_of rfl rfl rfl rfl) (fun _ _ _ _ h => h)) (pa_cons (pe_tup (pa_cons pe_str (pa_cons (pe_gs gN) pa_nil))) pa_nil)))
      (pss_cons (ps_if (pt_cmpR op_eq (pe_fld (pv 1) rfl) pe_str (nomark _))
        (pss_one (ps_ret (pe_un un_neg (pe_call GV hr rfl FV.g FV.F.kp FV.b .nil (passes_call (takes_of rfl rfl rfl rfl) (fun _ _ _ _ h => h))
          (pa_cons (pe_meth (pv 0) cR M.m GM hr M.b .nil (passes_call (takes_of rfl rfl rfl rfl) (fun _ _ _ _ h => h)) (pa_cons (pe_tup (pa_cons (pe_gs gN) pa_nil)) pa_nil)) pa_nil))))) pss_nil)
      (pss_one (ps_ret (pe_call GV hr rfl FV.g FV.F.kp FV.b .nil (passes_call (takes_of rfl rfl rfl rfl) (fun _ _ _ _ h => h)) (pa_cons (pv 1) pa_nil))))), ?_⟩
    obtain ⟨dx, fs, hr0, hkind, htake⟩ := R.at_.kind
    refine ⟨_, rfl, r, dx, fs, rfl, hr0, htake, (by show 2 ≤ sizeLine; decide), fun p hp => ?_⟩
    dsimp only [tNil]
    refine take_told [.minus, .number] R hp rfl (fun t rest1 e1 H1 a s hR1 b1 htok aL sL => ?_) (fun f e1 H1 d b1 hd => kF f (by unfold mvalue; rw [e1]; rfl) H1 d b1 hd)
    have g1 := mtake_good e1 R.good (by decide)
    obtain ⟨⟨dxa, h1⟩, h2⟩ := id htok
    refine ⟨_, rfl, a, T.C, dxa, _, _, rfl, h1, T.cl, N.nK, tF_kind t s, rfl, _, rfl, ?_⟩
    have hmem : t ∈ ts := R.at_.mem t (by rw [(mtake_ok e1).1]; exact List.mem_cons_self)
    refine ite2 (fun c => ?_) (fun c => ?_)
    · have hk : t.kind = .minus := ks_inj (V.str.inj (of_decide_eq_true c))
      have R1 : Rdy T.C CR H1 r tl L ts rest1 := ⟨hR1, g1, R.digs⟩
      obtain ⟨dx1, fs1, hr1, _, htake1⟩ := hR1.kind
      refine ⟨_, rfl, r, dx1, fs1, rfl, hr1, htake1, (by show 1 ≤ sizeLine; decide), fun p2 hp2 => ?_⟩
      dsimp only [tNil]
      refine take_told [.number] R1 hp2 rfl (fun u rest2 e2 H2 a2 s2 hR2 b2 htok2 _ _ => ?_) (fun f e2 H2 d b2 hd => kF f (by unfold mvalue; rw [e1]; simp only [Except.bind]; rw [if_pos hk, e2]) H2 d (b1.trans b2) hd)
      have hku : u.kind = .number := by simpa using (mtake_ok e2).2
      have humem : u ∈ ts := hR1.mem u (by rw [(mtake_ok e2).1]; exact List.mem_cons_self)
      have R2 : Rdy T.C CR H2 r tl L ts rest2 := ⟨hR2, mtake_good e2 g1 (by decide), R.digs⟩
      refine ⟨a2, s2, u, rfl, htok2, R.digs u humem hku, fun v ev => ⟨_, rfl, ?_⟩, fun f ef H3 d s3 hd => kF f (by unfold mvalue; rw [e1]; simp only [Except.bind]; rw [if_pos hk, e2]; simp only; rw [ef]; rfl) H3 d ((b1.trans b2).trans (But.of s3)) hd⟩
      exact kS (-v) rest2 (by unfold mvalue; rw [e1]; simp only [Except.bind]; rw [if_pos hk, e2]; simp only; rw [ev]; rfl) H2 R2 (b1.trans b2)
    · have hk : ¬ t.kind = .minus := fun z => c (decide_eq_true (by rw [z]; rfl))
      have hkn : t.kind = .number := by
        have := (mtake_ok e1).2
        simp only [List.mem_cons, List.not_mem_nil, or_false] at this
        exact this.resolve_left hk
      refine ⟨_, rfl, a, s, t, rfl, htok, R.digs t hmem hkn, fun v ev => ?_, fun f ef H3 d s3 hd => kF f (by unfold mvalue; rw [e1]; simp only [Except.bind]; rw [if_neg hk, ef]; rfl) H3 d (b1.trans (But.of s3)) hd⟩
      exact kS v rest1 (by unfold mvalue; rw [e1]; simp only [Except.bind]; rw [if_neg hk, ev]; rfl) H1 ⟨hR1, g1, R.digs⟩ b1

def spReadRow (CT CR CF : Addr) : Sp := fun vs H Q E => ∃ (r T : Addr) (L : List Addr) (ts rest : List MTok) (k : Nat), vs = [.ref r, .int k] ∧ 0 < k ∧ k ≤ 1000 ∧ Rdy CT CR H r T L ts rest ∧
  (∀ l rest', mrow k rest = .ok (l, rest') → ∀ H' p, Rdy CT CR H' r T L ts rest' → But [r] H H' → H p = none → H' p = some (.lst (l.map V.int)) → Q (.ref p) H') ∧
  (∀ f : VaskyBase.Fault, mrow k rest = .error f → ∀ H' d, But [r] H H' → H' d = some (.xd (ff f.code f.place)) → E (.ref CF) (some d) H')
theorem scReadRow : FnScope ["reader", "width", "row"] ["reader", "width"] (defScope sReadRow) := ⟨rfl, rfl, rfl, by decide +kernel, rfl, by decide +kernel, by decide +kernel⟩
theorem free_but {H H' : Hp} {r p : Addr} {o : HO} (b : But [r] H H') (hr : H r = some o) (hr' : H' r ≠ none) (hp : H' p = none) : H p = none := by
  cases e : H p with
  | none => rfl
  | some u =>
    have n : p ≠ r := fun z => hr' (by rw [← z]; exact hp)
    rw [b p u e (by simpa using n)] at hp
    cases hp
theorem ok_readRow {CR CF : Addr} (D : DefT K mg "read_row" sReadRow ["reader", "width"]) (M : MethT K CR "take" "TokenReader.take" sTake ["self", "kinds"]) (cR : Cls K CR) (T : TokC K mg) (N : TokT K T.C)
    (GM : FnOk P w K mg base (L2.CX P w) 3 M.f M.fd ["self", "kinds"] (spTake K T.C CR CF)) (FV : DefT K mg "read_value" sReadValue ["reader"]) (GV : FnOk P w K mg base (L2.CX P w) 4 FV.f FV.fd ["reader"] (spReadValue T.C CR CF)) (gl : mg "len" = none) :
    FnOk P w K mg base (L2.CX P w) 5 D.f D.fd ["reader", "width"] (spReadRow T.C CR CF) := by
  refine D.F.okX scReadRow (fun vs H Q E h => ?_) (fun cdv A outer s H vs Q E hr h => ?_)
  · obtain ⟨r, tl, L, ts, rest, k, rfl, _⟩ := h
    rfl
  · obtain ⟨r, tl, L, ts, rest, k, rfl, hk0, hk1, R, kS, kF⟩ := h
    have hr3 : Room 3 _ := hr.mono (by decide)
    refine ⟨_, pss_cons (ps_set (i := 2) scReadRow.nd rfl (Or.inl rfl) (pe_lst (pa_cons (pe_call GV hr rfl FV.g FV.F.kp FV.b .nil (passes_call (takes_of rfl rfl rfl rfl) (fun _ _ _ _ h => h)) (pa_cons (pv 0) pa_nil)) pa_nil)))
      (pss_cons (ps_while (passes_of rfl) (pt_cmpR op_lt (pe_callB call_len_seq (by rfl) gl PySem.boot_len (pa_cons (pv 2) pa_nil)) (pv 1) (nomark _))
        (pss_cons (ps_expr (pe_meth (pv 0) cR M.m GM hr3 M.b .nil (passes_call (takes_of rfl rfl rfl rfl) (fun _ _ _ _ h => h)) (pa_cons (pe_tup (pa_cons pe_str pa_nil)) pa_nil)))
        (pss_one (ps_expr (pe_bm PySem.F.plainAttrs_list PySem.F.slot_list_append PySem.F.type_list_append mt_append (pv 2) (pa_cons (pe_call GV hr rfl FV.g FV.F.kp FV.b .nil (passes_call (takes_of rfl rfl rfl rfl) (fun _ _ _ _ h => h)) (pa_cons (pv 0) pa_nil)) pa_nil))))))
      (pss_cons (ps_expr (pe_meth (pv 0) cR M.m GM hr3 M.b .nil (passes_call (takes_of rfl rfl rfl rfl) (fun _ _ _ _ h => h)) (pa_cons (pe_tup (pa_cons pe_str pa_nil)) pa_nil)))
      (pss_one (ps_ret (pv 2))))), ?_⟩
    obtain ⟨dx0, fs0, hr0, _, _⟩ := R.at_.kind
    refine ⟨_, rfl, r, tl, L, ts, rest, rfl, R, fun v rest1 e1 H1 R1 b1 => ?_, fun f e1 H1 d b1 hd => kF f (by unfold mrow; rw [e1]; rfl) H1 d b1 hd⟩
    refine ⟨(by show 1 ≤ sizeLine; decide), fun p hp => ?_⟩
    have hrow : mrow k rest = mmore (k - 1) [v] rest1 := by
      unfold mrow
      rw [e1]
      rfl
    obtain ⟨dx1, fs1, hr1, _, _⟩ := R1.at_.kind
    have hpH : H p = none := free_but b1 hr0 (by rw [hr1]; exact fun z => nomatch z) hp
    have npr : p ≠ r := fun z => by rw [z, hr1] at hp; cases hp
    refine while_v (fun m σ H' => ∃ (l : List Int) (rest2 : List MTok), m = k - l.length ∧ 0 < l.length ∧ l.length ≤ k ∧ σ = [some (.ref r), some (.int k), some (.ref p)] ∧ Rdy T.C CR H' r tl (p :: L) ts rest2 ∧ But [r] H H' ∧ H' p = some (.lst (l.map V.int)) ∧
        mrow k rest = mmore (k - l.length) l rest2) (m0 := k - 1)
      ⟨[v], rest1, rfl, Nat.one_pos, hk0, rfl, (R1.more hp).but (fun b o e n => by rw [upd_ne (fun z => n (by rw [z]; exact List.mem_cons_self))]; exact e), b1.trans (But.of (same_upd hp)), upd_same, hrow⟩ ?_
    rintro m σ H2 ⟨l, rest2, rfl, hl0, hlk, rfl, R2, b2, hp2, hm⟩
    obtain ⟨dx2, fs2, hr2, _, htake2⟩ := R2.at_.kind
    by_cases hlt : l.length < k
    · refine ⟨true, fun G g => ?_, fun _ => ?_, fun c => Bool.noConfusion c⟩
      · refine ⟨_, rfl, p, _, rfl, .inl (SqL.of hp2), _, rfl, _, _, rfl, rfl, _, rfl, ?_⟩
        rw [List.length_map, decide_eq_true (by omega)]
        exact g
      · have hk2 : k - l.length = (k - l.length - 1) + 1 := by omega
        rw [hk2] at hm
        have hm2 : mrow k rest = (mtake [.comma] rest2).bind fun x => (mvalue x.2).bind fun v => mmore (k - l.length - 1) (l ++ [v.1]) v.2 := hm
        refine ⟨_, rfl, r, dx2, fs2, rfl, hr2, htake2, (by show 1 ≤ sizeLine; decide), fun q hq => ?_⟩
        dsimp only [tNil]
        refine take_told [.comma] R2 hq rfl (fun t rest3 e3 H3 a s hR3 b3 htok _ _ => ?_) (fun f e3 H3 d b3 hd => kF f (by rw [hm2, e3]; rfl) H3 d (b2.trans b3) hd)
        have R3 : Rdy T.C CR H3 r tl (p :: L) ts rest3 := ⟨hR3, mtake_good e3 R2.good (by decide), R2.digs⟩
        have hp3 : H3 p = some (.lst (l.map V.int)) := b3 _ _ hp2 (by simpa using npr)
        refine ⟨_, rfl, .inl ⟨rfl, _, SqL.of hp3⟩, _, rfl, r, tl, p :: L, ts, rest3, rfl, R3, fun v rest4 e4 H4 R4 b4 => ?_, fun f e4 H4 d b4 hd => kF f (by rw [hm2, e3]; simp only [Except.bind]; rw [e4]) H4 d ((b2.trans b3).trans b4) hd⟩
        have hp4 : H4 p = some (.lst (l.map V.int)) := b4 _ _ hp3 (by simpa using npr)
        refine ⟨p, _, _, rfl, rfl, hp4, small_line (by rw [List.length_map]; omega), ?_⟩
        have b5 : But [r] H (upd H4 p (.lst (l.map V.int ++ [V.int v]))) := fun b o e n => by
          rw [upd_ne (fun z => by rw [z, hpH] at e; cases e)]
          exact ((b2.trans b3).trans b4) b o e n
        have R5 : Rdy T.C CR (upd H4 p (.lst (l.map V.int ++ [V.int v]))) r tl (p :: L) ts rest4 := R4.but fun b o e n => by
          rw [upd_ne (fun z => n (by rw [z]; exact List.mem_cons_self))]
          exact e
        refine ⟨k - (l ++ [v]).length, by simp; omega, l ++ [v], rest4, rfl, by simp, by simp; omega, rfl, R5, b5, by rw [upd_same, List.map_append]; rfl, ?_⟩
        rw [hm2, e3]
        simp only [Except.bind]
        rw [e4]
        simp only [List.length_append, List.length_singleton]
        congr 1
    · have hle : l.length = k := by omega
      refine ⟨false, fun G g => ?_, fun c => Bool.noConfusion c, fun _ => ?_⟩
      · refine ⟨_, rfl, p, _, rfl, .inl (SqL.of hp2), _, rfl, _, _, rfl, rfl, _, rfl, ?_⟩
        rw [List.length_map, decide_eq_false (by omega)]
        exact g
      · have hm2 : mrow k rest = (mtake [.semi] rest2).map fun x => (l, x.2) := by
          rw [hm, show k - l.length = 0 by omega]
          rfl
        refine ⟨_, rfl, r, dx2, fs2, rfl, hr2, htake2, (by show 1 ≤ sizeLine; decide), fun q hq => ?_⟩
        dsimp only [tNil]
        refine take_told [.semi] R2 hq rfl (fun t rest3 e3 H3 a s hR3 b3 htok _ _ => ?_) (fun f e3 H3 d b3 hd => kF f (by rw [hm2, e3]; rfl) H3 d (b2.trans b3) hd)
        have hp3 : H3 p = some (.lst (l.map V.int)) := b3 _ _ hp2 (by simpa using npr)
        exact ⟨_, rfl, kS l rest3 (by rw [hm2, e3]; rfl) H3 p (Rdy.less (L := p :: L) ⟨hR3, mtake_good e3 R2.good (by decide), R2.digs⟩ fun b z => List.mem_cons_of_mem _ z) (b2.trans b3) hpH hp3⟩
end
end Fm

/-! read_measures. -/
namespace Fm
open PySem PySem.Spec PyProof.Rows L2
open Vaskya (Measure Item Sheet)
abbrev sReadMeasures : Stmt := top 44
theorem RL.but {H H' : Hp} {r : Addr} {vs : List V} {ls : List (List Int)} {C dx : Addr} {fs : List (Str × V)} (h : RL H vs ls) (hr : H r = some (.ins C dx fs)) (m : But [r] H H') : RL H' vs ls := by
  induction h with
  | nil => exact .nil
  | @cons a l vs ls e _ ih => exact .cons (m _ _ e (by simp only [List.mem_singleton]; intro z; rw [z, hr] at e; cases e)) ih
theorem HeldAt.keep {C CR dx r : Addr} {H H' : Hp} {x : HA} {s : Sheet} {fs : List (Str × V)} (h : HeldAt C H x s) (hr : H r = some (.ins CR dx fs)) (hne : x.a ≠ r) (m : But [r] H H') : HeldAt C H' x s := by
  obtain ⟨⟨dx', h1⟩, h2, h3, vm, vn, vr, vg, e1, r1, e2, r2, e3, r3, e4, r4, no⟩ := h
  have k : ∀ {a : Addr} {xs : List V}, H a = some (.lst xs) → H' a = some (.lst xs) := fun {a xs} e => m _ _ e (by simp only [List.mem_singleton]; intro z; rw [z, hr] at e; cases e)
  exact ⟨⟨dx', m _ _ h1 (by simpa using hne)⟩, h2, k h3, vm, vn, vr, vg, k e1, r1.but hr m, k e2, r2.but hr m, k e3, r3.but hr m, k e4, r4.but hr m, no⟩
theorem HeldAt.ne {C CT CR : Addr} {H : Hp} {x : HA} {s : Sheet} {r T : Addr} {L : List Addr} {ts rest : List MTok} (h : HeldAt C H x s) (R : RdAt CT CR H r T L ts rest) : x.a ≠ r := by
  obtain ⟨⟨dx', h1⟩, _⟩ := h
  obtain ⟨⟨i, dx, _, _, h3⟩, _, _⟩ := R
  intro z
  rw [z, h3] at h1
  have e := Option.some.inj h1
  injection e with _ _ e3
  have q := rF_T T i
  rw [e3, hF_no x (by decide +kernel) (by decide +kernel) (by decide +kernel) (by decide +kernel) (by decide +kernel)] at q
  cases q
def mm (rest : List MTok) : R (List Measure × List MTok) := (mtake [.measures] rest).bind fun y => mmeasures (y.2.length + 1) [] y.2
def spReadMeasures (CT CR CH CF : Addr) : Sp := fun vs H Q E => ∃ (r T : Addr) (x : HA) (ts rest : List MTok), vs = [.ref r, .ref x.a] ∧ Rdy CT CR H r T x.av ts rest ∧ HeldAt CH H x ⟨[], []⟩ ∧
  (∀ ms rest', mm rest = .ok (ms, rest') → ∀ H', Rdy CT CR H' r T x.av ts rest' → HeldAt CH H' x ⟨ms, []⟩ → But (r :: x.ls) H H' → Q .non H') ∧
  (∀ f : VaskyBase.Fault, mm rest = .error f → ∀ H' d, But (r :: x.ls) H H' → H' d = some (.xd (ff f.code f.place)) → E (.ref CF) (some d) H')
theorem ks_way {k : Kd} (h : k ∈ [Kd.up, Kd.down]) : ks k = way (decide (k = .up)) := by
  simp only [List.mem_cons, List.not_mem_nil, or_false] at h
  rcases h with rfl | rfl <;> rfl
theorem any_name (ms : List Measure) (b : VaskyBase.Bytes) : (ms.map (·.name)).any (fun l => l == b) = ms.any fun m => m.name == b := by
  rw [List.any_map]
  rfl
section
variable {P : Program} {w : World} {K : PySem.W.Frag} {mg : Str → Option Value} {base : Heap}
theorem scReadMeasures : FnScope ["reader", "held", "sign", "name", "way"] ["reader", "held"] (defScope sReadMeasures) := ⟨rfl, rfl, rfl, by decide +kernel, rfl, by decide +kernel, by decide +kernel⟩
theorem ok_readMeasures {CR CF CH : Addr} (D : DefT K mg "read_measures" sReadMeasures ["reader", "held"]) (M : MethT K CR "take" "TokenReader.take" sTake ["self", "kinds"]) (cR : Cls K CR) (T : TokC K mg) (N : TokT K T.C)
    (GM : FnOk P w K mg base (L2.CX P w) 3 M.f M.fd ["self", "kinds"] (spTake K T.C CR CF))
    (FM : DefT K mg "refuse_too_many" sTooMany ["token", "earlier", "most"]) (GF : FnOk P w K mg base (L2.CX P w) 3 FM.f FM.fd ["token", "earlier", "most"] (spTooMany K T.C CF))
    (F2 : DefT K mg "refuse_name_twice" sTwice ["token", "earlier"]) (G2 : FnOk P w K mg base (L2.CX P w) 3 F2.f F2.fd ["token", "earlier"] (spTwice K T.C CF))
    (MA : MethT K CH "add_measure" "HeldList.add_measure" sAddMeasure ["self", "name", "way"]) (cH : Cls K CH) (NH : HeldT K CH)
    (gN : GS mg "NAME" (ks .name)) (gM : GI mg "MOST_MEASURES" 4) :
    FnOk P w K mg base (L2.CX P w) 4 D.f D.fd ["reader", "held"] (spReadMeasures T.C CR CH CF) := by
  refine D.F.okX scReadMeasures (fun vs H Q E h => ?_) (fun cdv A outer s H vs Q E hr h => ?_)
  · obtain ⟨r, tl, x, ts, rest, rfl, _⟩ := h
    rfl
  · obtain ⟨r, tl, x, ts, rest, rfl, R, hH, kS, kF⟩ := h
    have hr1 : Room 1 _ := hr.mono (by decide)
    refine ⟨_, pss_cons (ps_expr (pe_meth (pv 0) cR M.m GM hr M.b .nil (passes_call (takes_of rfl rfl rfl rfl) (fun _ _ _ _ h => h)) (pa_cons (pe_tup (pa_cons pe_str pa_nil)) pa_nil)))
      (pss_cons (ps_set (i := 2) scReadMeasures.nd rfl (Or.inl rfl) pe_str)
      (pss_one (ps_while (passes_of rfl) (pt_cmpR op_eq (pv 2) pe_str (nomark _))
        (pss_cons (ps_set (i := 3) scReadMeasures.nd rfl (Or.inl rfl) (pe_meth (pv 0) cR M.m GM hr M.b .nil (passes_call (takes_of rfl rfl rfl rfl) (fun _ _ _ _ h => h)) (pa_cons (pe_tup (pa_cons (pe_gs gN) pa_nil)) pa_nil)))
        (pss_cons (ps_expr (pe_call GF hr rfl FM.g FM.F.kp FM.b .nil (passes_call (takes_of rfl rfl rfl rfl) (fun _ _ _ _ h => h)) (pa_cons (pv 3) (pa_cons (pe_fld (pv 1) rfl) (pa_cons (pe_gi gM) pa_nil)))))
        (pss_cons (ps_expr (pe_call G2 hr rfl F2.g F2.F.kp F2.b .nil (passes_call (takes_of rfl rfl rfl rfl) (fun _ _ _ _ h => h)) (pa_cons (pv 3) (pa_cons (pe_fld (pv 1) rfl) pa_nil))))
        (pss_cons (ps_set (i := 4) scReadMeasures.nd rfl (Or.inl rfl) (pe_meth (pv 0) cR M.m GM hr M.b .nil (passes_call (takes_of rfl rfl rfl rfl) (fun _ _ _ _ h => h)) (pa_cons (pe_tup (pa_cons pe_str (pa_cons pe_str pa_nil))) pa_nil)))
        (pss_cons (ps_expr (pe_meth (pv 1) cH MA.m (ok_addMeasure MA cH NH) hr1 MA.b .nil pass0 (pa_cons (pe_fld (pv 3) rfl) (pa_cons (pe_fld (pv 4) rfl) pa_nil))))
        (pss_one (ps_set (i := 2) scReadMeasures.nd rfl (Or.inl rfl) (pe_fld (pe_meth (pv 0) cR M.m GM hr M.b .nil (passes_call (takes_of rfl rfl rfl rfl) (fun _ _ _ _ h => h)) (pa_cons (pe_tup (pa_cons pe_str (pa_cons pe_str pa_nil))) pa_nil)) rfl))))))))))), ?_⟩
    obtain ⟨dx0, fs0, hr0, _, htake0⟩ := R.at_.kind
    have hne := hH.ne R.at_
    refine ⟨_, rfl, r, dx0, fs0, rfl, hr0, htake0, (by show 1 ≤ sizeLine; decide), fun q0 hq0 => ?_⟩
    dsimp only [tNil]
    have wide : ∀ {H1 H2 : Hp}, But [r] H1 H2 → But (r :: x.ls) H1 H2 := fun {H1 H2} b => b.mono fun c hc => by rw [List.mem_singleton.mp hc]; exact List.mem_cons_self
    have wide2 : ∀ {H1 H2 : Hp}, But x.ls H1 H2 → But (r :: x.ls) H1 H2 := fun {H1 H2} b => b.mono fun c hc => List.mem_cons_of_mem _ hc
    refine take_told [.measures] R hq0 rfl (fun t0 rest0 e0 H0 a0 s0 hR0 b0 htok0 _ _ => ?_) (fun f e0 H0 d b0 hd => kF f (by unfold mm; rw [e0]; rfl) H0 d (wide b0) hd)
    have R0 : Rdy T.C CR H0 r tl x.av ts rest0 := ⟨hR0, mtake_good e0 R.good (by decide), R.digs⟩
    have hH0 : HeldAt CH H0 x ⟨[], []⟩ := hH.keep hr0 hne b0
    have hm0 : mm rest = mmeasures (rest0.length + 1) [] rest0 := by
      unfold mm
      rw [e0]
      rfl
    dsimp only [tSeq, tAsg, tC, gName]
    refine while_v (fun m σ H' => ∃ (ms : List Measure) (rest1 : List MTok) (k : Kd) (v w' : Option V), σ = [some (.ref r), some (.ref x.a), some (.str (ks k)), v, w'] ∧ Rdy T.C CR H' r tl x.av ts rest1 ∧ HeldAt CH H' x ⟨ms, []⟩ ∧ But (r :: x.ls) H H' ∧ ms.length ≤ 4 ∧
        (k = .comma ∨ k = .semi) ∧ (k = .comma → rest1.length < m ∧ mm rest = mmeasures m ms rest1) ∧ (k = .semi → mm rest = .ok (ms, rest1))) (m0 := rest0.length + 1)
      ⟨[], rest0, .comma, none, none, rfl, R0, hH0, wide b0, Nat.zero_le _, .inl rfl, fun _ => ⟨Nat.lt_succ_self _, hm0⟩, fun z => nomatch z⟩ ?_
    rintro m σ H1 ⟨ms, rest1, k, v, w', rfl, R1, hH1, b1, h4, hk, hc, hs⟩
    refine ⟨decide (k = .comma), fun G g => ?_, fun c => ?_, fun c => ?_⟩
    · refine ⟨_, rfl, rfl, _, rfl, ?_⟩
      have e : decide (V.str (ks k) = V.str ",") = decide (k = .comma) := by
        apply decide_eq_decide.mpr
        exact ⟨fun z => ks_inj (V.str.inj z), fun z => by rw [z]; rfl⟩
      rw [e]
      exact g
    · obtain ⟨hlm, hmm⟩ := hc (of_decide_eq_true c)
      cases m with
      | zero => omega
      | succ m =>
        have hm1 : mm rest = (mtake [.name] rest1).bind fun x =>
            if ms.length = 4 then .error ⟨4, x.1.place⟩ else if ms.any (fun m => m.name == x.1.sp) = true then .error ⟨5, x.1.place⟩ else
            (mtake [.up, .down] x.2).bind fun y => (mtake [.comma, .semi] y.2).bind fun z =>
              if z.1.kind = .comma then mmeasures m (ms ++ [⟨x.1.sp, decide (y.1.kind = .up)⟩]) z.2 else .ok (ms ++ [⟨x.1.sp, decide (y.1.kind = .up)⟩], z.2) := hmm
        have hne1 := hH1.ne R1.at_
        obtain ⟨dx1, fs1, hr1', _, htake1⟩ := R1.at_.kind
        refine ⟨_, rfl, r, dx1, fs1, rfl, hr1', htake1, (by show 1 ≤ sizeLine; decide), fun q1 hq1 => ?_⟩
        dsimp only [tNil]
        refine take_told [.name] R1 hq1 rfl (fun t rest2 e2 H2 a s hR2 b2 htok aL sL => ?_) (fun f e2 H2 d b2 hd => kF f (by rw [hm1, e2]; rfl) H2 d (b1.trans (wide b2)) hd)
        have R2 : Rdy T.C CR H2 r tl x.av ts rest2 := ⟨hR2, mtake_good e2 R1.good (by decide), R1.digs⟩
        have hH2 : HeldAt CH H2 x ⟨ms, []⟩ := hH1.keep hr1' hne1 b2
        have b12 := b1.trans (wide b2)
        rw [e2] at hm1
        simp only [Except.bind] at hm1
        obtain ⟨⟨dxa, ht1⟩, ht2⟩ := id htok
        obtain ⟨⟨dxh, hx2⟩, nd2, hw2, vm, vn, vr, vg, em, rm, en, rn, er, rr, eg, rg, no2⟩ := id hH2
        have lm : vm.length = ms.length := rm.len.trans (List.length_map ..)
        refine ⟨_, rfl, _, rfl, x.a, CH, dxh, _, _, rfl, hx2, cH, NH.nM, hF_ms x, a, s, x.ms, t, vm, 4, rfl, htok, SqL.of em, fun hn4 => ?_, fun h44 H3 d s3 hd => kF ⟨4, t.place⟩ (by rw [hm1, if_pos (by omega)]) H3 d (b12.trans (But.of s3)) hd⟩
        have hn4' : ¬ ms.length = 4 := fun z => hn4 (by omega)
        rw [if_neg hn4'] at hm1
        refine ⟨_, rfl, _, rfl, x.a, CH, dxh, _, _, rfl, hx2, cH, NH.nM, hF_ms x, a, s, x.ms, t, vm, ms.map (·.name), rfl, htok, em, by rw [List.map_map]; exact rm, fun hno => ?_, fun hyes H3 d s3 hd => kF ⟨5, t.place⟩ (by rw [hm1, if_pos (by rw [← any_name]; exact hyes)]) H3 d (b12.trans (But.of s3)) hd⟩
        rw [any_name] at hno
        rw [if_neg (by rw [hno]; exact Bool.false_ne_true)] at hm1
        obtain ⟨dx2, fs2, hr2', hk2, htake2⟩ := R2.at_.kind
        have hne2 := hH2.ne R2.at_
        refine ⟨_, rfl, r, dx2, fs2, rfl, hr2', htake2, (by show 2 ≤ sizeLine; decide), fun q2 hq2 => ?_⟩
        dsimp only [tNil]
        refine take_told [.up, .down] R2 hq2 rfl (fun u rest3 e3 H3 a3 s3 hR3 b3 htok3 _ _ => ?_) (fun f e3 H3 d b3 hd => kF f (by rw [hm1, e3]) H3 d (b12.trans (wide b3)) hd)
        have R3 : Rdy T.C CR H3 r tl x.av ts rest3 := ⟨hR3, mtake_good e3 R2.good (by decide), R2.digs⟩
        have hH3 : HeldAt CH H3 x ⟨ms, []⟩ := hH2.keep hr2' hne2 b3
        have htok3a : TokAt T.C H3 a s t := (htok.keep hr2' hk2 b3).1
        rw [e3] at hm1
        simp only at hm1
        obtain ⟨⟨dxb, hu1⟩, hu2⟩ := id htok3
        obtain ⟨⟨dxa3, ha31⟩, ha32⟩ := id htok3a
        obtain ⟨⟨dxh3, hx3⟩, _⟩ := id hH3
        refine ⟨_, rfl, x.a, dxh3, _, rfl, hx3, hF_no x (by decide +kernel) (by decide +kernel) (by decide +kernel) (by decide +kernel) (by decide +kernel), _, rfl, a, T.C, dxa3, _, _, rfl, ha31, T.cl, N.nS, tF_sp t s, _, rfl, a3, T.C, dxb, _, _, rfl, hu1, T.cl, N.nK, tF_kind u s3, ?_⟩
        have hku := (mtake_ok e3).2
        refine ⟨x, ⟨ms, []⟩, s, t.sp, decide (u.kind = .up), by rw [← ks_way hku]; rfl, hH3, ha32, sL, by show ms.length ≤ 1000; omega, rfl, fun H4 hH4 b4 _ => ?_⟩
        have R4 : Rdy T.C CR H4 r tl x.av ts rest3 := R3.but (b4.mono fun _ => av_ls)
        obtain ⟨dx4, fs4, hr4', _, htake4⟩ := R4.at_.kind
        have hne4 := hH4.ne R4.at_
        refine ⟨_, rfl, r, dx4, fs4, rfl, hr4', htake4, (by show 2 ≤ sizeLine; decide), fun q4 hq4 => ?_⟩
        dsimp only [tNil]
        have b14 := (b12.trans (wide b3)).trans (wide2 b4)
        refine take_told [.comma, .semi] R4 hq4 rfl (fun z rest5 e5 H5 a5 s5 hR5 b5 htok5 _ _ => ?_) (fun f e5 H5 d b5 hd => kF f (by rw [hm1, e5]) H5 d (b14.trans (wide b5)) hd)
        obtain ⟨⟨dx5, hz1⟩, hz2⟩ := id htok5
        refine ⟨a5, T.C, dx5, _, _, rfl, hz1, T.cl, N.nK, tF_kind z s5, ?_⟩
        rw [e5] at hm1
        simp only at hm1
        have hkz := (mtake_ok e5).2
        simp only [List.mem_cons, List.not_mem_nil, or_false] at hkz
        have l1 : rest2.length ≤ rest1.length := mtake_len e2
        have l2 : rest3.length ≤ rest2.length := mtake_len e3
        have l3 : rest5.length < rest3.length := by
          rw [(mtake_ok e5).1]
          exact Nat.lt_succ_self _
        have h4' : (ms ++ [(⟨t.sp, decide (u.kind = .up)⟩ : Measure)]).length ≤ 4 := by
          rw [List.length_append, List.length_singleton]
          omega
        refine ⟨m, Nat.lt_succ_self _, ms ++ [⟨t.sp, decide (u.kind = .up)⟩], rest5, z.kind, _, _, rfl, ⟨hR5, mtake_good e5 R4.good (by decide), R4.digs⟩, hH4.keep hr4' hne4 b5, b14.trans (wide b5), h4', hkz, fun zc => ?_, fun zs => ?_⟩
        · rw [if_pos zc] at hm1
          exact ⟨by omega, hm1⟩
        · rw [if_neg (by rw [zs]; decide)] at hm1
          exact hm1
    · have hk2 : k = .semi := hk.resolve_left (of_decide_eq_false c)
      exact kS ms rest1 (hs hk2) H1 R1 hH1 b1
end
end Fm

/-! read_items, read_list. -/
namespace Fm
open PySem PySem.Spec PyProof.Rows L2
open Vaskya (Measure Item Sheet)
abbrev sReadItems : Stmt := top 45
abbrev sReadList : Stmt := top 46
/-- behind the token that begins an item, or ends the text -/
def mitem (k n : Nat) (is : List Item) (s : MTok × List MTok) : R (List Item) :=
  if s.1.kind = .item then
    if is.length = 16 then .error ⟨4, s.1.place⟩ else (mtake [.name] s.2).bind fun x =>
    if is.any (fun i => i.name == x.1.sp) = true then .error ⟨5, x.1.place⟩ else
    (mtake [.colon] x.2).bind fun c => (mrow k c.2).bind fun v => mitems k n (is ++ [⟨x.1.sp, v.1⟩]) v.2
  else .ok is
theorem mitems_succ (k n : Nat) (is : List Item) (l : List MTok) : mitems k (n + 1) is l = (mtake [.item, .fin] l).bind (mitem k n is) := rfl
def spReadItems (CT CR CH CF : Addr) : Sp := fun vs H Q E => ∃ (r T : Addr) (x : HA) (ms : List Measure) (ts rest : List MTok), vs = [.ref r, .ref x.a] ∧ Rdy CT CR H r T x.av ts rest ∧ HeldAt CH H x ⟨ms, []⟩ ∧ (∀ b ∈ x.old, H b ≠ none ∧ b ∉ x.ls) ∧ 0 < ms.length ∧ ms.length ≤ 4 ∧
  (∀ is, mitems ms.length (rest.length + 1) [] rest = .ok is → ∀ H', HeldAt CH H' x ⟨ms, is⟩ → But (r :: x.ls) H H' → Q .non H') ∧
  (∀ f : VaskyBase.Fault, mitems ms.length (rest.length + 1) [] rest = .error f → ∀ H' d, But (r :: x.ls) H H' → H' d = some (.xd (ff f.code f.place)) → E (.ref CF) (some d) H')
theorem any_iname (is : List Item) (b : VaskyBase.Bytes) : (is.map (·.name)).any (fun l => l == b) = is.any fun i => i.name == b := by
  rw [List.any_map]
  rfl
section
variable {P : Program} {w : World} {K : PySem.W.Frag} {mg : Str → Option Value} {base : Heap}
theorem scReadItems : FnScope ["reader", "held", "start", "name"] ["reader", "held"] (defScope sReadItems) := ⟨rfl, rfl, rfl, by decide +kernel, rfl, by decide +kernel, by decide +kernel⟩
theorem ok_readItems {CR CF CH : Addr} (D : DefT K mg "read_items" sReadItems ["reader", "held"]) (M : MethT K CR "take" "TokenReader.take" sTake ["self", "kinds"]) (cR : Cls K CR) (T : TokC K mg) (N : TokT K T.C)
    (GM : FnOk P w K mg base (L2.CX P w) 3 M.f M.fd ["self", "kinds"] (spTake K T.C CR CF))
    (FM : DefT K mg "refuse_too_many" sTooMany ["token", "earlier", "most"]) (GF : FnOk P w K mg base (L2.CX P w) 3 FM.f FM.fd ["token", "earlier", "most"] (spTooMany K T.C CF))
    (F2 : DefT K mg "refuse_name_twice" sTwice ["token", "earlier"]) (G2 : FnOk P w K mg base (L2.CX P w) 3 F2.f F2.fd ["token", "earlier"] (spTwice K T.C CF))
    (FR : DefT K mg "read_row" sReadRow ["reader", "width"]) (GR : FnOk P w K mg base (L2.CX P w) 5 FR.f FR.fd ["reader", "width"] (spReadRow T.C CR CF))
    (MA : MethT K CH "add_item" "HeldList.add_item" sAddItem ["self", "name", "row"]) (cH : Cls K CH) (NH : HeldT K CH)
    (gN : GS mg "NAME" (ks .name)) (gE : GS mg "END" (ks .fin)) (gM : GI mg "MOST_ITEMS" 16) (gl : mg "len" = none) (gz : mg "zip" = none) :
    FnOk P w K mg base (L2.CX P w) 6 D.f D.fd ["reader", "held"] (spReadItems T.C CR CH CF) := by
  refine D.F.okX scReadItems (fun vs H Q E h => ?_) (fun cdv A outer s H vs Q E hr h => ?_)
  · obtain ⟨r, tl, x, ms, ts, rest, rfl, _⟩ := h
    rfl
  · obtain ⟨r, tl, x, ms, ts, rest, rfl, R, hH, hold, hm0, hm4, kS, kF⟩ := h
    have hr1 : Room 1 _ := hr.mono (by decide)
    have hr3 : Room 3 _ := hr.mono (by decide)
    refine ⟨_, pss_cons (ps_set (i := 2) scReadItems.nd rfl (Or.inl rfl) (pe_meth (pv 0) cR M.m GM hr3 M.b .nil (passes_call (takes_of rfl rfl rfl rfl) (fun _ _ _ _ h => h)) (pa_cons (pe_tup (pa_cons pe_str (pa_cons (pe_gs gE) pa_nil))) pa_nil)))
      (pss_one (ps_while (passes_of rfl) (pt_cmpR op_eq (pe_fld (pv 2) rfl) pe_str (nomark _))
        (pss_cons (ps_expr (pe_call GF hr3 rfl FM.g FM.F.kp FM.b .nil (passes_call (takes_of rfl rfl rfl rfl) (fun _ _ _ _ h => h)) (pa_cons (pv 2) (pa_cons (pe_fld (pv 1) rfl) (pa_cons (pe_gi gM) pa_nil)))))
        (pss_cons (ps_set (i := 3) scReadItems.nd rfl (Or.inl rfl) (pe_meth (pv 0) cR M.m GM hr3 M.b .nil (passes_call (takes_of rfl rfl rfl rfl) (fun _ _ _ _ h => h)) (pa_cons (pe_tup (pa_cons (pe_gs gN) pa_nil)) pa_nil)))
        (pss_cons (ps_expr (pe_call G2 hr3 rfl F2.g F2.F.kp F2.b .nil (passes_call (takes_of rfl rfl rfl rfl) (fun _ _ _ _ h => h)) (pa_cons (pv 3) (pa_cons (pe_fld (pv 1) rfl) pa_nil))))
        (pss_cons (ps_expr (pe_meth (pv 0) cR M.m GM hr3 M.b .nil (passes_call (takes_of rfl rfl rfl rfl) (fun _ _ _ _ h => h)) (pa_cons (pe_tup (pa_cons pe_str pa_nil)) pa_nil)))
        (pss_cons (ps_expr (pe_meth (pv 1) cH MA.m (ok_addItem MA cH NH gz) hr1 MA.b .nil pass0 (pa_cons (pe_fld (pv 3) rfl)
          (pa_cons (pe_call GR hr rfl FR.g FR.F.kp FR.b .nil (passes_call (takes_of rfl rfl rfl rfl) (fun _ _ _ _ h => h)) (pa_cons (pv 0) (pa_cons (pe_callB call_len_seq (by rfl) gl PySem.boot_len (pa_cons (pe_fld (pv 1) rfl) pa_nil)) pa_nil))) pa_nil))))
        (pss_one (ps_set (i := 2) scReadItems.nd rfl (Or.inl rfl) (pe_meth (pv 0) cR M.m GM hr3 M.b .nil (passes_call (takes_of rfl rfl rfl rfl) (fun _ _ _ _ h => h)) (pa_cons (pe_tup (pa_cons pe_str (pa_cons (pe_gs gE) pa_nil))) pa_nil))))))))))), ?_⟩
    have wide : ∀ {H1 H2 : Hp}, But [r] H1 H2 → But (r :: x.ls) H1 H2 := fun {H1 H2} b => b.mono fun c hc => by rw [List.mem_singleton.mp hc]; exact List.mem_cons_self
    have wide2 : ∀ {H1 H2 : Hp}, But x.ls H1 H2 → But (r :: x.ls) H1 H2 := fun {H1 H2} b => b.mono fun c hc => List.mem_cons_of_mem _ hc
    obtain ⟨dx0, fs0, hr0, _, htake0⟩ := R.at_.kind
    have olds : ∀ {H1 : Hp}, But (r :: x.ls) H H1 → ∀ b ∈ x.old, H1 b ≠ none := fun {H1} bt b hb z => by
      obtain ⟨h1, h2⟩ := hold b hb
      cases e : H b with
      | none => exact h1 e
      | some o =>
        have nr : b ∉ r :: x.ls := fun y => by
          rcases List.mem_cons.mp y with y | y
          · exact R.at_.off (by rw [← y]; exact List.mem_append_right _ hb)
          · exact h2 y
        have := bt b o e nr
        rw [z] at this
        cases this
    have hne := hH.ne R.at_
    rw [mitems_succ] at kS kF
    refine ⟨_, rfl, r, dx0, fs0, rfl, hr0, htake0, (by show 2 ≤ sizeLine; decide), fun q0 hq0 => ?_⟩
    dsimp only [tNil]
    refine take_told [.item, .fin] R hq0 rfl (fun t0 rest0 e0 H0 a0 s0 hR0 b0 htok0 aL0 sL0 => ?_) (fun f e0 H0 d b0 hd => kF f (by rw [e0]; rfl) H0 d (wide b0) hd)
    rw [e0] at kS kF
    simp only [Except.bind] at kS kF
    have hH0 : HeldAt CH H0 x ⟨ms, []⟩ := hH.keep hr0 hne b0
    have l0 : rest0.length < rest.length := by
      rw [(mtake_ok e0).1]
      exact Nat.lt_succ_self _
    have hk0 := (mtake_ok e0).2
    simp only [List.mem_cons, List.not_mem_nil, or_false] at hk0
    have hg0 : t0.kind = .item → Good rest0 := fun z => good_tail (t := t0) (by rw [← (mtake_ok e0).1]; exact R.good) (by rw [z]; decide)
    have hrf : mitem ms.length rest.length [] (t0, rest0) = mitem ms.length rest.length [] (t0, rest0) := rfl
    dsimp only [gName]
    refine while_v (fun m σ H' => ∃ (is : List Item) (rest1 : List MTok) (t : MTok) (a s : Addr) (v : Option V), σ = [some (.ref r), some (.ref x.a), some (.ref a), v] ∧ RdAt T.C CR H' r tl x.av ts rest1 ∧ (t.kind = .item → Good rest1) ∧ HeldAt CH H' x ⟨ms, is⟩ ∧ But (r :: x.ls) H H' ∧ is.length ≤ 16 ∧
        TokAt T.C H' a s t ∧ a ∉ x.av ∧ s ∉ x.av ∧ (t.kind = .item ∨ t.kind = .fin) ∧ rest1.length < m ∧ mitem ms.length rest.length [] (t0, rest0) = mitem ms.length m is (t, rest1)) (m0 := rest.length)
      ⟨[], rest0, t0, a0, s0, none, rfl, hR0, hg0, hH0, wide b0, Nat.zero_le _, htok0, aL0, sL0, hk0, l0, rfl⟩ ?_
    rintro m σ H1 ⟨is, rest1, t, a, s, v, rfl, R1a, hg1, hH1, b1, h16, htok, aL, sL, hk, hlm, hmm⟩
    obtain ⟨⟨dxa, ht1⟩, ht2⟩ := id htok
    refine ⟨decide (t.kind = .item), fun G g => ?_, fun c => ?_, fun c => ?_⟩
    · refine ⟨_, rfl, a, T.C, dxa, _, _, rfl, ht1, T.cl, N.nK, tF_kind t s, rfl, _, rfl, ?_⟩
      have e : decide (V.str (ks t.kind) = V.str "item") = decide (t.kind = .item) := by
        apply decide_eq_decide.mpr
        exact ⟨fun z => ks_inj (V.str.inj z), fun z => by rw [z]; rfl⟩
      rw [e]
      exact g
    · have hki : t.kind = .item := of_decide_eq_true c
      have R1 : Rdy T.C CR H1 r tl x.av ts rest1 := ⟨R1a, hg1 hki, R.digs⟩
      have hm1 : mitem ms.length m is (t, rest1) = if is.length = 16 then .error ⟨4, t.place⟩ else (mtake [.name] rest1).bind fun x =>
          if is.any (fun i => i.name == x.1.sp) = true then .error ⟨5, x.1.place⟩ else
          (mtake [.colon] x.2).bind fun c => (mrow ms.length c.2).bind fun v => mitems ms.length m (is ++ [⟨x.1.sp, v.1⟩]) v.2 := by
        unfold mitem
        rw [if_pos hki]
      rw [hmm, hm1] at kS kF
      obtain ⟨⟨dxh, hx1⟩, nd1, hw1, vm, vn, vr, vg, em, rm, en, rn, er, rr, eg, rg, no1⟩ := id hH1
      have ln : vn.length = is.length := rn.len.trans (List.length_map ..)
      refine ⟨_, rfl, _, rfl, x.a, CH, dxh, _, _, rfl, hx1, cH, NH.nN, hF_ns x, a, s, x.ns, t, vn, 16, rfl, htok, SqL.of en, fun hn => ?_, fun hy H3 d s3 hd => kF ⟨4, t.place⟩ (if_pos (by omega)) H3 d (b1.trans (But.of s3)) hd⟩
      have hn' : ¬ is.length = 16 := fun z => hn (by omega)
      rw [if_neg hn'] at kS kF
      have hne1 := hH1.ne R1.at_
      obtain ⟨dx1, fs1, hr1', _, htake1⟩ := R1.at_.kind
      refine ⟨_, rfl, r, dx1, fs1, rfl, hr1', htake1, (by show 1 ≤ sizeLine; decide), fun q1 hq1 => ?_⟩
      dsimp only [tNil]
      refine take_told [.name] R1 hq1 rfl (fun u rest2 e2 H2 a2 s2 hR2 b2 htok2 aL2 sL2 => ?_) (fun f e2 H2 d b2 hd => kF f (by rw [e2]; rfl) H2 d (b1.trans (wide b2)) hd)
      rw [e2] at kS kF
      simp only [Except.bind] at kS kF
      have R2 : Rdy T.C CR H2 r tl x.av ts rest2 := ⟨hR2, mtake_good e2 R1.good (by decide), R1.digs⟩
      have hH2 : HeldAt CH H2 x ⟨ms, is⟩ := hH1.keep hr1' hne1 b2
      have b12 := b1.trans (wide b2)
      obtain ⟨⟨dxh2, hx2⟩, nd2, hw2, vm2, vn2, vr2, vg2, em2, rm2, en2, rn2, er2, rr2, eg2, rg2, no2⟩ := id hH2
      refine ⟨_, rfl, _, rfl, x.a, CH, dxh2, _, _, rfl, hx2, cH, NH.nN, hF_ns x, a2, s2, x.ns, u, vn2, is.map (·.name), rfl, htok2, en2, by rw [List.map_map]; exact rn2, fun hno => ?_, fun hyes H3 d s3 hd => kF ⟨5, u.place⟩ (if_pos (by rw [← any_iname]; exact hyes)) H3 d (b12.trans (But.of s3)) hd⟩
      rw [any_iname] at hno
      rw [if_neg (by rw [hno]; exact Bool.false_ne_true)] at kS kF
      obtain ⟨dx2, fs2, hr2', hkd2, htake2⟩ := R2.at_.kind
      have hne2 := hH2.ne R2.at_
      refine ⟨_, rfl, r, dx2, fs2, rfl, hr2', htake2, (by show 1 ≤ sizeLine; decide), fun q2 hq2 => ?_⟩
      dsimp only [tNil]
      refine take_told [.colon] R2 hq2 rfl (fun cl rest3 e3 H3 a3 s3 hR3 b3 htok3 _ _ => ?_) (fun f e3 H3 d b3 hd => kF f (by rw [e3]) H3 d (b12.trans (wide b3)) hd)
      rw [e3] at kS kF
      simp only at kS kF
      have R3 : Rdy T.C CR H3 r tl x.av ts rest3 := ⟨hR3, mtake_good e3 R2.good (by decide), R2.digs⟩
      have hH3 : HeldAt CH H3 x ⟨ms, is⟩ := hH2.keep hr2' hne2 b3
      have htok2a : TokAt T.C H3 a2 s2 u := (htok2.keep hr2' hkd2 b3).1
      have b13 := b12.trans (wide b3)
      obtain ⟨⟨dxa3, ha31⟩, ha32⟩ := id htok2a
      obtain ⟨⟨dxh3, hx3⟩, nd3, hw3, vm3, vn3, vr3, vg3, em3, rm3, en3, rn3, er3, rr3, eg3, rg3, no3⟩ := id hH3
      have lm3 : vm3.length = ms.length := rm3.len.trans (List.length_map ..)
      obtain ⟨dx3, fs3, hr3', hkd3, htake3⟩ := R3.at_.kind
      have hne3 := hH3.ne R3.at_
      refine ⟨_, rfl, x.a, dxh3, _, rfl, hx3, hF_no x (by decide +kernel) (by decide +kernel) (by decide +kernel) (by decide +kernel) (by decide +kernel), _, rfl, a2, T.C, dxa3, _, _, rfl, ha31, T.cl, N.nS, tF_sp u s2, ?_⟩
      refine ⟨_, rfl, _, rfl, x.a, CH, dxh3, _, _, rfl, hx3, cH, NH.nM, hF_ms x, x.ms, vm3, rfl, .inl (SqL.of em3), ?_⟩
      refine ⟨r, tl, x.av, ts, rest3, ms.length, by rw [lm3]; rfl, hm0, by omega, R3, fun l rest4 e4 H4 p R4 b4 hp3 hp4 => ?_, fun f e4 H4 d b4 hd => kF f (by rw [e4]) H4 d (b13.trans (wide b4)) hd⟩
      rw [e4] at kS kF
      simp only at kS kF
      have hH4 : HeldAt CH H4 x ⟨ms, is⟩ := hH3.keep hr3' hne3 b4
      have htok4 : TokAt T.C H4 a2 s2 u := (htok2a.keep hr3' hkd3 b4).1
      have pL : p ∉ x.av := fun z => by
        rcases List.mem_append.mp z with z | z
        · simp only [HA.ls, List.mem_cons, List.not_mem_nil, or_false] at z
          rcases z with z | z | z | z | z
          · rw [z, em3] at hp3; cases hp3
          · rw [z, hw3] at hp3; cases hp3
          · rw [z, en3] at hp3; cases hp3
          · rw [z, er3] at hp3; cases hp3
          · rw [z, eg3] at hp3; cases hp3
        · exact olds b13 p z hp3
      have hwl := mrow_width hm0 e4
      refine ⟨x, ⟨ms, is⟩, s2, p, u.sp, l, rfl, hH4, htok4.2, hp4, sL2, pL, olds (b13.trans (wide b4)), by show is.length ≤ 1000; omega, hwl, by show l.length ≤ 1000; rw [show l.length = ms.length from hwl]; omega, fun H5 hH5 b5 => ?_⟩
      have R5 : Rdy T.C CR H5 r tl x.av ts rest4 := R4.but (b5.mono fun _ => av_ls)
      have b15 := (b13.trans (wide b4)).trans (wide2 b5)
      obtain ⟨dx5, fs5, hr5', _, htake5⟩ := R5.at_.kind
      have hne5 := hH5.ne R5.at_
      have l2 : rest2.length < rest1.length := by
        rw [(mtake_ok e2).1]
        exact Nat.lt_succ_self _
      have l3 : rest3.length ≤ rest2.length := mtake_len e3
      have l4 : rest4.length ≤ rest3.length := mrow_len e4
      cases m with
      | zero => omega
      | succ m =>
        rw [mitems_succ] at kS kF
        refine ⟨_, rfl, r, dx5, fs5, rfl, hr5', htake5, (by show 2 ≤ sizeLine; decide), fun q5 hq5 => ?_⟩
        dsimp only [tNil]
        refine take_told [.item, .fin] R5 hq5 rfl (fun z rest6 e6 H6 a6 s6 hR6 b6 htok6 aL6 sL6 => ?_) (fun f e6 H6 d b6 hd => kF f (by rw [e6]; rfl) H6 d (b15.trans (wide b6)) hd)
        have hkz := (mtake_ok e6).2
        simp only [List.mem_cons, List.not_mem_nil, or_false] at hkz
        have l6 : rest6.length ≤ rest4.length := mtake_len e6
        refine ⟨m, Nat.lt_succ_self _, is ++ [⟨u.sp, l⟩], rest6, z, a6, s6, _, rfl, hR6, fun zi => good_tail (t := z) (by rw [← (mtake_ok e6).1]; exact R5.good) (by rw [zi]; decide), hH5.keep hr5' hne5 b6, b15.trans (wide b6), by simp; omega, htok6, aL6, sL6, hkz, by omega, ?_⟩
        rw [hmm, hm1, if_neg hn', e2]
        simp only [Except.bind]
        rw [if_neg (by rw [hno]; exact Bool.false_ne_true), e3]
        simp only
        rw [e4]
        simp only
        rw [mitems_succ, e6]
        rfl
    · have hkf : ¬ t.kind = .item := of_decide_eq_false c
      have hres : mitem ms.length m is (t, rest1) = .ok is := by
        unfold mitem
        rw [if_neg hkf]
      exact kS is (by rw [hmm, hres]) H1 hH1 b1
end
end Fm

/-! read_list. -/
namespace Fm
open PySem PySem.Spec PyProof.Rows L2
open Vaskya (Measure Item Sheet)
theorem sign_ne {b : UInt8} {k : Kd} (h : signKind b = some k) : k ≠ .number := by
  unfold signKind at h
  by_cases h1 : b = 44
  · rw [if_pos h1] at h; cases h; decide
  · rw [if_neg h1] at h
    by_cases h2 : b = 58
    · rw [if_pos h2] at h; cases h; decide
    · rw [if_neg h2] at h
      by_cases h3 : b = 59
      · rw [if_pos h3] at h; cases h; decide
      · rw [if_neg h3] at h
        by_cases h4 : b = 45
        · rw [if_pos h4] at h; cases h; decide
        · rw [if_neg h4] at h; cases h
theorem mtoken_digs {l : VaskyBase.Bytes} {k : Kd} {s : VaskyBase.Bytes} {p : Nat} (h : mtoken l = some (k, s)) (hl : l.length ≤ 10000) : k = .number → DigOk ⟨k, p, s⟩ := by
  intro hk
  cases l with
  | nil => cases h
  | cons b r =>
    unfold mtoken at h
    dsimp only at h
    split at h
    · unfold mname at h
      dsimp only at h
      split at h
      · cases h
      · cases h
        rcases kind_cases (List.takeWhile alnum (b :: r)) with z | z
        · rw [z] at hk; cases hk
        · rw [hk] at z; exact absurd z (by decide)
    · split at h
      · unfold mnumber at h
        dsimp only at h
        split at h
        · cases h
        · cases h
          refine ⟨fun c hc => (List.all_takeWhile (p := VaskyBase.isDigit) (l := b :: r) |> List.all_eq_true.mp) c hc, ?_⟩
          have := take_while_len VaskyBase.isDigit (b :: r)
          show (List.takeWhile VaskyBase.isDigit (b :: r)).length ≤ 10000
          omega
      · cases e : signKind b with
        | none => rw [e] at h; cases h
        | some k2 =>
          rw [e] at h
          cases h
          exact absurd hk (sign_ne e)
theorem mloop_digs : ∀ (n p : Nat) (l : VaskyBase.Bytes) (ts : List MTok), l.length ≤ 10000 → mloop n p l = .ok ts → Digs ts
  | 0, p, l, ts, _, h => by
    cases h
    intro t ht hk
    rw [List.mem_singleton.mp ht] at hk
    cases hk
  | n + 1, p, [], ts, _, h => by
    cases h
    intro t ht hk
    rw [List.mem_singleton.mp ht] at hk
    cases hk
  | n + 1, p, b :: r, ts, hl, h => by
    unfold mloop at h
    cases e : mtoken (b :: r) with
    | none => rw [e] at h; cases h
    | some x =>
      obtain ⟨k, s⟩ := x
      rw [e] at h
      dsimp only at h
      cases e2 : mloop n (p + s.length + skipB false ((b :: r).drop s.length)) (((b :: r).drop s.length).drop (skipB false ((b :: r).drop s.length))) with
      | error q => rw [e2] at h; cases h
      | ok us =>
        rw [e2] at h
        cases h
        intro t ht hk
        rcases List.mem_cons.mp ht with rfl | ht
        · exact mtoken_digs e hl hk
        · exact mloop_digs n _ _ us (by rw [List.length_drop, List.length_drop]; omega) e2 t ht hk
/-- a sheet as the reading makes it -/
structure SheetOk (s : Sheet) : Prop where
  m0 : 0 < s.ms.length
  m4 : s.ms.length ≤ 4
  i16 : s.items.length ≤ 16
  wide : ∀ i ∈ s.items, i.vs.length = s.ms.length
  vals : ∀ i ∈ s.items, ∀ v ∈ i.vs, v.natAbs ≤ 1000
  names : (∀ m ∈ s.ms, m.name.length ≤ 10000) ∧ ∀ i ∈ s.items, i.name.length ≤ 10000
theorem mvalue_abs {l : List MTok} {x : Int × List MTok} (h : mvalue l = .ok x) : x.1.natAbs ≤ 1000 := by
  unfold mvalue at h
  cases e : mtake [.minus, .number] l with
  | error f => rw [e] at h; cases h
  | ok y =>
    rw [e] at h
    simp only [Except.bind] at h
    split at h
    · cases e2 : mtake [.number] y.2 with
      | error f => rw [e2] at h; cases h
      | ok z =>
        rw [e2] at h
        simp only at h
        cases e3 : mvalueOf z.1 with
        | error f => rw [e3] at h; cases h
        | ok v =>
          rw [e3] at h
          cases h
          have := mvalueOf_ok e3
          show (-v).natAbs ≤ 1000
          omega
    · cases e3 : mvalueOf y.1 with
      | error f => rw [e3] at h; cases h
      | ok v =>
        rw [e3] at h
        cases h
        have := mvalueOf_ok e3
        show v.natAbs ≤ 1000
        omega
theorem mmore_abs : ∀ (n : Nat) (vs : List Int) (l : List MTok) (x : List Int × List MTok), mmore n vs l = .ok x → (∀ v ∈ vs, v.natAbs ≤ 1000) → ∀ v ∈ x.1, v.natAbs ≤ 1000
  | 0, vs, l, x, h, hv => by
    unfold mmore at h
    cases e : mtake [.semi] l with
    | error f => rw [e] at h; cases h
    | ok y => rw [e] at h; cases h; exact hv
  | n + 1, vs, l, x, h, hv => by
    unfold mmore at h
    cases e : mtake [.comma] l with
    | error f => rw [e] at h; cases h
    | ok y =>
      rw [e] at h
      simp only [Except.bind] at h
      cases e2 : mvalue y.2 with
      | error f => rw [e2] at h; cases h
      | ok v =>
        rw [e2] at h
        refine mmore_abs n _ _ x h fun z hz => ?_
        rcases List.mem_append.mp hz with hz | hz
        · exact hv z hz
        · rw [List.mem_singleton.mp hz]
          exact mvalue_abs e2
theorem mrow_abs {k : Nat} {l : List MTok} {x : List Int × List MTok} (h : mrow k l = .ok x) : ∀ v ∈ x.1, v.natAbs ≤ 1000 := by
  unfold mrow at h
  cases e2 : mvalue l with
  | error f => rw [e2] at h; cases h
  | ok v =>
    rw [e2] at h
    exact mmore_abs _ _ _ x h fun z hz => by rw [List.mem_singleton.mp hz]; exact mvalue_abs e2
theorem mtake_mem {ks : List Kd} {l : List MTok} {x : MTok × List MTok} (h : mtake ks l = .ok x) : ∀ t ∈ x.2, t ∈ l := fun t ht => by
  rw [(mtake_ok h).1]
  exact List.mem_cons_of_mem _ ht
theorem mvalue_mem {l : List MTok} {x : Int × List MTok} (h : mvalue l = .ok x) : ∀ t ∈ x.2, t ∈ l := by
  unfold mvalue at h
  cases e : mtake [.minus, .number] l with
  | error f => rw [e] at h; cases h
  | ok y =>
    rw [e] at h
    have hy := mtake_mem e
    simp only [Except.bind] at h
    split at h
    · cases e2 : mtake [.number] y.2 with
      | error f => rw [e2] at h; cases h
      | ok z =>
        rw [e2] at h
        have hz := mtake_mem e2
        simp only at h
        cases e3 : mvalueOf z.1 with
        | error f => rw [e3] at h; cases h
        | ok v => rw [e3] at h; cases h; exact fun t ht => hy t (hz t ht)
    · cases e3 : mvalueOf y.1 with
      | error f => rw [e3] at h; cases h
      | ok v => rw [e3] at h; cases h; exact hy
theorem mmore_mem : ∀ (n : Nat) (vs : List Int) (l : List MTok) (x : List Int × List MTok), mmore n vs l = .ok x → ∀ t ∈ x.2, t ∈ l
  | 0, vs, l, x, h => by
    unfold mmore at h
    cases e : mtake [.semi] l with
    | error f => rw [e] at h; cases h
    | ok y => rw [e] at h; cases h; exact mtake_mem e
  | n + 1, vs, l, x, h => by
    unfold mmore at h
    cases e : mtake [.comma] l with
    | error f => rw [e] at h; cases h
    | ok y =>
      rw [e] at h
      simp only [Except.bind] at h
      cases e2 : mvalue y.2 with
      | error f => rw [e2] at h; cases h
      | ok v =>
        rw [e2] at h
        exact fun t ht => mtake_mem e t (mvalue_mem e2 t (mmore_mem n _ _ x h t ht))
theorem mrow_mem {k : Nat} {l : List MTok} {x : List Int × List MTok} (h : mrow k l = .ok x) : ∀ t ∈ x.2, t ∈ l := by
  unfold mrow at h
  cases e2 : mvalue l with
  | error f => rw [e2] at h; cases h
  | ok v =>
    rw [e2] at h
    exact fun t ht => mvalue_mem e2 t (mmore_mem _ _ _ x h t ht)
theorem mitems_ok {ms : List Measure} (hm0 : 0 < ms.length) (hm4 : ms.length ≤ 4) (hmn : ∀ m ∈ ms, m.name.length ≤ 10000) {ts : List MTok} (hts : ∀ t ∈ ts, t.sp.length ≤ 10000) : ∀ (n : Nat) (is : List Item) (l : List MTok) (r : List Item), mitems ms.length n is l = .ok r → (∀ t ∈ l, t ∈ ts) → SheetOk ⟨ms, is⟩ → SheetOk ⟨ms, r⟩
  | 0, _, _, _, h, _, _ => by cases h
  | n + 1, is, l, r, h, hl, ok => by
    unfold mitems at h
    cases e : mtake [.item, .fin] l with
    | error f => rw [e] at h; cases h
    | ok y =>
      rw [e] at h
      simp only [Except.bind] at h
      split at h
      · split at h
        · cases h
        · rename_i h16
          cases e2 : mtake [.name] y.2 with
          | error f => rw [e2] at h; cases h
          | ok z =>
            rw [e2] at h
            simp only at h
            split at h
            · cases h
            · cases e3 : mtake [.colon] z.2 with
              | error f => rw [e3] at h; cases h
              | ok c =>
                rw [e3] at h
                simp only at h
                cases e4 : mrow ms.length c.2 with
                | error f => rw [e4] at h; cases h
                | ok v =>
                  rw [e4] at h
                  have sub1 : ∀ t ∈ y.2, t ∈ ts := fun t ht => hl t (by rw [(mtake_ok e).1]; exact List.mem_cons_of_mem _ ht)
                  have hz : z.1 ∈ ts := sub1 z.1 (by rw [(mtake_ok e2).1]; exact List.mem_cons_self)
                  refine mitems_ok hm0 hm4 hmn hts n _ v.2 r h (fun t ht => ?_) ⟨hm0, hm4, ?_, ?_, ?_, hmn, ?_⟩
                  · exact sub1 t (by rw [(mtake_ok e2).1]; exact List.mem_cons_of_mem _ (by rw [(mtake_ok e3).1]; exact List.mem_cons_of_mem _ (mrow_mem e4 t ht)))
                  · have := ok.i16
                    simp only [List.length_append, List.length_singleton] at this ⊢
                    omega
                  · intro i hi
                    rcases List.mem_append.mp hi with hi | hi
                    · exact ok.wide i hi
                    · rw [List.mem_singleton.mp hi]
                      exact mrow_width hm0 e4
                  · intro i hi
                    rcases List.mem_append.mp hi with hi | hi
                    · exact ok.vals i hi
                    · rw [List.mem_singleton.mp hi]
                      exact mrow_abs e4
                  · intro i hi
                    rcases List.mem_append.mp hi with hi | hi
                    · exact ok.names.2 i hi
                    · rw [List.mem_singleton.mp hi]
                      exact hts _ hz
      · cases h
        exact ok
theorem mloop_sp : ∀ (n p : Nat) (l : VaskyBase.Bytes) (ts : List MTok), l.length ≤ 10000 → mloop n p l = .ok ts → ∀ t ∈ ts, t.sp.length ≤ 10000
  | 0, p, l, ts, _, h => by
    cases h
    intro t ht
    rw [List.mem_singleton.mp ht]
    exact Nat.zero_le _
  | n + 1, p, [], ts, _, h => by
    cases h
    intro t ht
    rw [List.mem_singleton.mp ht]
    exact Nat.zero_le _
  | n + 1, p, b :: r, ts, hl, h => by
    unfold mloop at h
    cases e : mtoken (b :: r) with
    | none => rw [e] at h; cases h
    | some x =>
      obtain ⟨k, s⟩ := x
      rw [e] at h
      dsimp only at h
      cases e2 : mloop n (p + s.length + skipB false ((b :: r).drop s.length)) (((b :: r).drop s.length).drop (skipB false ((b :: r).drop s.length))) with
      | error q => rw [e2] at h; cases h
      | ok us =>
        rw [e2] at h
        cases h
        intro t ht
        rcases List.mem_cons.mp ht with rfl | ht
        · exact Nat.le_trans (mtoken_len e).2 hl
        · exact mloop_sp n _ _ us (by rw [List.length_drop, List.length_drop]; omega) e2 t ht
theorem mmeasures_names {ts : List MTok} (hts : ∀ t ∈ ts, t.sp.length ≤ 10000) : ∀ (n : Nat) (ms : List Measure) (l : List MTok) (x : List Measure × List MTok), mmeasures n ms l = .ok x → (∀ t ∈ l, t ∈ ts) → (∀ m ∈ ms, m.name.length ≤ 10000) → (∀ m ∈ x.1, m.name.length ≤ 10000) ∧ ∀ t ∈ x.2, t ∈ ts
  | 0, _, _, _, h, _, _ => by cases h
  | n + 1, ms, l, x, h, hl, hm => by
    unfold mmeasures at h
    cases e : mtake [.name] l with
    | error f => rw [e] at h; cases h
    | ok y =>
      rw [e] at h
      simp only [Except.bind] at h
      split at h
      · cases h
      · split at h
        · cases h
        · cases e2 : mtake [.up, .down] y.2 with
          | error f => rw [e2] at h; cases h
          | ok z =>
            rw [e2] at h
            simp only at h
            cases e3 : mtake [.comma, .semi] z.2 with
            | error f => rw [e3] at h; cases h
            | ok u =>
              rw [e3] at h
              simp only at h
              have hy : y.1 ∈ ts := hl y.1 (by rw [(mtake_ok e).1]; exact List.mem_cons_self)
              have sub : ∀ t ∈ u.2, t ∈ ts := fun t ht => hl t (mtake_mem e t (mtake_mem e2 t (mtake_mem e3 t ht)))
              have hm' : ∀ m ∈ ms ++ [(⟨y.1.sp, decide (z.1.kind = .up)⟩ : Measure)], m.name.length ≤ 10000 := fun m hmm => by
                rcases List.mem_append.mp hmm with q | q
                · exact hm m q
                · rw [List.mem_singleton.mp q]
                  exact hts _ hy
              split at h
              · exact mmeasures_names hts n _ _ x h sub hm'
              · cases h
                exact ⟨hm', sub⟩
theorem mread_ok {b : VaskyBase.Bytes} {s : Sheet} (h : mread b = .ok s) : SheetOk s := by
  unfold mread at h
  split at h
  · cases h
  · rename_i hb
    cases e : mtokens b with
    | error p => rw [e] at h; cases h
    | ok ts =>
      rw [e] at h
      simp only at h
      have hg : Good ts := mloop_good _ _ _ _ e
      have hts := mloop_sp _ _ _ _ (by rw [List.length_drop]; omega) e
      cases e1 : mtake [.measures] ts with
      | error f => rw [e1] at h; cases h
      | ok x =>
        rw [e1] at h
        simp only [Except.bind] at h
        cases e2 : mmeasures (x.2.length + 1) [] x.2 with
        | error f => rw [e2] at h; cases h
        | ok y =>
          rw [e2] at h
          simp only at h
          cases e3 : mitems y.1.length (y.2.length + 1) [] y.2 with
          | error f => rw [e3] at h; cases h
          | ok is =>
            rw [e3] at h
            cases h
            have hy := mmeasures_good _ _ _ _ e2 (mtake_good e1 hg (by decide)) (by decide)
            have hn := mmeasures_names hts _ _ _ _ e2 (mtake_mem e1) (by simp)
            exact mitems_ok hy.2.1 hy.2.2 hn.1 hts _ _ _ _ e3 hn.2 ⟨hy.2.1, hy.2.2, Nat.zero_le _, by simp, by simp, hn.1, by simp⟩
/-! ### the def -/
def spReadList (K : PySem.W.Frag) (CH CF : Addr) : Sp := fun vs H Q E => ∃ (a : Addr) (l : VaskyBase.Bytes) (L : List Addr), vs = [.ref a] ∧ SqL K H a (vb l) ∧ (∀ b ∈ L, H b ≠ none) ∧
  (∀ s, Vaskya.read l = .ok s → SheetOk s → ∀ H' (x : HA), x.old = L → (∀ b ∈ L, b ∉ x.ls) → Same H H' → HeldAt CH H' x s → Q (.ref x.a) H') ∧
  (∀ f : VaskyBase.Fault, Vaskya.read l = .error f → ∀ H' d, Same H H' → H' d = some (.xd (ff f.code f.place)) → E (.ref CF) (some d) H')
section
variable {P : Program} {w : World} {K : PySem.W.Frag} {mg : Str → Option Value} {base : Heap}
theorem scReadList : FnScope ["text", "reader", "held"] ["text"] (defScope sReadList) := ⟨rfl, rfl, rfl, by decide +kernel, rfl, by decide +kernel, by decide +kernel⟩
theorem ok_readList (D : DefT K mg "read_list" sReadList ["text"]) (T : TokC K mg) (RC : RdC K mg) (NR : RdT K RC.C) (HC : HeldC K mg) (NH : HeldT K HC.C) (FT : FltT K mg)
    (FK : DefT K mg "tokens_of" sTokensOf ["text"]) (GK : FnOk P w K mg base (L2.CX P w) 6 FK.f FK.fd ["text"] (spTokens K T.C FT.C))
    (FM : DefT K mg "read_measures" sReadMeasures ["reader", "held"]) (GM : FnOk P w K mg base (L2.CX P w) 4 FM.f FM.fd ["reader", "held"] (spReadMeasures T.C RC.C HC.C FT.C))
    (FI : DefT K mg "read_items" sReadItems ["reader", "held"]) (GI_ : FnOk P w K mg base (L2.CX P w) 6 FI.f FI.fd ["reader", "held"] (spReadItems T.C RC.C HC.C FT.C))
    (gl : mg "len" = none) (gB : GI mg "MOST_BYTES" 4096) (gL : GI mg "TOO_LONG" 1) :
    FnOk P w K mg base (L2.CX P w) 7 D.f D.fd ["text"] (spReadList K HC.C FT.C) := by
  refine D.F.okX scReadList (fun vs H Q E h => ?_) (fun cdv A outer s H vs Q E hr h => ?_)
  · obtain ⟨a, l, L, rfl, _⟩ := h
    rfl
  · obtain ⟨a, l, L, rfl, hl, hL, kS, kF⟩ := h
    have hr2 : Room 2 _ := hr.mono (by decide)
    have hr4 : Room 4 _ := hr.mono (by decide)
    refine ⟨_, pss_cons (ps_if (pt_cmpR op_gt (pe_callB call_len_seq (by rfl) gl PySem.boot_len (pa_cons (pv 0) pa_nil)) (pe_gi gB) (nomark _))
        (pss_one (ps_fault FT.F FT.T FT.b hr2 (takes_of rfl rfl rfl rfl) (pa_cons (pe_gi gL) (pa_cons (pe_gi gB) pa_nil)))) pss_nil)
      (pss_cons (ps_set (i := 1) scReadList.nd rfl (Or.inl rfl) (pe_make RC.makes (ok_rdInit RC NR) hr2 (by rfl) RC.g RC.b .nil pass0 (pa_cons (pe_call GK hr rfl FK.g FK.F.kp FK.b .nil (passes_call (takes_of rfl rfl rfl rfl) (fun _ _ _ _ h => h)) (pa_cons (pv 0) pa_nil)) pa_nil)))
      (pss_cons (ps_set (i := 2) scReadList.nd rfl (Or.inl rfl) (pe_make0 HC.makes (ok_heldInit HC NH) hr2 (by rfl) HC.g HC.b .nil pass0))
      (pss_cons (ps_expr (pe_call GM hr4 rfl FM.g FM.F.kp FM.b .nil (passes_call (takes_of rfl rfl rfl rfl) (fun _ _ _ _ h => h)) (pa_cons (pv 1) (pa_cons (pv 2) pa_nil))))
      (pss_cons (ps_expr (pe_call GI_ hr rfl FI.g FI.F.kp FI.b .nil (passes_call (takes_of rfl rfl rfl rfl) (fun _ _ _ _ h => h)) (pa_cons (pv 1) (pa_cons (pv 2) pa_nil))))
      (pss_one (ps_ret (pv 2))))))), ?_⟩
    rw [show Vaskya.read l = mread l from read_is l] at kS kF
    refine ⟨_, rfl, a, _, rfl, .inl hl, _, _, rfl, rfl, _, rfl, ?_⟩
    rw [vb_len]
    refine ite2 (fun c => ?_) (fun c => ?_)
    · have hb : 4096 < l.length := by
        have := of_decide_eq_true c
        omega
      have hm : mread l = .error ⟨1, 4096⟩ := by
        unfold mread
        rw [if_pos hb]
      refine mkf fun d hd => kF _ hm _ d (fun b o q => ?_) upd_same
      rw [upd_ne (ne_of_none q hd)]
      exact q
    · have hb : ¬ 4096 < l.length := fun z => c (decide_eq_true (by omega))
      have hm : mread l = match mtokens l with
        | .error p => .error ⟨2, p⟩
        | .ok ts => (mtake [.measures] ts).bind fun x => (mmeasures (x.2.length + 1) [] x.2).bind fun y => (mitems y.1.length (y.2.length + 1) [] y.2).map fun is => ⟨y.1, is⟩ := by
        unfold mread
        rw [if_neg hb]
        all_goals (cases mtokens l <;> rfl)
      refine ⟨_, rfl, a, l, L, rfl, hl, by omega, hL, fun ts ets H1 tl sm1 htl hT => ?_, fun p ep H1 d sm1 hd => kF ⟨2, p⟩ (by rw [hm, ep]) H1 d sm1 hd⟩
      rw [ets] at hm
      simp only at hm
      have hok : ∀ {s : Sheet}, mread l = .ok s → SheetOk s := fun {s} z => mread_ok z
      intro r dx nx nd ne
      refine ⟨r, dx, tl, rfl, upd_same, rfl, ?_⟩
      rw [upd_upd]
      have sm2 : Same H1 (upd (upd H1 dx (.own r)) r (.ins RC.C dx (rF tl 0))) := fun b o e => by
        rw [upd_ne (ne_of_none e nx), upd_ne (ne_of_none e nd)]
        exact e
      have hT2 := hT.same sm2
      have hr2' : upd (upd H1 dx (.own r)) r (.ins RC.C dx (rF tl 0)) r = some (.ins RC.C dx (rF tl 0)) := upd_same
      revert sm2 hT2 hr2'
      generalize upd (upd H1 dx (.own r)) r (.ins RC.C dx (rF tl 0)) = H2
      intro sm2 hT2 hr2'
      intro h dh nh ndh neh
      refine ⟨h, dh, L, rfl, upd_same, fun H3 x hxa hxo hH3 hxn k3 => ⟨rfl, ?_⟩⟩
      subst hxa
      have sm3 : Same H2 H3 := fun b o e => k3 b o (by rw [upd_ne (ne_of_none e nh), upd_ne (ne_of_none e ndh)]; exact e) (ne_of_none e nh)
      have fresh : ∀ b ∈ x.ls, H2 b = none := fun b hb => by
        have := hxn b hb
        cases e : H2 b with
        | none => rfl
        | some o =>
          rw [upd_ne (ne_of_none e nh), upd_ne (ne_of_none e ndh), e] at this
          cases this
      have hg : Good ts := mloop_good _ _ _ _ ets
      have hdg : Digs ts := mloop_digs _ _ _ _ (by rw [List.length_drop]; omega) ets
      have R2 : Rdy T.C RC.C H2 r tl x.av ts ts := ⟨⟨⟨0, dx, rfl, Nat.zero_le _, hr2'⟩, by unfold HA.av; rw [hxo]; exact hT2.app fresh, fun z => by
        rcases List.mem_append.mp z with z | z
        · rw [fresh r z] at hr2'; cases hr2'
        · rw [hxo] at z
          exact hL r z (sm1.free nx)⟩, hg, hdg⟩
      have R3 : Rdy T.C RC.C H3 r tl x.av ts ts := R2.same sm3
      have smH3 : Same H H3 := sm1.trans (sm2.trans sm3)
      have back : ∀ {H' : Hp}, But (r :: x.ls) H3 H' → Same H H' := fun {H'} b c o e => b c o (smH3 c o e) (fun z => by
        rcases List.mem_cons.mp z with z | z
        · rw [z] at e
          rw [sm1 _ _ e] at nx
          cases nx
        · have := fresh c z
          rw [sm2 _ _ (sm1 _ _ e)] at this
          cases this)
      refine ⟨_, rfl, _, rfl, r, tl, x, ts, ts, rfl, R3, hH3, fun ms rest1 e1 H4 R4 hH4 b4 => ?_, fun f e1 H4 d b4 hd => kF f (by rw [hm]; unfold mm at e1; cases e2 : mtake [.measures] ts with
        | error g =>
          rw [e2] at e1
          have q : (Except.error g : R (List Measure × List MTok)) = .error f := e1
          cases q
          rfl
        | ok y => rw [e2] at e1; simp only [Except.bind] at e1 ⊢; rw [e1]) H4 d (back b4) hd⟩
      have offx : ∀ b ∈ L, b ∉ x.ls := fun b hb z => hL b hb (((sm1.trans sm2)).free (fresh b z))
      have hold4 : ∀ {H' : Hp}, Same H H' → ∀ b ∈ x.old, H' b ≠ none ∧ b ∉ x.ls := fun {H'} s b hb => by
        rw [hxo] at hb
        exact ⟨fun z => hL b hb (s.free z), offx b hb⟩
      have hms : 0 < ms.length ∧ ms.length ≤ 4 := by
        unfold mm at e1
        cases e2 : mtake [.measures] ts with
        | error g => rw [e2] at e1; cases e1
        | ok y =>
          rw [e2] at e1
          exact (mmeasures_good _ _ _ _ e1 (mtake_good e2 hg (by decide)) (by decide)).2
      have hm2 : mread l = (mitems ms.length (rest1.length + 1) [] rest1).map fun is => ⟨ms, is⟩ := by
        rw [hm]
        unfold mm at e1
        cases e2 : mtake [.measures] ts with
        | error g => rw [e2] at e1; cases e1
        | ok y =>
          rw [e2] at e1
          simp only [Except.bind] at e1 ⊢
          rw [e1]
      refine ⟨_, rfl, _, rfl, r, tl, x, ms, ts, rest1, rfl, R4, hH4, hold4 (back b4), hms.1, hms.2, fun is e2 H5 hH5 b5 => ?_, fun f e2 H5 d b5 hd => kF f (by rw [hm2, e2]; rfl) H5 d (back (b4.trans b5)) hd⟩
      have hfin : mread l = .ok ⟨ms, is⟩ := by rw [hm2, e2]; rfl
      exact ⟨_, rfl, kS _ hfin (hok hfin) H5 x hxo offx (back (b4.trans b5)) hH5⟩
end
end Fm

/-! line_of, one_form. -/
namespace Fm
open PySem PySem.Spec PyProof.Rows L2
open Vaskya (Measure Item Sheet)
abbrev sLineOf : Stmt := top 61
abbrev sOneForm : Stmt := top 62
theorem num_pos : ∀ n < 1001, codes (Str.ofString (toString ((n : Nat) : Int))) = bi (VaskyBase.showInt ((n : Nat) : Int)) ∧ (VaskyBase.showInt ((n : Nat) : Int)).length ≤ 5 := by decide +kernel
theorem num_neg : ∀ n < 1001, codes (Str.ofString (toString (-((n : Nat) : Int)))) = bi (VaskyBase.showInt (-((n : Nat) : Int))) ∧ (VaskyBase.showInt (-((n : Nat) : Int))).length ≤ 5 := by decide +kernel
theorem num_text {v : Int} (h : v.natAbs ≤ 1000) : codes (Str.ofString (toString v)) = bi (VaskyBase.showInt v) ∧ (VaskyBase.showInt v).length ≤ 5 := by
  by_cases c : 0 ≤ v
  · have e : v = ((v.natAbs : Nat) : Int) := by omega
    rw [e]
    exact num_pos _ (by omega)
  · have e : v = -((v.natAbs : Nat) : Int) := by omega
    rw [e]
    exact num_neg _ (by omega)
theorem vb_app (a b : VaskyBase.Bytes) : vb (a ++ b) = vb a ++ vb b := List.map_append ..
theorem codes_len (z : Str) : (codes z).length = z.cps.size := by simp [codes]
theorem bi_len (l : VaskyBase.Bytes) : (bi l).length = l.length := List.length_map ..
/-- behind the first part: a comma ahead of each -/
def tails (l : List VaskyBase.Bytes) : VaskyBase.Bytes := l.flatMap fun p => VaskyBase.word ", " ++ p
theorem joined_tails (x : VaskyBase.Bytes) : ∀ r : List VaskyBase.Bytes, VaskyBase.joined (VaskyBase.word ", ") (x :: r) = x ++ tails r
  | [] => by simp [VaskyBase.joined, tails]
  | y :: r => by
    have ih := joined_tails y r
    show x ++ VaskyBase.word ", " ++ VaskyBase.joined (VaskyBase.word ", ") (y :: r) = _
    rw [ih]
    unfold tails
    rw [List.flatMap_cons]
    simp only [List.append_assoc]
theorem tails_take (l : List VaskyBase.Bytes) (i : Nat) : (tails (l.take i)).length ≤ (tails l).length := by
  conv => rhs; rw [← List.take_append_drop i l]
  unfold tails
  rw [List.flatMap_append, List.length_append]
  omega
theorem tails_snoc {l : List VaskyBase.Bytes} {i : Nat} {p : VaskyBase.Bytes} (h : l[i]? = some p) : tails (l.take (i + 1)) = tails (l.take i) ++ (VaskyBase.word ", " ++ p) := by
  rw [List.take_add_one, h]
  unfold tails
  rw [List.flatMap_append]
  simp
def lineB (start : VaskyBase.Bytes) (parts : List VaskyBase.Bytes) : VaskyBase.Bytes := start ++ (VaskyBase.joined (VaskyBase.word ", ") parts ++ VaskyBase.word " ;\n")
theorem RL.drop1 {H : Hp} {vs : List V} {ls : List (List Int)} (h : RL H vs ls) : RL H (vs.drop 1) (ls.drop 1) := by
  cases h with
  | nil => exact .nil
  | cons _ r => exact r
def spLineOf : Sp := fun vs H Q _ => ∃ (s p : Addr) (start : VaskyBase.Bytes) (vp : List V) (x : VaskyBase.Bytes) (r : List VaskyBase.Bytes), vs = [.ref s, .ref p] ∧ H s = some (.lst (vb start)) ∧ H p = some (.lst vp) ∧ RL H vp ((x :: r).map bi) ∧
  start.length + x.length + (tails r).length ≤ 10000000 ∧ ∀ H' q, Same H H' → H q = none → H' q = some (.lst (vb (lineB start (x :: r)))) → Q (.ref q) H'
theorem cut_from (xs : List V) : cutV xs (some ((1 : Nat) : Int)) none = xs.drop 1 := by
  unfold cutV
  rw [HT.sIx_nat, HT.sIx_none]
  cases xs with
  | nil => rfl
  | cons a l =>
    have e : min 1 (a :: l).length = 1 := by simp
    rw [e]
    apply List.take_of_length_le
    rw [List.length_drop]
    omega
section
variable {P : Program} {w : World} {K : PySem.W.Frag} {mg : Str → Option Value} {base : Heap}
theorem scLineOf : FnScope ["start", "parts", "line", "part"] ["start", "parts"] (defScope sLineOf) := ⟨rfl, rfl, rfl, by decide +kernel, rfl, by decide +kernel, by decide +kernel⟩
/-- what spelled of a written text hands over -/
theorem spell_told {z : Str} {b : VaskyBase.Bytes} {H : Hp} {Q : VK} {E : XK} (hz : codes z = bi b) (hb : b.length ≤ 100000) (q : ∀ p, H p = none → Q (.ref p) (upd H p (.lst (vb b)))) : spSpelled ([.str z] ++ []) H Q E := by
  refine ⟨z, rfl, ?_, fun p hp => ?_⟩
  · have h1 := codes_len z
    rw [hz, bi_len] at h1
    rw [sizeLine_eq]
    omega
  · rw [hz, ← vb_bi]
    exact q p hp
theorem line10 {n : Nat} (h : n ≤ 10000100) : n ≤ sizeLine := by
  rw [sizeLine_eq]
  omega
theorem ok_lineOf (D : DefT K mg "line_of" sLineOf ["start", "parts"]) (FS : DefT K mg "spelled" sSpelled ["text"]) (go : mg "ord" = none) : FnOk P w K mg base CX0 2 D.f D.fd ["start", "parts"] spLineOf := by
  refine D.F.ok scLineOf (fun vs H Q E h => ?_) (fun cdv A outer s H vs Q E hr h => ?_)
  · obtain ⟨s, p, start, vp, x, r, rfl, _⟩ := h
    rfl
  · obtain ⟨s, p, start, vp, x, r, rfl, hs, hp, hr0, hz, k⟩ := h
    refine ⟨_, pss_cons (ps_set (i := 2) scLineOf.nd rfl (Or.inl rfl) (pe_op op_cat (pv 0) (pe_ix ix_list (pv 1) pe_int (fun _ _ => rfl))))
      (pss_cons (ps_for PassesOwn.never rfl (pi_list (pe_slice sl_list (pv 1) (po_some pe_int) po_none)) (pg_name (i := 3) scLineOf.nd rfl (Or.inl rfl))
        (pss_one (ps_set (i := 2) scLineOf.nd rfl (Or.inl rfl) (pe_op op_cat (pe_op op_cat (pv 2) (pe_def FS (ok_spelled FS.F go) hr (pa_cons pe_str pa_nil))) (pv 3)))))
      (pss_one (ps_ret (pe_op op_cat (pv 2) (pe_def FS (ok_spelled FS.F go) hr (pa_cons pe_str pa_nil)))))), ?_⟩
    obtain ⟨a0, hv0, ha0⟩ := hr0.get (i := 0) (l := bi x) rfl
    have w2 : (VaskyBase.word ", ").length = 2 := by decide
    refine ⟨_, rfl, _, rfl, p, vp, _, _, rfl, rfl, SqL.of hp, atI_nat (j := 0) hv0, s, a0, _, _, rfl, rfl, hs, ha0, line10 (by rw [vb_len, List.length_map, bi_len]; omega), fun l0 hl0 => ?_⟩
    have sm0 : Same H (upd H l0 (.lst (vb start ++ (bi x).map V.int))) := same_upd hl0
    refine ⟨_, rfl, _, rfl, p, vp, rfl, SqL.of (sm0 _ _ hp), fun D hD => ?_⟩
    rw [show cutV vp (some (1 : Int)) none = vp.drop 1 from cut_from vp]
    have sm1 : Same H (upd (upd H l0 (.lst (vb start ++ (bi x).map V.int))) D (.lst (vp.drop 1))) := sm0.trans (same_upd hD)
    refine ⟨D, rfl, ⟨_, SqL.of upd_same⟩, for_list (K := K) (a := D) (xs := vp.drop 1) (fun i σ H' => ∃ (q : Addr) (v : Option V), σ = [some (.ref s), some (.ref p), some (.ref q), v] ∧ Same H H' ∧ H q = none ∧ H' D = some (.lst (vp.drop 1)) ∧ H' q = some (.lst (vb (start ++ (x ++ tails (r.take i))))))
      ⟨l0, none, rfl, sm1, hl0, upd_same, ?_⟩ (fun i σ H' _ ⟨_, _, _, _, _, e, _⟩ => SqL.of e) ?_ ?_⟩
    · rw [upd_ne (fun z => by rw [z, upd_same] at hD; cases hD), upd_same]
      have e0 : start ++ (x ++ tails (r.take 0)) = start ++ x := by simp [tails]
      rw [e0, vb_app, vb_bi x]
    · rintro i y σ H1 hi ⟨q, v, rfl, sm, hq, hD1, hq1⟩
      have hrl := hr0.drop1
      rw [List.map_cons, List.drop_succ_cons, List.drop_zero] at hrl
      have hlen := hrl.len
      have hilt : i < r.length := by
        have := (List.getElem?_eq_some_iff.mp hi).1
        rw [hlen, List.length_map] at this
        exact this
      obtain ⟨pt, hpt⟩ : ∃ pt, r[i]? = some pt := ⟨r[i], List.getElem?_eq_getElem hilt⟩
      obtain ⟨a, hva, ha⟩ := hrl.get (i := i) (l := bi pt) (by rw [List.getElem?_map, hpt]; rfl)
      rw [hi] at hva
      cases Option.some.inj hva
      have ht1 := tails_take r i
      have ht2 := tails_take r (i + 1)
      have hsn := tails_snoc hpt
      have hl1 := congrArg List.length hsn
      simp only [List.length_append] at hl1
      refine ⟨_, rfl, ?_⟩
      dsimp only [tCall, tCons, tC, tNil]
      refine spell_told (b := VaskyBase.word ", ") (by decide +kernel) (by decide) fun p1 hp1 => ?_
      have sm2 := same_upd (o := .lst (vb (VaskyBase.word ", "))) hp1
      refine ⟨q, p1, _, _, rfl, rfl, sm2 _ _ hq1, upd_same, line10 (by simp only [vb_len, List.length_append]; omega), fun p2 hp2 => ?_⟩
      have sm3 := same_upd (o := .lst (vb (start ++ (x ++ tails (r.take i))) ++ vb (VaskyBase.word ", "))) hp2
      refine ⟨_, rfl, p2, a, _, _, rfl, rfl, upd_same, sm3 _ _ (sm2 _ _ (sm _ _ ha)), line10 (by simp only [List.length_append, vb_len, List.length_map, bi_len]; omega), fun p3 hp3 => ?_⟩
      have sm4 := same_upd (o := .lst (vb (start ++ (x ++ tails (r.take i))) ++ vb (VaskyBase.word ", ") ++ (bi pt).map V.int)) hp3
      have smA := sm2.trans (sm3.trans sm4)
      refine ⟨p3, _, rfl, sm.trans smA, sm.free (sm2.free (sm3.free hp3)), smA _ _ hD1, ?_⟩
      rw [upd_same, hsn, vb_bi pt |>.symm]
      simp only [vb_app, List.append_assoc]
    · rintro σ H1 ⟨q, v, rfl, sm, hq, hD1, hq1⟩
      have hrl := hr0.drop1
      rw [List.map_cons, List.drop_succ_cons, List.drop_zero] at hrl
      have hlen := hrl.len
      rw [List.length_map] at hlen
      rw [hlen, List.take_length] at hq1
      refine ⟨_, rfl, ?_⟩
      dsimp only [tCall, tCons, tC, tNil]
      refine spell_told (b := VaskyBase.word " ;\n") (by decide +kernel) (by decide) fun p1 hp1 => ?_
      have w3 : (VaskyBase.word " ;\n").length = 3 := by decide
      have sm2 := same_upd (o := .lst (vb (VaskyBase.word " ;\n"))) hp1
      refine ⟨q, p1, _, _, rfl, rfl, sm2 _ _ hq1, upd_same, line10 (by simp only [vb_len, List.length_append]; omega), fun p2 hp2 => ?_⟩
      have sm3 := same_upd (o := .lst (vb (start ++ (x ++ tails r)) ++ vb (VaskyBase.word " ;\n"))) hp2
      refine k _ p2 (sm.trans (sm2.trans sm3)) (sm.free (sm2.free hp2)) ?_
      rw [upd_same]
      unfold lineB
      rw [joined_tails]
      simp only [vb_app, List.append_assoc]
end
end Fm

/-! one_form. -/
namespace Fm
open PySem PySem.Spec PyProof.Rows L2
open Vaskya (Measure Item Sheet)
def itemStart (n : VaskyBase.Bytes) : VaskyBase.Bytes := VaskyBase.word "item " ++ n ++ VaskyBase.word " : "
theorem item_line (i : Item) : Vaskya.showItem i = lineB (itemStart i.name) (i.vs.map VaskyBase.showInt) := by
  unfold Vaskya.showItem Vaskya.line Vaskya.commas lineB itemStart
  have e : VaskyBase.word " ;\n" = VaskyBase.word " ;" ++ [10] := by decide +kernel
  rw [e]
  simp only [List.append_assoc]
theorem shown_line (s : Sheet) : Vaskya.shown s = lineB (VaskyBase.word "measures ") (s.ms.map Vaskya.showMeasure) ++ s.items.flatMap Vaskya.showItem := by
  unfold Vaskya.shown Vaskya.line Vaskya.commas lineB
  have e : VaskyBase.word " ;\n" = VaskyBase.word " ;" ++ [10] := by decide +kernel
  rw [e]
  simp only [List.append_assoc]
def spOneForm (CH : Addr) : Sp := fun vs H Q _ => ∃ (x : HA) (s : Sheet), vs = [.ref x.a] ∧ HeldAt CH H x s ∧ SheetOk s ∧ ∀ H' q, Same H H' → H q = none → H' q = some (.lst (vb (Vaskya.shown s))) → Q (.ref q) H'
theorem lineB_len (st : VaskyBase.Bytes) (x : VaskyBase.Bytes) (r : List VaskyBase.Bytes) : (lineB st (x :: r)).length = st.length + x.length + (tails r).length + 3 := by
  unfold lineB
  rw [joined_tails]
  simp only [List.length_append]
  have : (VaskyBase.word " ;\n").length = 3 := by decide
  omega
theorem tails_len {r : List VaskyBase.Bytes} {n : Nat} (h : ∀ p ∈ r, p.length ≤ n) : (tails r).length ≤ r.length * (n + 2) := by
  induction r with
  | nil => simp [tails]
  | cons p r ih =>
    have e : tails (p :: r) = (VaskyBase.word ", " ++ p) ++ tails r := rfl
    have w2 : (VaskyBase.word ", ").length = 2 := by decide
    rw [e, List.length_append, List.length_append, List.length_cons, Nat.succ_mul]
    have h1 := ih fun q hq => h q (List.mem_cons_of_mem _ hq)
    have h2 := h p List.mem_cons_self
    omega
theorem showM_len {m : Measure} (h : m.name.length ≤ 10000) : (Vaskya.showMeasure m).length ≤ 10005 := by
  unfold Vaskya.showMeasure
  rw [List.length_append]
  cases m.up
  · have : (VaskyBase.word " down").length = 5 := by decide
    simp only [Bool.false_eq_true, if_false]
    omega
  · have : (VaskyBase.word " up").length = 3 := by decide
    simp only [if_true]
    omega
theorem item_len {s : Sheet} (ok : SheetOk s) {i : Item} (h : i ∈ s.items) : (Vaskya.showItem i).length ≤ 10100 := by
  rw [item_line]
  have hw := ok.wide i h
  have hn := ok.names.2 i h
  have hm4 := ok.m4
  have hm0 := ok.m0
  have hv := ok.vals i h
  cases e : i.vs with
  | nil =>
    rw [e] at hw
    simp only [List.length_nil] at hw
    omega
  | cons v r =>
    rw [e] at hw hv
    rw [List.map_cons, lineB_len]
    have h1 := (num_text (hv v List.mem_cons_self)).2
    have h2 := tails_len (r := r.map VaskyBase.showInt) (n := 5) fun p hp => by
      obtain ⟨z, hz, rfl⟩ := List.mem_map.mp hp
      exact (num_text (hv z (List.mem_cons_of_mem _ hz))).2
    rw [List.length_map] at h2
    have h3 : (itemStart i.name).length = i.name.length + 8 := by
      unfold itemStart
      rw [List.length_append, List.length_append]
      have : (VaskyBase.word "item ").length = 5 := by decide
      have : (VaskyBase.word " : ").length = 3 := by decide
      omega
    simp only [List.length_cons] at hw
    omega
theorem items_len {s : Sheet} (ok : SheetOk s) (k : Nat) : ((s.items.take k).flatMap Vaskya.showItem).length ≤ 161600 := by
  have key : ∀ l : List Item, (∀ i ∈ l, i ∈ s.items) → (l.flatMap Vaskya.showItem).length ≤ l.length * 10100 := by
    intro l
    induction l with
    | nil => intro _; simp
    | cons i l ih =>
      intro h
      rw [List.flatMap_cons, List.length_append, List.length_cons, Nat.succ_mul]
      have h1 := ih fun j hj => h j (List.mem_cons_of_mem _ hj)
      have h2 := item_len ok (h i List.mem_cons_self)
      omega
  have h1 := key (s.items.take k) fun i hi => List.mem_of_mem_take hi
  have h2 : (s.items.take k).length ≤ 16 := by
    rw [List.length_take]
    have := ok.i16
    omega
  omega
theorem RL.grow {H H' : Hp} {D p : Addr} {vs : List V} {ls : List (List Int)} {l : List Int} (h : RL H vs ls) (nD : V.ref D ∉ vs) (m : ∀ b o, b ≠ D → H b = some o → H' b = some o) (hp : H' p = some (.lst (l.map V.int))) : RL H' (vs ++ [.ref p]) (ls ++ [l]) :=
  (h.keep fun a o ha e => m a o (fun z => nD (by rw [← z]; exact ha)) e).snoc hp
theorem not_snoc {vs : List V} {D p : Addr} (h : V.ref D ∉ vs) (n : D ≠ p) : V.ref D ∉ vs ++ [V.ref p] := fun z => by
  rcases List.mem_append.mp z with z | z
  · exact h z
  · exact n (V.ref.inj (List.mem_singleton.mp z))
section
variable {P : Program} {w : World} {K : PySem.W.Frag} {mg : Str → Option Value} {base : Heap}
theorem scOneForm : FnScope ["held", "name", "measures", "form", "row", "start", "way", "value"] ["held"] (defScope sOneForm) := ⟨rfl, rfl, rfl, by decide +kernel, rfl, by decide +kernel, by decide +kernel⟩
theorem way_text (up : Bool) : codes ((Str.empty ++ (" " : Str)) ++ way up) = bi (if up = true then VaskyBase.word " up" else VaskyBase.word " down") := by
  cases up <;> decide +kernel
theorem way_len (up : Bool) : (way up).length ≤ sizeLine ∧ ((Str.empty ++ (" " : Str)) ++ way up).length ≤ sizeLine := by
  rw [sizeLine_eq]
  cases up <;> decide +kernel
theorem ok_oneForm {CH : Addr} (D : DefT K mg "one_form" sOneForm ["held"]) (cH : Cls K CH) (NH : HeldT K CH) (FS : DefT K mg "spelled" sSpelled ["text"]) (FL : DefT K mg "line_of" sLineOf ["start", "parts"])
    (go : mg "ord" = none) (gz : mg "zip" = none) (gs : mg "str" = none) : FnOk P w K mg base CX0 3 D.f D.fd ["held"] (spOneForm CH) := by
  have GS_ : ∀ {base : Heap}, FnOk P w K mg base CX0 1 FS.f FS.fd ["text"] spSpelled := fun {base} => ok_spelled FS.F go
  refine D.F.ok scOneForm (fun vs H Q E h => ?_) (fun cdv A outer s H vs Q E hr h => ?_)
  · obtain ⟨x, s, rfl, _⟩ := h
    rfl
  · obtain ⟨x, sh, rfl, hH, ok, k⟩ := h
    have hr1 : Room 1 _ := hr.mono (by decide)
    refine ⟨_, pss_cons (ps_setLc (i := 2) (own := [("name", 1), ("way", 6)]) (g := gTup K 2 (gCons (gName 1) (gCons (gName 6) gNil))) rfl scOneForm.nd rfl rfl (sw_true rfl rfl rfl (by decide +kernel))
          (pi_zip (by rfl) gz (pa_cons (pe_fld (pv 0) rfl) (pa_cons (pe_fld (pv 0) rfl) pa_nil)))
          (blkOk_by (own := [("name", 1), ("way", 6)]) (N := ["held", "name", "measures", "form", "row", "start", "way", "value"]) (sc := defScope sOneForm) (by decide +kernel))
          (fun _ _ _ _ _ => pg_tup rfl (pgs_cons (pg_name (i := 1) scOneForm.nd rfl (Or.inl rfl)) (pgs_cons (pg_name (i := 6) scOneForm.nd rfl (Or.inl rfl)) pgs_nil))) (fun _ _ _ _ _ => pts_nil)
          (fun _ _ _ _ _ => pe_op op_cat (pv 1) (pe_def FS GS_ hr1 (pa_cons (pe_joined (.cons pe_str (.cons (pe_fmt (pv 6)) .nil))) pa_nil))))
      (pss_cons (ps_set (i := 3) scOneForm.nd rfl (Or.inl rfl) (pe_def FL (ok_lineOf FL FS go) hr (pa_cons (pe_def FS GS_ hr1 (pa_cons pe_str pa_nil)) (pa_cons (pv 2) pa_nil))))
      (pss_cons (ps_for PassesOwn.never rfl (pi_zip (by rfl) gz (pa_cons (pe_fld (pv 0) rfl) (pa_cons (pe_fld (pv 0) rfl) pa_nil)))
          (pg_tup rfl (pgs_cons (pg_name (i := 1) scOneForm.nd rfl (Or.inl rfl)) (pgs_cons (pg_name (i := 4) scOneForm.nd rfl (Or.inl rfl)) pgs_nil)))
          (pss_cons (ps_set (i := 5) scOneForm.nd rfl (Or.inl rfl) (pe_op op_cat (pe_op op_cat (pe_def FS GS_ hr1 (pa_cons pe_str pa_nil)) (pv 1)) (pe_def FS GS_ hr1 (pa_cons pe_str pa_nil))))
          (pss_one (ps_expr (pe_bm PySem.F.plainAttrs_list PySem.F.slot_list_extend PySem.F.type_list_extend mt_extend (pv 3)
            (pa_cons (pe_def FL (ok_lineOf FL FS go) hr (pa_cons (pv 5) (pa_cons (pe_lc (own := [("value", 7)]) (g := gName 7) rfl scOneForm.nd (pi_list (pv 4))
              (blkOk_by (own := [("value", 7)]) (N := ["held", "name", "measures", "form", "row", "start", "way", "value"]) (sc := defScope sOneForm) (by decide +kernel))
              (fun _ _ _ _ _ => pg_name (i := 7) scOneForm.nd rfl (Or.inl rfl)) (fun _ _ _ _ _ => pts_nil)
              (fun _ _ _ _ _ => pe_def FS GS_ hr1 (pa_cons (pe_callTy call_str_int (by rfl) gs (by decide +kernel) (pa_cons (pv 7) pa_nil)) pa_nil))) pa_nil))) pa_nil))))))
      (pss_one (ps_ret (pv 3))))), ?_⟩
    have cH' := cH
    obtain ⟨⟨dx, h1⟩, nd, hw, vm, vn, vr, vg, em, rm, en, rn, er, rr, eg, rg, no⟩ := id hH
    have lm : vm.length = sh.ms.length := rm.len.trans (List.length_map ..)
    have ln : vn.length = sh.items.length := rn.len.trans (List.length_map ..)
    have lr : vr.length = sh.items.length := rr.len.trans (List.length_map ..)
    have hm4 := ok.m4
    refine ⟨_, rfl, x.a, CH, dx, _, _, rfl, h1, cH, NH.nM, hF_ms x, _, rfl, x.a, CH, dx, _, _, rfl, h1, cH, NH.nW, hF_ws x, x.ms, x.ws, _, _, rfl, SqL.of em, SqL.of hw, fun D hD => ?_⟩
    refine lc_it (walk_zip (n := sh.ms.length) (by rw [lm, List.length_map]; omega)) (fun i H' => Same H H' ∧ ∃ vs, H' D = some (.lst vs) ∧ V.ref D ∉ vs ∧ RL H' vs ((sh.ms.take i).map fun m => bi (Vaskya.showMeasure m))) ⟨same_upd hD, [], upd_same, List.not_mem_nil, .nil⟩
      (fun i H' _ h => ⟨h.1.seq (SqL.of em), h.1.seq (SqL.of hw)⟩) ?_ ?_
    · rintro i y H2 H3 hi ⟨sm, vs, hD2, nD, hR⟩ ⟨tp, u, v, rfl, htp, rfl, hu, hv⟩
      replace hu : vm[i]? = some u := hu
      replace hv : (sh.ms.map fun m => V.str (way m.up))[i]? = some v := hv
      obtain ⟨m, hm⟩ : ∃ m, sh.ms[i]? = some m := ⟨sh.ms[i], List.getElem?_eq_getElem hi⟩
      rw [List.getElem?_map, hm] at hv
      cases Option.some.inj hv
      obtain ⟨a, hva, ha⟩ := rm.get (i := i) (l := bi m.name) (by rw [List.getElem?_map, hm]; rfl)
      rw [hu] at hva
      cases Option.some.inj hva
      have hmn := ok.names.1 m (List.mem_of_getElem? hm)
      have smt : Same H2 (upd H2 tp (.tup [V.ref a, V.str (way m.up)])) := same_upd htp
      refine ⟨tp, _, rfl, SqT.of upd_same, rfl, _, _, rfl, _, _, rfl, rfl, rfl, ?_⟩
      refine ⟨_, rfl, ?_⟩
      dsimp only [tCall, tCons, tNil]
      refine ⟨(" " : Str), rfl, by rw [sizeLine_eq]; decide +kernel, _, rfl, .inl ⟨way m.up, rfl, (way_len m.up).1, way m.up, rfl, (way_len m.up).2, ?_⟩⟩
      dsimp only [tJs]
      refine spell_told (way_text m.up) (by cases m.up <;> decide) fun p1 hp1 => ?_
      have s1 := same_upd (o := .lst (vb (if m.up = true then VaskyBase.word " up" else VaskyBase.word " down"))) hp1
      have wl : (if m.up = true then VaskyBase.word " up" else VaskyBase.word " down").length ≤ 5 := by cases m.up <;> decide
      refine ⟨a, p1, _, _, rfl, rfl, s1 _ _ (smt _ _ (sm _ _ ha)), upd_same, line10 (by simp only [List.length_map, bi_len, vb_len]; omega), fun p2 hp2 => ?_⟩
      have s2 := same_upd (o := .lst ((bi m.name).map V.int ++ vb (if m.up = true then VaskyBase.word " up" else VaskyBase.word " down"))) hp2
      have sA := smt.trans (s1.trans s2)
      have hD3 := sA _ _ hD2
      have nDp : D ≠ p2 := fun z => by
        rw [← z, (smt.trans s1) _ _ hD2] at hp2
        cases hp2
      have e1 : (bi m.name).map V.int ++ vb (if m.up = true then VaskyBase.word " up" else VaskyBase.word " down") = (bi (Vaskya.showMeasure m)).map V.int := by
        rw [← vb_bi, ← vb_bi, ← vb_app]
        rfl
      have lv := hR.len
      rw [List.length_map, List.length_take] at lv
      refine ⟨vs, hD3, small_line (by omega), ?_, vs ++ [V.ref p2], upd_same, not_snoc nD nDp, ?_⟩
      · exact fun b o e => by
          rw [upd_ne (ne_of_none e hD)]
          exact sA _ _ (sm b o e)
      · rw [List.take_add_one, hm]
        simp only [Option.toList_some, List.map_append, List.map_cons, List.map_nil]
        refine hR.grow nD (fun b o ne e => ?_) ?_
        · rw [upd_ne ne]
          exact sA b o e
        · rw [upd_ne (Ne.symm nDp), ← e1]
          exact upd_same
    · rintro H2 ⟨sm, vs, hD2, nD, hR⟩
      rw [List.take_length] at hR
      dsimp only [gName, tSeq, tAsg, tCall, tCons, tC, tNil]
      refine spell_told (z := "measures ") (b := VaskyBase.word "measures ") (by decide +kernel) (by decide) fun p1 hp1 => ?_
      have s1 := same_upd (o := .lst (vb (VaskyBase.word "measures "))) hp1
      cases hms : sh.ms with
      | nil =>
        have := ok.m0
        rw [hms] at this
        exact absurd this (Nat.lt_irrefl _)
      | cons m0 mr =>
        have hnames := ok.names.1
        rw [hms] at hnames
        have hm4' := ok.m4
        rw [hms, List.length_cons] at hm4'
        rw [hms] at hR
        have hR1 : RL (upd H2 p1 (.lst (vb (VaskyBase.word "measures ")))) vs ((Vaskya.showMeasure m0 :: mr.map Vaskya.showMeasure).map bi) := by
          rw [List.map_cons, List.map_map]
          exact hR.same s1
        have b0 := showM_len (hnames m0 List.mem_cons_self)
        have b1 := tails_len (r := mr.map Vaskya.showMeasure) (n := 10005) fun p hp => by
          obtain ⟨z, hz, rfl⟩ := List.mem_map.mp hp
          exact showM_len (hnames z (List.mem_cons_of_mem _ hz))
        rw [List.length_map] at b1
        have w9 : (VaskyBase.word "measures ").length = 9 := by decide
        refine ⟨_, rfl, p1, D, VaskyBase.word "measures ", vs, Vaskya.showMeasure m0, mr.map Vaskya.showMeasure, rfl, upd_same, s1 _ _ hD2, hR1, by omega, fun H3 q s3 hq hq3 => ?_⟩
        have s13 : Same H2 H3 := s1.trans s3
        have sH3 : Same H H3 := sm.trans s13
        have hqH : H q = none := sm.free (s1.free hq)
        have ll : (lineB (VaskyBase.word "measures ") (Vaskya.showMeasure m0 :: mr.map Vaskya.showMeasure)).length ≤ 100000 := by
          rw [lineB_len]
          omega
        have hshown := shown_line sh
        rw [hms, List.map_cons] at hshown
        revert hq3 ll hshown
        generalize lineB (VaskyBase.word "measures ") (Vaskya.showMeasure m0 :: mr.map Vaskya.showMeasure) = L0
        intro hq3 ll hshown
        have hnr : ∀ {H' : Hp}, Same H H' → SqL K H' x.ns vn ∧ SqL K H' x.rs vr := fun {H'} z => ⟨z.seq (SqL.of en), z.seq (SqL.of er)⟩
        refine ⟨_, rfl, x.a, CH, dx, _, _, rfl, sH3 _ _ h1, cH, NH.nN, hF_ns x, _, rfl, x.a, CH, dx, _, _, rfl, sH3 _ _ h1, cH, NH.nR, hF_rs x, x.ns, x.rs, _, _, rfl, (hnr sH3).1, (hnr sH3).2, ?_⟩
        refine for_it (walk_zip (n := sh.items.length) (by rw [ln, lr]; omega)) (fun i σ H' => ∃ v1 v4 v5 : Option V, σ = [some (.ref x.a), v1, some (.ref D), some (.ref q), v4, v5, none, none] ∧ Same H H' ∧ H' q = some (.lst (vb (L0 ++ (sh.items.take i).flatMap Vaskya.showItem))))
          ⟨none, none, none, rfl, sH3, by rw [List.take_zero, List.flatMap_nil, List.append_nil]; exact hq3⟩ (fun i σ H' _ ⟨_, _, _, _, z, _⟩ => hnr z) ?_ ?_
        · rintro i y σ H4 H5 hi ⟨v1, v4, v5, rfl, s4, hq4⟩ ⟨tp, u, v, rfl, htp, rfl, hu, hv⟩
          replace hu : vn[i]? = some u := hu
          replace hv : vr[i]? = some v := hv
          obtain ⟨it, hit⟩ : ∃ it, sh.items[i]? = some it := ⟨sh.items[i], List.getElem?_eq_getElem hi⟩
          have hmem : it ∈ sh.items := List.mem_of_getElem? hit
          obtain ⟨a, hva, ha⟩ := rn.get (i := i) (l := bi it.name) (by rw [List.getElem?_map, hit]; rfl)
          rw [hu] at hva
          cases Option.some.inj hva
          obtain ⟨rw_, hvr, hrw⟩ := rr.get (i := i) (l := it.vs) (by rw [List.getElem?_map, hit]; rfl)
          rw [hv] at hvr
          cases Option.some.inj hvr
          have hin := ok.names.2 it hmem
          have hwd := ok.wide it hmem
          have hvl := ok.vals it hmem
          have st := same_upd (o := .tup [V.ref a, V.ref rw_]) htp
          refine ⟨tp, _, rfl, SqT.of upd_same, rfl, _, _, rfl, _, _, rfl, rfl, ?_⟩
          dsimp only [tSeq, tAsg, tOp, tCall, tCons, tC, tNil]
          refine spell_told (b := VaskyBase.word "item ") (by decide +kernel) (by decide) fun p1 hp1 => ?_
          have t1 := st.trans (same_upd (o := .lst (vb (VaskyBase.word "item "))) hp1)
          have w5 : (VaskyBase.word "item ").length = 5 := by decide
          have w3 : (VaskyBase.word " : ").length = 3 := by decide
          refine ⟨_, rfl, p1, a, _, _, rfl, rfl, upd_same, t1 _ _ (s4 _ _ ha), line10 (by simp only [vb_len, List.length_map, bi_len]; omega), fun p2 hp2 => ?_⟩
          have t2 := t1.trans (same_upd (o := .lst (vb (VaskyBase.word "item ") ++ (bi it.name).map V.int)) hp2)
          refine spell_told (b := VaskyBase.word " : ") (by decide +kernel) (by decide) fun p3 hp3 => ?_
          have t3a := same_upd (o := .lst (vb (VaskyBase.word " : "))) hp3
          have t3 := t2.trans t3a
          refine ⟨p2, p3, _, _, rfl, rfl, t3a _ _ upd_same, upd_same, line10 (by simp only [List.length_append, vb_len, List.length_map, bi_len]; omega), fun p4 hp4 => ?_⟩
          have t4 := t3.trans (same_upd (o := .lst (vb (VaskyBase.word "item ") ++ (bi it.name).map V.int ++ vb (VaskyBase.word " : "))) hp4)
          have e4 : vb (VaskyBase.word "item ") ++ (bi it.name).map V.int ++ vb (VaskyBase.word " : ") = vb (itemStart it.name) := by
            rw [← vb_bi, ← vb_app, ← vb_app]
            rfl
          rw [e4] at t4 ⊢
          have hp4' : upd (upd (upd (upd (upd H4 tp (.tup [V.ref a, V.ref rw_])) p1 (.lst (vb (VaskyBase.word "item ")))) p2 (.lst (vb (VaskyBase.word "item ") ++ (bi it.name).map V.int))) p3 (.lst (vb (VaskyBase.word " : ")))) p4 (.lst (vb (itemStart it.name))) p4 = some (.lst (vb (itemStart it.name))) := upd_same
          revert t4 hp4'
          generalize upd (upd (upd (upd (upd H4 tp (.tup [V.ref a, V.ref rw_])) p1 (.lst (vb (VaskyBase.word "item ")))) p2 (.lst (vb (VaskyBase.word "item ") ++ (bi it.name).map V.int))) p3 (.lst (vb (VaskyBase.word " : ")))) p4 (.lst (vb (itemStart it.name))) = H6
          intro t4 hp6
          -- form.extend(line_of(start, [..]))
          have hq6 := t4 _ _ hq4
          refine ⟨_, rfl, .inl ⟨rfl, _, SqL.of hq6⟩, _, rfl, _, rfl, rw_, rfl, ⟨_, SqL.of (t4 _ _ (s4 _ _ hrw))⟩, fun D2 hD2' => ?_⟩
          refine lc_list (K := K) (a := rw_) (xs := it.vs.map V.int) (fun j H' => Same H6 H' ∧ ∃ vs, H' D2 = some (.lst vs) ∧ V.ref D2 ∉ vs ∧ RL H' vs ((it.vs.take j).map fun z => bi (VaskyBase.showInt z))) ⟨same_upd hD2', [], upd_same, List.not_mem_nil, .nil⟩
            (fun j H' _ h => h.1.seq (SqL.of (t4 _ _ (s4 _ _ hrw)))) ?_ ?_
          · rintro j y H7 hj ⟨s7, ws, hD7, nD7, hR7⟩
            obtain ⟨z, hz, rfl⟩ : ∃ z, it.vs[j]? = some z ∧ y = V.int z := by
              rw [List.getElem?_map] at hj
              cases e : it.vs[j]? with
              | none => rw [e] at hj; cases hj
              | some z => rw [e] at hj; exact ⟨z, rfl, (Option.some.inj hj).symm⟩
            have hzt := num_text (hvl z (List.mem_of_getElem? hz))
            refine ⟨rfl, ?_⟩
            dsimp only [tCall, tCons, tNil, tCB]
            refine ⟨_, rfl, z, rfl, Nat.lt_of_lt_of_le (PySem.Flt.log2_lt_of (k := 10) (by decide) (Nat.lt_of_le_of_lt (hvl z (List.mem_of_getElem? hz)) (by decide))) (by decide), ?_⟩
            refine spell_told hzt.1 (Nat.le_trans hzt.2 (by decide)) fun p5 hp5 => ?_
            have u1 := same_upd (o := .lst (vb (VaskyBase.showInt z))) hp5
            have nDp : D2 ≠ p5 := fun e => by
              rw [← e, hD7] at hp5
              cases hp5
            have lv := hR7.len
            rw [List.length_map, List.length_take] at lv
            refine ⟨ws, u1 _ _ hD7, small_line (by omega), fun b o e => ?_, ws ++ [V.ref p5], upd_same, not_snoc nD7 nDp, ?_⟩
            · rw [upd_ne (ne_of_none e hD2')]
              exact u1 _ _ (s7 b o e)
            · rw [List.take_add_one, hz]
              simp only [Option.toList_some, List.map_append, List.map_cons, List.map_nil]
              refine hR7.grow nD7 (fun b o ne e => ?_) ?_
              · rw [upd_ne ne]
                exact u1 b o e
              · rw [upd_ne (Ne.symm nDp), ← vb_bi]
                exact upd_same
          · rintro H7 ⟨s7, ws, hD7, nD7, hR7⟩
            rw [List.length_map, List.take_length] at hR7
            cases hvs : it.vs with
            | nil =>
              rw [hvs] at hwd
              have := ok.m0
              simp only [List.length_nil] at hwd
              omega
            | cons z0 zr =>
              rw [hvs] at hR7 hwd hvl
              have hR8 : RL H7 ws ((VaskyBase.showInt z0 :: zr.map VaskyBase.showInt).map bi) := by
                rw [List.map_cons, List.map_map]
                exact hR7
              have c0 := (num_text (hvl z0 List.mem_cons_self)).2
              have c1 := tails_len (r := zr.map VaskyBase.showInt) (n := 5) fun p hp => by
                obtain ⟨z, hz, rfl⟩ := List.mem_map.mp hp
                exact (num_text (hvl z (List.mem_cons_of_mem _ hz))).2
              rw [List.length_map] at c1
              have cs : (itemStart it.name).length = it.name.length + 8 := by
                unfold itemStart
                rw [List.length_append, List.length_append]
                omega
              simp only [List.length_cons] at hwd
              refine ⟨p4, D2, itemStart it.name, ws, VaskyBase.showInt z0, zr.map VaskyBase.showInt, rfl, s7 _ _ hp6, hD7, hR8, by omega, fun H8 q2 s8 hq2 hq8 => ?_⟩
              have il := item_line it
              rw [hvs, List.map_cons] at il
              rw [← il] at hq8
              have hit2 := item_len ok hmem
              have hpre := items_len ok i
              have hqq := s8 _ _ (s7 _ _ hq6)
              refine ⟨q, q2, _, _, rfl, rfl, hqq, hq8, line10 (by simp only [vb_len, List.length_append]; omega), ?_⟩
              refine ⟨_, _, _, rfl, fun b o e => ?_, ?_⟩
              · rw [upd_ne (ne_of_none e hqH)]
                exact s8 _ _ (s7 _ _ (t4 _ _ (s4 b o e)))
              · rw [upd_same, List.take_add_one, hit]
                simp only [Option.toList_some, List.flatMap_append, List.flatMap_cons, List.flatMap_nil, List.append_nil, vb_app, List.append_assoc]
        · rintro σ H4 ⟨v1, v4, v5, rfl, s4, hq4⟩
          rw [List.take_length, ← hshown] at hq4
          exact ⟨_, rfl, k H4 q s4 hqH hq4⟩
end
end Fm

/-! Comprehensions in general; beats, is_unbeaten, unbeaten. -/
namespace Fm
open PySem PySem.Spec PyProof.Rows L2

/-- a comprehension over n things: those for which p holds, each by f; what is made on the way stands beside -/
theorem lc_keep {J : It} {n : Nat} {Gd : Hp → Prop} {Y : Nat → Hp → V → Hp → Prop} (w : Walk J n Gd Y) (p : Nat → Bool) (f : Nat → V) {g : TG} {tt : TT} {te : TE} {vs : List Nat} {σ : L2.St} {H1 : Hp} {D : Addr} {Qd : Hp → Prop}
    (hD : H1 D = none) (hn : n ≤ 100000) (hG : ∀ H', Same H1 H' → Gd H')
    (he : ∀ i x H' H2 (G : VK) (N : Hp → Prop), i < n → Same H1 H' → H' D ≠ none → Y i H' x H2 → (p i = true → ∀ H4, Same H' H4 → G (f i) H4) → (p i = false → ∀ H4, Same H' H4 → N H4) →
      g x (wipe σ vs) H2 fun σ2 H2 => wipe σ2 vs = wipe σ vs ∧ tt σ2 H2 fun b H3 => if b = true then te σ2 H3 G else N H3)
    (hd : ∀ H', Same H1 H' → H' D = some (.lst (((List.range n).filter p).map f)) → Qd H') :
    ∃ W : Nat → Nat → Hp → Prop, (∃ m, W 0 m (upd H1 D (.lst []))) ∧ ∀ i m H, W i m H →
      (J.stop i H ∧ Qd H) ∨ (J.go i H ∧ ∃ Nx : Hp → Prop, (∀ H', Nx H' → ∃ m', m' < m ∧ W (i + 1) m' H') ∧ ∀ x H', J.yld i H x H' → g x (wipe σ vs) H' fun σ2 H2 => wipe σ2 vs = wipe σ vs ∧ tt σ2 H2 fun b H3 =>
        if b = true then te σ2 H3 fun y H4 => ∃ acc, H4 D = some (.lst acc) ∧ acc.length < sizeLine ∧ Nx (upd H4 D (.lst (acc ++ [y]))) else Nx H3) := by
  refine lc_it w (fun i H' => Same H1 H' ∧ H' D = some (.lst (((List.range i).filter p).map f))) ⟨same_upd hD, upd_same⟩ (fun i H' _ h => hG H' h.1) ?_ ?_
  · rintro i x H' H2 hi ⟨sm, hD2⟩ hy
    have hlen : (((List.range i).filter p).map f).length < sizeLine := by
      have : ((List.range i).filter p).length ≤ (List.range i).length := (List.filter_sublist).length_le
      rw [List.length_map]
      rw [List.length_range] at this
      exact small_line (by omega)
    have hsucc : List.range (i + 1) = List.range i ++ [i] := List.range_succ
    refine he i x H' H2 _ _ hi sm (by rw [hD2]; exact fun z => nomatch z) hy (fun hp H4 s4 => ?_) (fun hp H4 s4 => ?_)
    · refine ⟨_, s4 _ _ hD2, hlen, fun b o e => ?_, ?_⟩
      · rw [upd_ne (ne_of_none e hD)]
        exact s4 _ _ (sm b o e)
      · rw [upd_same, hsucc, List.filter_append, List.map_append]
        simp [hp]
    · refine ⟨sm.trans s4, ?_⟩
      rw [s4 _ _ hD2, hsucc, List.filter_append, List.map_append]
      simp [hp]
  · rintro H' ⟨sm, hD2⟩
    exact hd H' sm hD2
/-- .. without a test -/
theorem lc_fun {J : It} {n : Nat} {Gd : Hp → Prop} {Y : Nat → Hp → V → Hp → Prop} (w : Walk J n Gd Y) (f : Nat → V) {g : TG} {te : TE} {vs : List Nat} {σ : L2.St} {H1 : Hp} {D : Addr} {Qd : Hp → Prop}
    (hD : H1 D = none) (hn : n ≤ 100000) (hG : ∀ H', Same H1 H' → Gd H')
    (he : ∀ i x H' H2 (G : VK), i < n → Same H1 H' → H' D ≠ none → Y i H' x H2 → (∀ H4, Same H' H4 → G (f i) H4) → g x (wipe σ vs) H2 fun σ2 H2 => wipe σ2 vs = wipe σ vs ∧ te σ2 H2 G)
    (hd : ∀ H', Same H1 H' → H' D = some (.lst ((List.range n).map f)) → Qd H') :
    ∃ W : Nat → Nat → Hp → Prop, (∃ m, W 0 m (upd H1 D (.lst []))) ∧ ∀ i m H, W i m H →
      (J.stop i H ∧ Qd H) ∨ (J.go i H ∧ ∃ Nx : Hp → Prop, (∀ H', Nx H' → ∃ m', m' < m ∧ W (i + 1) m' H') ∧ ∀ x H', J.yld i H x H' → g x (wipe σ vs) H' fun σ2 H2 => wipe σ2 vs = wipe σ vs ∧ tYes σ2 H2 fun b H3 =>
        if b = true then te σ2 H3 fun y H4 => ∃ acc, H4 D = some (.lst acc) ∧ acc.length < sizeLine ∧ Nx (upd H4 D (.lst (acc ++ [y]))) else Nx H3) := by
  refine lc_keep w (fun _ => true) f hD hn hG (fun i x H' H2 G N hi sm hne hy hg _ => ?_) (fun H' sm h => hd H' sm (by rw [List.filter_eq_self.mpr (fun _ _ => rfl)] at h; exact h))
  exact he i x H' H2 G hi sm hne hy (hg rfl)

/-! ### sets of measures, items: natural numbers as the program holds them -/
def nv (l : List Nat) : List V := l.map fun (n : Nat) => V.int n
def nI (l : List Nat) : List Int := l.map fun (n : Nat) => (n : Int)
theorem nv_nI (l : List Nat) : nv l = (nI l).map V.int := by
  unfold nv nI
  rw [List.map_map]
  rfl
theorem nv_len (l : List Nat) : (nv l).length = l.length := List.length_map ..
theorem nv_at {l : List Nat} {i : Nat} {y : V} (h : (nv l)[i]? = some y) : ∃ n, l[i]? = some n ∧ y = V.int n := by
  unfold nv at h
  rw [List.getElem?_map] at h
  cases e : l[i]? with
  | none => rw [e] at h; cases h
  | some n => rw [e] at h; exact ⟨n, rfl, (Option.some.inj h).symm⟩
theorem map_range_getD {α β : Type} (l : List α) (d : α) (f : α → β) : (List.range l.length).map (fun i => f (l.getD i d)) = l.map f := by
  apply List.ext_getElem
  · simp
  · intro i h1 h2
    simp only [List.length_map, List.length_range] at h1
    simp [List.getD_eq_getElem?_getD, List.getElem?_eq_getElem h1]
theorem getD_of {α : Type} {l : List α} {i : Nat} {x d : α} (h : l[i]? = some x) : l.getD i d = x := by
  rw [List.getD_eq_getElem?_getD, h]
  rfl
theorem any_range {α : Type} (l : List α) (d : α) (p : α → Bool) : ((List.range l.length).map (fun i => p (l.getD i d))).any id = l.any p := by
  rw [map_range_getD, List.any_map]
  rfl
theorem all_range {α : Type} (l : List α) (d : α) (p : α → Bool) : ((List.range l.length).map (fun i => p (l.getD i d))).all id = l.all p := by
  rw [map_range_getD, List.all_map]
  rfl
theorem bl_map (n : Nat) (f : Nat → Bool) : (List.range n).map (fun i => V.bl (f i)) = ((List.range n).map f).map V.bl := by
  rw [List.map_map]
  rfl

/-! ### the mirror -/
/-- an item's gain by a measure -/
def gain (R : List (List Int)) (i m : Nat) : Int := (R.getD i []).getD m 0
def beatsM (R : List (List Int)) (i j : Nat) (C : List Nat) : Bool := !(C.any fun m => decide (gain R i m < gain R j m)) && C.any fun m => decide (gain R j m < gain R i m)
def freeM (R : List (List Int)) (i : Nat) (A C : List Nat) : Bool := !A.any fun j => beatsM R j i C
/-- rows of one width -/
def Wide (R : List (List Int)) (k : Nat) : Prop := ∀ r ∈ R, r.length = k
/-- the gains that stand at an address -/
def Gains (H : Hp) (a : Addr) (R : List (List Int)) : Prop := ∃ vg, H a = some (.lst vg) ∧ RL H vg R
theorem Gains.same {H H' : Hp} {a : Addr} {R : List (List Int)} (h : Gains H a R) (m : Same H H') : Gains H' a R := by
  obtain ⟨vg, h1, h2⟩ := h
  exact ⟨vg, m _ _ h1, h2.same m⟩
theorem Gains.row {H : Hp} {a : Addr} {R : List (List Int)} (h : Gains H a R) {i : Nat} (hi : i < R.length) : ∃ vg b, H a = some (.lst vg) ∧ atI vg (i : Int) = some (.ref b) ∧ H b = some (.lst ((R.getD i []).map V.int)) := by
  obtain ⟨vg, h1, h2⟩ := h
  obtain ⟨b, h3, h4⟩ := h2.get (List.getElem?_eq_getElem hi)
  exact ⟨vg, b, h1, atI_nat h3, by rw [getD_of (List.getElem?_eq_getElem hi)]; exact h4⟩
theorem row_at {R : List (List Int)} {k i m : Nat} (hw : Wide R k) (hi : i < R.length) (hm : m < k) : atI ((R.getD i []).map V.int) (m : Int) = some (.int (gain R i m)) := by
  have hr : (R.getD i []).length = k := by
    rw [getD_of (List.getElem?_eq_getElem hi)]
    exact hw _ (List.getElem_mem hi)
  refine atI_nat ?_
  rw [List.getElem?_map, List.getElem?_eq_getElem (by rw [hr]; exact hm)]
  unfold gain
  rw [List.getD_eq_getElem?_getD (l := R.getD i []), List.getElem?_eq_getElem (by rw [hr]; exact hm)]
  rfl

abbrev sBeats : Stmt := top 53
abbrev sIsUnbeaten : Stmt := top 54
abbrev sUnbeaten : Stmt := top 55
def spBeats (K : PySem.W.Frag) : Sp := fun vs H Q _ => ∃ (g c : Addr) (R : List (List Int)) (k i j : Nat) (C : List Nat), vs = [.ref g, .int i, .int j, .ref c] ∧ Gains H g R ∧ Wide R k ∧ i < R.length ∧ j < R.length ∧ SqL K H c (nv C) ∧ (∀ m ∈ C, m < k) ∧ C.length ≤ 1000 ∧
  ∀ H', Same H H' → Q (.bl (beatsM R i j C)) H'
section
variable {P : Program} {w : World} {K : PySem.W.Frag} {mg : Str → Option Value} {base : Heap}
theorem scBeats : FnScope ["gains", "one", "other", "chosen", "measure"] ["gains", "one", "other", "chosen"] (defScope sBeats) := ⟨rfl, rfl, rfl, by decide +kernel, rfl, by decide +kernel, by decide +kernel⟩
theorem ok_beats (D : DefT K mg "beats" sBeats ["gains", "one", "other", "chosen"]) (ga : mg "any" = none) : FnOk P w K mg base CX0 1 D.f D.fd ["gains", "one", "other", "chosen"] (spBeats K) := by
  refine D.F.ok scBeats (fun vs H Q E h => ?_) (fun cdv A outer s H vs Q E hr h => ?_)
  · obtain ⟨g, c, R, k, i, j, C, rfl, _⟩ := h
    rfl
  · obtain ⟨g, c, R, k, i, j, C, rfl, hG, hw, hi, hj, hc, hC, hz, q⟩ := h
    refine ⟨_, pss_cons (ps_if (pt_val (pe_callB (cr_any rfl) (by rfl) ga PyProof.Rows.boot_any (pa_cons (pe_lc (own := [("measure", 4)]) (g := gName 4) rfl scBeats.nd (pi_list (pv 3))
        (blkOk_by (own := [("measure", 4)]) (N := ["gains", "one", "other", "chosen", "measure"]) (sc := defScope sBeats) (by decide +kernel)) (fun _ _ _ _ _ => pg_name (i := 4) scBeats.nd rfl (Or.inl rfl)) (fun _ _ _ _ _ => pts_nil)
        (fun _ _ _ _ _ => pe_cmpR op_lt (pe_ix (r := rIxL K) ix_list (pe_ix (r := rIxL K) ix_list (pv 0) (pv 1) (fun _ _ => rfl)) (pv 4) (fun _ _ => rfl)) (pe_ix (r := rIxL K) ix_list (pe_ix (r := rIxL K) ix_list (pv 0) (pv 2) (fun _ _ => rfl)) (pv 4) (fun _ _ => rfl)) (nomark _))) pa_nil)))
        (pss_one (ps_ret pe_bl)) pss_nil)
      (pss_one (ps_ret (pe_callB (cr_any rfl) (by rfl) ga PyProof.Rows.boot_any (pa_cons (pe_lc (own := [("measure", 4)]) (g := gName 4) rfl scBeats.nd (pi_list (pv 3))
        (blkOk_by (own := [("measure", 4)]) (N := ["gains", "one", "other", "chosen", "measure"]) (sc := defScope sBeats) (by decide +kernel)) (fun _ _ _ _ _ => pg_name (i := 4) scBeats.nd rfl (Or.inl rfl)) (fun _ _ _ _ _ => pts_nil)
        (fun _ _ _ _ _ => pe_cmpR op_gt (pe_ix (r := rIxL K) ix_list (pe_ix (r := rIxL K) ix_list (pv 0) (pv 1) (fun _ _ => rfl)) (pv 4) (fun _ _ => rfl)) (pe_ix (r := rIxL K) ix_list (pe_ix (r := rIxL K) ix_list (pv 0) (pv 2) (fun _ _ => rfl)) (pv 4) (fun _ _ => rfl)) (nomark _))) pa_nil)))), ?_⟩
    refine ⟨_, rfl, c, rfl, ⟨_, hc⟩, fun D1 hD1 => ?_⟩
    refine lc_fun (walk_list (xs := nv C)) (fun t => V.bl (decide (gain R i (C.getD t 0) < gain R j (C.getD t 0)))) hD1 (by rw [nv_len]; omega) (fun H' sm => sm.seq hc) ?_ ?_
    · rintro t x H' H2 G ht sm hne ⟨rfl, hx⟩ hg
      obtain ⟨m, hm, rfl⟩ := nv_at hx
      have hmk := hC m (List.mem_of_getElem? hm)
      obtain ⟨vg, b1, e1, e2, e3⟩ := (hG.same sm).row hi
      obtain ⟨vg', b2, e1', e2', e3'⟩ := (hG.same sm).row hj
      refine ⟨rfl, ?_⟩
      refine ⟨_, rfl, _, rfl, g, _, _, _, rfl, rfl, SqL.of e1, e2, _, rfl, b1, _, _, _, rfl, rfl, SqL.of e3, row_at hw hi hmk, ?_⟩
      refine ⟨_, rfl, _, rfl, g, _, _, _, rfl, rfl, SqL.of e1', e2', _, rfl, b2, _, _, _, rfl, rfl, SqL.of e3', row_at hw hj hmk, _, _, rfl, rfl, ?_⟩
      have := hg H2 (Same.refl _)
      rw [getD_of hm] at this
      exact this
    · intro H2 sm2 hD2
      rw [nv_len, bl_map] at hD2
      refine ⟨D1, _, rfl, SqL.of hD2, _, rfl, ?_⟩
      rw [any_range C 0 (fun m => decide (gain R i m < gain R j m))]
      unfold beatsM at q
      refine ite2 (fun z => ?_) (fun z => ?_)
      · rw [z] at q
        exact q H2 sm2
      · rw [eq_false_of_ne_true z] at q
        refine ⟨_, rfl, c, rfl, ⟨_, sm2.seq hc⟩, fun D3 hD3 => ?_⟩
        refine lc_fun (walk_list (xs := nv C)) (fun t => V.bl (decide (gain R j (C.getD t 0) < gain R i (C.getD t 0)))) hD3 (by rw [nv_len]; omega) (fun H' sm => sm.seq (sm2.seq hc)) ?_ ?_
        · rintro t x H' H3 G ht sm hne ⟨rfl, hx⟩ hg
          obtain ⟨m, hm, rfl⟩ := nv_at hx
          have hmk := hC m (List.mem_of_getElem? hm)
          obtain ⟨vg, b1, e1, e2, e3⟩ := (hG.same (sm2.trans sm)).row hi
          obtain ⟨vg', b2, e1', e2', e3'⟩ := (hG.same (sm2.trans sm)).row hj
          refine ⟨rfl, ?_⟩
          refine ⟨_, rfl, _, rfl, g, _, _, _, rfl, rfl, SqL.of e1, e2, _, rfl, b1, _, _, _, rfl, rfl, SqL.of e3, row_at hw hi hmk, ?_⟩
          refine ⟨_, rfl, _, rfl, g, _, _, _, rfl, rfl, SqL.of e1', e2', _, rfl, b2, _, _, _, rfl, rfl, SqL.of e3', row_at hw hj hmk, _, _, rfl, rfl, ?_⟩
          have := hg H3 (Same.refl _)
          rw [getD_of hm] at this
          exact this
        · intro H4 sm4 hD4
          rw [nv_len, bl_map] at hD4
          refine ⟨D3, _, rfl, SqL.of hD4, ?_⟩
          rw [any_range C 0 (fun m => decide (gain R j m < gain R i m))]
          exact q H4 (sm2.trans sm4)

def spIsUnbeaten (K : PySem.W.Frag) : Sp := fun vs H Q _ => ∃ (g a c : Addr) (R : List (List Int)) (k i : Nat) (A C : List Nat), vs = [.ref g, .int i, .ref a, .ref c] ∧ Gains H g R ∧ Wide R k ∧ i < R.length ∧ SqL K H a (nv A) ∧ (∀ j ∈ A, j < R.length) ∧ A.length ≤ 1000 ∧
  SqL K H c (nv C) ∧ (∀ m ∈ C, m < k) ∧ C.length ≤ 1000 ∧ ∀ H', Same H H' → Q (.bl (freeM R i A C)) H'
theorem scIsUnbeaten : FnScope ["gains", "item", "among", "chosen", "other"] ["gains", "item", "among", "chosen"] (defScope sIsUnbeaten) := ⟨rfl, rfl, rfl, by decide +kernel, rfl, by decide +kernel, by decide +kernel⟩
theorem ok_isUnbeaten (D : DefT K mg "is_unbeaten" sIsUnbeaten ["gains", "item", "among", "chosen"]) (FB : DefT K mg "beats" sBeats ["gains", "one", "other", "chosen"]) (ga : mg "any" = none) :
    FnOk P w K mg base CX0 2 D.f D.fd ["gains", "item", "among", "chosen"] (spIsUnbeaten K) := by
  refine D.F.ok scIsUnbeaten (fun vs H Q E h => ?_) (fun cdv A_ outer s H vs Q E hr h => ?_)
  · obtain ⟨g, a, c, R, k, i, A, C, rfl, _⟩ := h
    rfl
  · obtain ⟨g, a, c, R, k, i, A, C, rfl, hG, hw, hi, ha, hA, hzA, hc, hC, hzC, q⟩ := h
    refine ⟨_, pss_one (ps_ret (pe_not (pe_callB (cr_any rfl) (by rfl) ga PyProof.Rows.boot_any (pa_cons (pe_lc (own := [("other", 4)]) (g := gName 4) rfl scIsUnbeaten.nd (pi_list (pv 2))
        (blkOk_by (own := [("other", 4)]) (N := ["gains", "item", "among", "chosen", "other"]) (sc := defScope sIsUnbeaten) (by decide +kernel)) (fun _ _ _ _ _ => pg_name (i := 4) scIsUnbeaten.nd rfl (Or.inl rfl)) (fun _ _ _ _ _ => pts_nil)
        (fun _ _ _ _ _ => pe_def FB (ok_beats FB ga) hr (pa_cons (pv 0) (pa_cons (pv 4) (pa_cons (pv 1) (pa_cons (pv 3) pa_nil)))))) pa_nil)))), ?_⟩
    refine ⟨_, rfl, a, rfl, ⟨_, ha⟩, fun D1 hD1 => ?_⟩
    refine lc_fun (walk_list (xs := nv A)) (fun t => V.bl (beatsM R (A.getD t 0) i C)) hD1 (by rw [nv_len]; omega) (fun H' sm => sm.seq ha) ?_ ?_
    · rintro t x H' H2 G ht sm hne ⟨rfl, hx⟩ hg
      obtain ⟨m, hm, rfl⟩ := nv_at hx
      refine ⟨rfl, ?_⟩
      refine ⟨_, rfl, _, rfl, _, rfl, _, rfl, g, c, R, k, m, i, C, rfl, hG.same sm, hw, hA m (List.mem_of_getElem? hm), hi, sm.seq hc, hC, hzC, fun H3 s3 => ?_⟩
      have := hg H3 s3
      rw [getD_of hm] at this
      exact this
    · intro H2 sm2 hD2
      rw [nv_len, bl_map] at hD2
      refine ⟨D1, _, rfl, SqL.of hD2, _, rfl, ?_⟩
      rw [any_range A 0 (fun j => beatsM R j i C)]
      exact q H2 sm2

def spUnbeaten (K : PySem.W.Frag) : Sp := fun vs H Q _ => ∃ (g a c : Addr) (R : List (List Int)) (k : Nat) (A C : List Nat), vs = [.ref g, .ref a, .ref c] ∧ Gains H g R ∧ Wide R k ∧ SqL K H a (nv A) ∧ (∀ j ∈ A, j < R.length) ∧ A.length ≤ 1000 ∧
  SqL K H c (nv C) ∧ (∀ m ∈ C, m < k) ∧ C.length ≤ 1000 ∧ ∀ H' p, Same H H' → H p = none → H' p = some (.lst (nv (A.filter fun i => freeM R i A C))) → Q (.ref p) H'
theorem scUnbeaten : FnScope ["gains", "among", "chosen", "item"] ["gains", "among", "chosen"] (defScope sUnbeaten) := ⟨rfl, rfl, rfl, by decide +kernel, rfl, by decide +kernel, by decide +kernel⟩
theorem filter_range {α β : Type} (l : List α) (d : α) (p : α → Bool) (f : α → β) : ((List.range l.length).filter (fun i => p (l.getD i d))).map (fun i => f (l.getD i d)) = (l.filter p).map f := by
  have e : ((List.range l.length).filter (fun i => p (l.getD i d))).map (fun i => l.getD i d) = l.filter p := by
    have h := map_range_getD l d id
    rw [List.map_id] at h
    conv => rhs; rw [← h]
    rw [List.filter_map]
    rfl
  rw [← e, List.map_map]
  rfl
theorem ok_unbeaten (D : DefT K mg "unbeaten" sUnbeaten ["gains", "among", "chosen"]) (FU : DefT K mg "is_unbeaten" sIsUnbeaten ["gains", "item", "among", "chosen"]) (FB : DefT K mg "beats" sBeats ["gains", "one", "other", "chosen"]) (ga : mg "any" = none) :
    FnOk P w K mg base CX0 3 D.f D.fd ["gains", "among", "chosen"] (spUnbeaten K) := by
  refine D.F.ok scUnbeaten (fun vs H Q E h => ?_) (fun cdv A_ outer s H vs Q E hr h => ?_)
  · obtain ⟨g, a, c, R, k, A, C, rfl, _⟩ := h
    rfl
  · obtain ⟨g, a, c, R, k, A, C, rfl, hG, hw, ha, hA, hzA, hc, hC, hzC, q⟩ := h
    refine ⟨_, pss_one (ps_ret (pe_lc (own := [("item", 3)]) (g := gName 3) rfl scUnbeaten.nd (pi_list (pv 1))
        (blkOk_by (own := [("item", 3)]) (N := ["gains", "among", "chosen", "item"]) (sc := defScope sUnbeaten) (by decide +kernel)) (fun _ _ _ _ _ => pg_name (i := 3) scUnbeaten.nd rfl (Or.inl rfl))
        (fun _ _ _ _ _ => pts_one (pt_val (pe_def FU (ok_isUnbeaten FU FB ga) hr (pa_cons (pv 0) (pa_cons (pv 3) (pa_cons (pv 1) (pa_cons (pv 2) pa_nil)))))))
        (fun _ _ _ _ _ => pv 3))), ?_⟩
    refine ⟨_, rfl, a, rfl, ⟨_, ha⟩, fun D1 hD1 => ?_⟩
    refine lc_keep (walk_list (xs := nv A)) (fun t => freeM R (A.getD t 0) A C) (fun t => V.int (A.getD t 0 : Nat)) hD1 (by rw [nv_len]; omega) (fun H' sm => sm.seq ha) ?_ ?_
    · rintro t x H' H2 G N ht sm hne ⟨rfl, hx⟩ hg hn
      obtain ⟨m, hm, rfl⟩ := nv_at hx
      rw [getD_of hm] at hg hn
      refine ⟨rfl, ?_⟩
      refine ⟨_, rfl, _, rfl, _, rfl, _, rfl, g, a, c, R, k, m, A, C, rfl, hG.same sm, hw, hA m (List.mem_of_getElem? hm), sm.seq ha, hA, hzA, sm.seq hc, hC, hzC, fun H3 s3 => ⟨_, rfl, ?_⟩⟩
      cases z : freeM R m A C with
      | true => exact iteT ⟨_, rfl, hg z H3 s3⟩
      | false => exact iteF (hn z H3 s3)
    · intro H2 sm2 hD2
      rw [nv_len, filter_range A 0 (fun i => freeM R i A C) (fun n => V.int (n : Nat))] at hD2
      exact q H2 D1 sm2 hD1 hD2
end
end Fm

/-! longer_sets, sets_of. -/
namespace Fm
open PySem PySem.Spec PyProof.Rows L2

/-- what stands in a list of lists is all newer than H -/
def New (H : Hp) (ws : List V) : Prop := ∀ a, V.ref a ∈ ws → H a = none
theorem New.nil (H : Hp) : New H [] := fun a h => nomatch h
theorem New.app {H : Hp} {ws zs : List V} (h1 : New H ws) (h2 : New H zs) : New H (ws ++ zs) := fun a h => by
  rcases List.mem_append.mp h with h | h
  · exact h1 a h
  · exact h2 a h
theorem New.one {H : Hp} {p : Addr} (h : H p = none) : New H [.ref p] := fun a ha => by
  rw [V.ref.inj (List.mem_singleton.mp ha)]
  exact h
theorem New.back {H H1 : Hp} {ws : List V} (h : New H1 ws) (s : Same H H1) : New H ws := fun a ha => s.free (h a ha)
theorem New.off {H : Hp} {ws : List V} (h : New H ws) {a : Addr} {o : HO} (e : H a = some o) : V.ref a ∉ ws := fun z => by
  rw [h a z] at e
  cases e
/-- at p: a list of new lists, of these whole numbers -/
def RowsAt (H H' : Hp) (p : Addr) (S : List (List Int)) : Prop := ∃ ws, H' p = some (.lst ws) ∧ RL H' ws S ∧ New H ws
/-- a comprehension of n new lists -/
theorem lc_rows {J : It} {n : Nat} {Gd : Hp → Prop} {Y : Nat → Hp → V → Hp → Prop} (w : Walk J n Gd Y) (f : Nat → List Int) {g : TG} {te : TE} {vs : List Nat} {σ : L2.St} {H1 : Hp} {D : Addr} {Qd : Hp → Prop}
    (hD : H1 D = none) (hn : n ≤ 100000) (hG : ∀ H', Same H1 H' → Gd H')
    (he : ∀ i x H' H2 (G : VK), i < n → Same H1 H' → H' D ≠ none → Y i H' x H2 → (∀ H4 p, Same H' H4 → H' p = none → H4 p = some (.lst ((f i).map V.int)) → G (.ref p) H4) → g x (wipe σ vs) H2 fun σ2 H2 => wipe σ2 vs = wipe σ vs ∧ te σ2 H2 G)
    (hd : ∀ H' ws, Same H1 H' → H' D = some (.lst ws) → RL H' ws ((List.range n).map f) → New H1 ws → V.ref D ∉ ws → Qd H') :
    ∃ W : Nat → Nat → Hp → Prop, (∃ m, W 0 m (upd H1 D (.lst []))) ∧ ∀ i m H, W i m H →
      (J.stop i H ∧ Qd H) ∨ (J.go i H ∧ ∃ Nx : Hp → Prop, (∀ H', Nx H' → ∃ m', m' < m ∧ W (i + 1) m' H') ∧ ∀ x H', J.yld i H x H' → g x (wipe σ vs) H' fun σ2 H2 => wipe σ2 vs = wipe σ vs ∧ tYes σ2 H2 fun b H3 =>
        if b = true then te σ2 H3 fun y H4 => ∃ acc, H4 D = some (.lst acc) ∧ acc.length < sizeLine ∧ Nx (upd H4 D (.lst (acc ++ [y]))) else Nx H3) := by
  refine lc_it w (fun i H' => Same H1 H' ∧ ∃ ws, H' D = some (.lst ws) ∧ RL H' ws ((List.range i).map f) ∧ New H1 ws ∧ V.ref D ∉ ws) ⟨same_upd hD, [], upd_same, .nil, New.nil _, List.not_mem_nil⟩ (fun i H' _ h => hG H' h.1) ?_ ?_
  · rintro i x H' H2 hi ⟨sm, ws, hD2, hR, hN, nD⟩ hy
    have hlen : ws.length < sizeLine := by
      have := hR.len
      rw [List.length_map, List.length_range] at this
      exact small_line (by omega)
    obtain ⟨h1, h2⟩ : _ ∧ _ := ⟨he i x H' H2 (fun y H4 => ∃ acc, H4 D = some (.lst acc) ∧ acc.length < sizeLine ∧ (Same H1 (upd H4 D (.lst (acc ++ [y]))) ∧ ∃ ws, upd H4 D (.lst (acc ++ [y])) D = some (.lst ws) ∧ RL (upd H4 D (.lst (acc ++ [y]))) ws ((List.range (i + 1)).map f) ∧ New H1 ws ∧ V.ref D ∉ ws)) hi sm (by rw [hD2]; exact fun z => nomatch z) hy
      (fun H4 p s4 hp hp4 => ⟨ws, s4 _ _ hD2, hlen, fun b o e => by rw [upd_ne (ne_of_none e hD)]; exact s4 _ _ (sm b o e), ws ++ [V.ref p], upd_same, by
        have nDp : D ≠ p := fun z => by rw [← z, hD2] at hp; cases hp
        rw [List.range_succ, List.map_append]
        exact hR.grow nD (fun b o ne e => by rw [upd_ne ne]; exact s4 b o e) (by rw [upd_ne (Ne.symm nDp)]; exact hp4),
        hN.app (New.one (sm.free hp)), not_snoc nD (fun z => by rw [← z, hD2] at hp; cases hp)⟩), trivial⟩
    exact h1
  · rintro H' ⟨sm, ws, hD2, hR, hN, nD⟩
    exact hd H' ws sm hD2 hR hN nD

theorem rl_app {H : Hp} {vs ws : List V} {ls ms : List (List Int)} (h1 : RL H vs ls) (h2 : RL H ws ms) : RL H (vs ++ ws) (ls ++ ms) := by
  induction h1 with
  | nil => exact h2
  | cons e _ ih => exact .cons e ih
/-! ### the mirror -/
def nxt (c : List Nat) : Nat := match c.getLast? with
  | none => 0
  | some m => m + 1
def ext (k : Nat) (c : List Nat) : List (List Nat) := (List.range (k - nxt c)).map fun i => c ++ [nxt c + i]
def longerM (k : Nat) (S : List (List Nat)) : List (List Nat) := S.flatMap (ext k)
abbrev sLonger : Stmt := top 48
abbrev sSetsOf : Stmt := top 50
def spLonger (K : PySem.W.Frag) : Sp := fun vs H Q _ => ∃ (s : Addr) (k : Nat) (ws : List V) (S : List (List Nat)), vs = [.ref s, .int k] ∧ H s = some (.lst ws) ∧ RL H ws (S.map nI) ∧ k ≤ 100 ∧ S.length ≤ 2000 ∧ (∀ c ∈ S, c.length ≤ 100 ∧ nxt c ≤ 100) ∧
  ∀ H' p, Same H H' → H p = none → RowsAt H H' p ((longerM k S).map nI) → Q (.ref p) H'
theorem ext_len (k : Nat) (c : List Nat) : (ext k c).length ≤ k := by
  unfold ext
  rw [List.length_map, List.length_range]
  omega
theorem longer_len (k : Nat) : ∀ S : List (List Nat), (longerM k S).length ≤ S.length * k
  | [] => by simp [longerM]
  | c :: S => by
    have h1 := longer_len k S
    have h2 := ext_len k c
    have e : longerM k (c :: S) = ext k c ++ longerM k S := rfl
    rw [e, List.length_append, List.length_cons, Nat.succ_mul]
    omega
section
variable {P : Program} {w : World} {K : PySem.W.Frag} {mg : Str → Option Value} {base : Heap}
theorem scLonger : FnScope ["sets", "count", "longer", "chosen", "first", "number"] ["sets", "count"] (defScope sLonger) := ⟨rfl, rfl, rfl, by decide +kernel, rfl, by decide +kernel, by decide +kernel⟩
theorem nI_app (a b : List Nat) : nI (a ++ b) = nI a ++ nI b := List.map_append ..
theorem ok_longer (D : DefT K mg "longer_sets" sLonger ["sets", "count"]) (gr : mg "range" = none) : FnOk P w K mg base CX0 1 D.f D.fd ["sets", "count"] (spLonger K) := by
  refine D.F.ok scLonger (fun vs H Q E h => ?_) (fun cdv A_ outer s H vs Q E hr h => ?_)
  · obtain ⟨s, k, ws, S, rfl, _⟩ := h
    rfl
  · obtain ⟨s, k, ws, S, rfl, hs, hR, hk, hS, hc, q⟩ := h
    refine ⟨_, pss_cons (ps_set (i := 2) scLonger.nd rfl (Or.inl rfl) (pe_lst pa_nil))
      (pss_cons (ps_for PassesOwn.never rfl (pi_list (pv 0)) (pg_name (i := 3) scLonger.nd rfl (Or.inr rfl))
        (pss_cons (ps_set (i := 4) scLonger.nd rfl (Or.inl rfl) (pe_ifExp (pt_truth (pv 3) (by intro _; rfl)) (pe_op op_add (pe_ix ix_list (pv 3) (pe_un un_neg pe_int) (fun _ _ => rfl)) pe_int) pe_int))
        (pss_one (ps_expr (pe_bm PySem.F.plainAttrs_list PySem.F.slot_list_extend PySem.F.type_list_extend mt_extend (pv 2)
          (pa_cons (pe_lc (own := [("number", 5)]) (g := gName 5) rfl scLonger.nd (pi_range2 (by rfl) gr (pa_cons (pv 4) (pa_cons (pv 1) pa_nil)))
            (blkOk_by (own := [("number", 5)]) (N := ["sets", "count", "longer", "chosen", "first", "number"]) (sc := defScope sLonger) (by decide +kernel))
            (fun _ _ _ _ _ => pg_name (i := 5) scLonger.nd rfl (Or.inl rfl)) (fun _ _ _ _ _ => pts_nil)
            (fun _ _ _ _ _ => pe_op op_cat (pv 3) (pe_lst (pa_cons (pv 5) pa_nil)))) pa_nil))))))
      (pss_one (ps_ret (pv 2)))), ?_⟩
    refine ⟨Nat.zero_le _, fun l0 hl0 => ?_⟩
    have sm0 := same_upd (o := .lst []) hl0
    refine ⟨_, rfl, s, rfl, ⟨_, sm0.seq (SqL.of hs)⟩, for_list (K := K) (a := s) (xs := ws) (fun i σ H' => ∃ (v3 v4 : Option V) (zs : List V), σ = [some (.ref s), some (.int k), some (.ref l0), v3, v4, none] ∧ Same H H' ∧ H' l0 = some (.lst zs) ∧ RL H' zs ((longerM k (S.take i)).map nI) ∧ New H zs ∧ V.ref l0 ∉ zs)
      ⟨none, none, [], rfl, sm0, upd_same, .nil, New.nil _, List.not_mem_nil⟩ (fun i σ H' _ ⟨_, _, _, _, z, _⟩ => z.seq (SqL.of hs)) ?_ ?_⟩
    · rintro i y σ H1 hi ⟨v3, v4, zs, rfl, sm, hl1, hR1, hN1, n1⟩
      have hlen := hR.len
      rw [List.length_map] at hlen
      have hilt : i < S.length := by
        have := (List.getElem?_eq_some_iff.mp hi).1
        omega
      obtain ⟨c, hci⟩ : ∃ c, S[i]? = some c := ⟨S[i], List.getElem?_eq_getElem hilt⟩
      obtain ⟨a, hva, ha⟩ := hR.get (i := i) (l := nI c) (by rw [List.getElem?_map, hci]; rfl)
      rw [hi] at hva
      cases Option.some.inj hva
      have hcm := hc c (List.mem_of_getElem? hci)
      have htake : longerM k (S.take (i + 1)) = longerM k (S.take i) ++ ext k c := by
        rw [List.take_add_one, hci]
        unfold longerM
        rw [List.flatMap_append]
        simp
      have ha1 := sm _ _ ha
      -- behind first = ..
      have go : ∀ nx : Int, nx = nxt c → tDrop (tBM K "list" rExtend (tVar 2) (tCons (tLc (iRng2 (tCons (tVar 4) (tCons (tVar 1) tNil))) (gName 5) tYes (tOp rCat (tVar 3) (tLst (tCons (tVar 5) tNil))) [5]) tNil))
          { nx := fun σ' H' => ∃ (v3 v4 : Option V) (zs : List V), σ' = [some (.ref s), some (.int k), some (.ref l0), v3, v4, none] ∧ Same H H' ∧ H' l0 = some (.lst zs) ∧ RL H' zs ((longerM k (S.take (i + 1))).map nI) ∧ New H zs ∧ V.ref l0 ∉ zs, rt := Q, bk := fun σ' H' => False, ct := fun σ' H' => False }
          [some (.ref s), some (.int k), some (.ref l0), some (.ref a), some (.int nx), none] H1 := fun nx hnx => by
        refine ⟨_, rfl, .inl ⟨rfl, _, SqL.of hl1⟩, ?_⟩
        refine ⟨_, rfl, _, rfl, nx, (k : Int), rfl, ⟨by omega, by omega, by omega, by omega⟩, fun D1 hD1 => ?_⟩
        have hn : ((k : Int) - nx).toNat = k - nxt c := by omega
        rw [hn]
        refine lc_rows walk_range (fun i => nI (c ++ [nxt c + i])) hD1 (by omega) (fun _ _ => trivial) ?_ ?_
        · rintro t x H2 H3 G ht s2 hne ⟨rfl, rfl⟩ hg
          refine ⟨rfl, ?_⟩
          refine ⟨_, rfl, _, rfl, (by show 1 ≤ sizeLine; decide), fun p1 hp1 => ?_⟩
          have u1 := same_upd (o := .lst [V.int (nx + (t : Nat))]) hp1
          refine ⟨a, p1, _, _, rfl, rfl, u1 _ _ (s2 _ _ ha1), upd_same, line10 (by rw [List.length_map]; unfold nI; rw [List.length_map]; simp only [List.length_singleton]; omega), fun p2 hp2 => ?_⟩
          refine hg _ p2 (u1.trans (same_upd hp2)) (u1.free hp2) ?_
          rw [upd_same, nI_app, List.map_append, hnx]
          rfl
        · intro H2 ys s2 hD2 hR2 hN2 nD2
          have e2 : (List.range (k - nxt c)).map (fun i => nI (c ++ [nxt c + i])) = (ext k c).map nI := by
            unfold ext
            rw [List.map_map]
            rfl
          rw [e2] at hR2
          have hl2 := s2 _ _ hl1
          have hzl := hR1.len
          have hyl := hR2.len
          rw [List.length_map] at hzl hyl
          have b1 := longer_len k (S.take i)
          have b2 := ext_len k c
          have b3 : (S.take i).length * k ≤ 2000 * 100 := Nat.mul_le_mul (by rw [List.length_take]; omega) hk
          refine ⟨l0, D1, _, _, rfl, rfl, hl2, hD2, line10 (by omega), ?_⟩
          have nl2 : V.ref l0 ∉ ys := hN2.off hl1
          refine ⟨_, _, zs ++ ys, rfl, fun b o e => ?_, upd_same, ?_, hN1.app (hN2.back sm), fun z => ?_⟩
          · rw [upd_ne (ne_of_none e hl0)]
            exact s2 _ _ (sm b o e)
          · rw [htake, List.map_append]
            have k1 : ∀ {us : List V} {ls : List (List Int)}, RL H2 us ls → V.ref l0 ∉ us → RL (upd H2 l0 (.lst (zs ++ ys))) us ls := fun {us ls} r nn => r.keep fun b o hb e => by
              rw [upd_ne (fun z => nn (by rw [← z]; exact hb))]
              exact e
            exact rl_app (k1 (hR1.same s2) n1) (k1 hR2 nl2)
          · rcases List.mem_append.mp z with z | z
            · exact n1 z
            · exact nl2 z
      refine ⟨_, rfl, !(nv c).isEmpty, .inl ⟨nv c, SqL.of (by rw [nv_nI]; exact ha1), rfl⟩, ?_⟩
      cases hcl : c.getLast? with
      | none =>
        have e0 : c = [] := List.getLast?_eq_none_iff.mp hcl
        subst e0
        exact iteF (go 0 rfl)
      | some m =>
        have hne : c ≠ [] := fun z => by rw [z] at hcl; cases hcl
        have hisE : (nv c).isEmpty = false := by
          cases c with
          | nil => exact absurd rfl hne
          | cons => rfl
        rw [hisE]
        refine iteT ?_
        obtain ⟨c', rfl⟩ : ∃ c', c = c' ++ [m] := List.getLast?_eq_some_iff.mp hcl
        refine ⟨_, rfl, _, rfl, a, nv (c' ++ [m]), _, _, rfl, rfl, SqL.of (by rw [nv_nI]; exact ha1), (by unfold nv; rw [List.map_append]; exact atI_last _ _), _, _, rfl, rfl, ?_⟩
        refine go _ ?_
        unfold nxt
        rw [hcl]
        rfl
    · rintro σ H1 ⟨v3, v4, zs, rfl, sm, hl1, hR1, hN1, n1⟩
      have hlen := hR.len
      rw [List.length_map] at hlen
      rw [List.take_of_length_le (by omega)] at hR1
      exact ⟨_, rfl, q H1 l0 sm hl0 ⟨zs, hl1, hR1, hN1⟩⟩
end
end Fm

/-! sets_of, is_smaller_within, least_sets, winning_sets. -/
namespace Fm
open PySem PySem.Spec PyProof.Rows L2
open Vaskya (Measure Item Sheet)
def lv (k : Nat) : Nat → List (List Nat)
  | 0 => [[]]
  | j + 1 => longerM k (lv k j)
def upto (k j : Nat) : List (List Nat) := (List.range j).flatMap fun i => lv k (i + 1)
theorem upto_succ (k j : Nat) : upto k (j + 1) = upto k j ++ lv k (j + 1) := by
  unfold upto
  rw [List.range_succ, List.flatMap_append]
  simp
theorem lv_facts : ∀ k < 17, ∀ j < 5, (lv k j).length ≤ 2000 ∧ (∀ c ∈ lv k j, c.length ≤ 100 ∧ nxt c ≤ 100) ∧ lv k j = Vaskyb.choose j (List.range k) := by decide +kernel
theorem upto_facts : ∀ k ∈ [1, 2, 3, 4], upto k k = Vaskyb.subsets k ∧ ∀ j < 5, (upto k j).length ≤ 100 := by decide +kernel
theorem in14 {k : Nat} (h0 : 0 < k) (h4 : k ≤ 4) : k ∈ [1, 2, 3, 4] := by
  simp only [List.mem_cons, List.not_mem_nil, or_false]
  omega
/-! ### sets_of_size -/
abbrev sSetsSize : Stmt := top 49
def spSetsSize : Sp := fun vs H Q _ => ∃ (n k : Nat), vs = [.int n, .int k] ∧ n ≤ 4 ∧ k ≤ 16 ∧ ∀ H' p, Same H H' → H p = none → RowsAt H H' p ((lv k n).map nI) → Q (.ref p) H'
def spSetsOf : Sp := fun vs H Q _ => ∃ k : Nat, vs = [.int k] ∧ 0 < k ∧ k ≤ 4 ∧ ∀ H' p, Same H H' → H p = none → RowsAt H H' p ((Vaskyb.subsets k).map nI) → Q (.ref p) H'
section
variable {P : Program} {w : World} {K : PySem.W.Frag} {mg : Str → Option Value} {base : Heap}
theorem scSetsSize : FnScope ["size", "count", "sets", "turn"] ["size", "count"] (defScope sSetsSize) := ⟨rfl, rfl, rfl, by decide +kernel, rfl, by decide +kernel, by decide +kernel⟩
theorem ok_setsSize (D : DefT K mg "sets_of_size" sSetsSize ["size", "count"]) (FL : DefT K mg "longer_sets" sLonger ["sets", "count"]) (gr : mg "range" = none) : FnOk P w K mg base CX0 2 D.f D.fd ["size", "count"] spSetsSize := by
  refine D.F.ok scSetsSize (fun vs H Q E h => ?_) (fun cdv A_ outer s H vs Q E hr h => ?_)
  · obtain ⟨n, k, rfl, _⟩ := h
    rfl
  · obtain ⟨n, k, rfl, hn, hk, q⟩ := h
    refine ⟨_, pss_cons (ps_set (i := 2) scSetsSize.nd rfl (Or.inl rfl) (pe_lst (pa_cons (pe_lst pa_nil) pa_nil)))
      (pss_cons (ps_for PassesOwn.never rfl (pi_range1 (by rfl) gr (pa_cons (pv 0) pa_nil)) (pg_name (i := 3) scSetsSize.nd rfl (Or.inl rfl))
        (pss_one (ps_set (i := 2) scSetsSize.nd rfl (Or.inl rfl) (pe_def FL (ok_longer FL gr) hr (pa_cons (pv 2) (pa_cons (pv 1) pa_nil))))))
      (pss_one (ps_ret (pv 2)))), ?_⟩
    refine ⟨Nat.zero_le _, fun e0 he0 => ?_⟩
    have sm1 := same_upd (o := .lst []) he0
    refine ⟨(by show 1 ≤ sizeLine; decide), fun e1 he1 => ?_⟩
    have sm2 := same_upd (o := .lst [V.ref e0]) he1
    have hn' : ((n : Nat) : Int).toNat = n := Int.toNat_natCast n
    refine ⟨_, rfl, (n : Int), rfl, by omega, by omega, ?_⟩
    refine for_it walk_range (fun i σ H' => ∃ (p : Addr) (v : Option V), σ = [some (.int n), some (.int k), some (.ref p), v] ∧ Same H H' ∧ H p = none ∧ RowsAt H H' p ((lv k i).map nI))
      ⟨e1, none, rfl, sm1.trans sm2, sm1.free he1, [V.ref e0], upd_same, .cons (by rw [sm2 _ _ upd_same]; rfl) .nil, New.one he0⟩ (fun _ _ _ _ _ => trivial) ?_ ?_
    · rintro i x σ H1 H2 hi ⟨p, v, rfl, sm, hp, ws, g1, g2, g3⟩ ⟨rfl, rfl⟩
      have f := lv_facts k (by omega) i (by omega)
      refine ⟨_, rfl, _, rfl, p, k, ws, lv k i, rfl, g1, g2, by omega, f.1, f.2.1, fun H3 p3 s3 hp3 hrow => ?_⟩
      obtain ⟨us, u1, u2, u3⟩ := hrow
      exact ⟨p3, _, rfl, sm.trans s3, sm.free hp3, us, u1, u2, u3.back sm⟩
    · rintro σ H1 ⟨p, v, rfl, sm, hp, hrow⟩
      rw [hn'] at hrow
      exact ⟨_, rfl, q H1 p sm hp hrow⟩

/-! ### sets_of -/
theorem scSetsOf : FnScope ["count", "sets", "size"] ["count"] (defScope sSetsOf) := ⟨rfl, rfl, rfl, by decide +kernel, rfl, by decide +kernel, by decide +kernel⟩
theorem ok_setsOf (D : DefT K mg "sets_of" sSetsOf ["count"]) (FS : DefT K mg "sets_of_size" sSetsSize ["size", "count"]) (FL : DefT K mg "longer_sets" sLonger ["sets", "count"]) (gr : mg "range" = none) : FnOk P w K mg base CX0 3 D.f D.fd ["count"] spSetsOf := by
  refine D.F.ok scSetsOf (fun vs H Q E h => ?_) (fun cdv A_ outer s H vs Q E hr h => ?_)
  · obtain ⟨k, rfl, _⟩ := h
    rfl
  · obtain ⟨k, rfl, hk0, hk4, q⟩ := h
    obtain ⟨f1, f2⟩ := upto_facts k (in14 hk0 hk4)
    refine ⟨_, pss_cons (ps_set (i := 1) scSetsOf.nd rfl (Or.inl rfl) (pe_lst pa_nil))
      (pss_cons (ps_for PassesOwn.never rfl (pi_range2 (by rfl) gr (pa_cons pe_int (pa_cons (pe_op op_add (pv 0) pe_int) pa_nil))) (pg_name (i := 2) scSetsOf.nd rfl (Or.inl rfl))
        (pss_one (ps_expr (pe_bm PySem.F.plainAttrs_list PySem.F.slot_list_extend PySem.F.type_list_extend mt_extend (pv 1) (pa_cons (pe_def FS (ok_setsSize FS FL gr) hr (pa_cons (pv 2) (pa_cons (pv 0) pa_nil))) pa_nil)))))
      (pss_one (ps_ret (pv 1)))), ?_⟩
    refine ⟨Nat.zero_le _, fun l0 hl0 => ?_⟩
    have sm0 := same_upd (o := .lst []) hl0
    refine ⟨_, rfl, _, _, rfl, rfl, 1, ((k : Int) + 1), rfl, ⟨by omega, by omega, by omega, by omega⟩, ?_⟩
    have hn' : ((k : Int) + 1 - 1).toNat = k := by omega
    refine for_it walk_range (fun i σ H' => ∃ (v : Option V) (zs : List V), σ = [some (.int k), some (.ref l0), v] ∧ Same H H' ∧ H' l0 = some (.lst zs) ∧ RL H' zs ((upto k i).map nI) ∧ New H zs ∧ V.ref l0 ∉ zs)
      ⟨none, [], rfl, sm0, upd_same, .nil, New.nil _, List.not_mem_nil⟩ (fun _ _ _ _ _ => trivial) ?_ ?_
    · rintro i x σ H1 H2 hi ⟨v, zs, rfl, sm, hl1, hR1, hN1, n1⟩ ⟨rfl, rfl⟩
      rw [hn'] at hi
      have b1 := f2 i (by omega)
      have b2 := (lv_facts k (by omega) (i + 1) (by omega)).1
      have lz := hR1.len
      rw [List.length_map] at lz
      refine ⟨_, rfl, .inl ⟨rfl, _, SqL.of hl1⟩, _, rfl, _, rfl, i + 1, k, (by show ([V.int ((1 : Int) + (i : Nat)), V.int (k : Nat)] : List V) = _; rw [Int.add_comm]; rfl), by omega, by omega, fun H3 p3 s3 hp3 hrow => ?_⟩
      obtain ⟨ws, g1, g2, g3⟩ := hrow
      have lw := g2.len
      rw [List.length_map] at lw
      have hl3 := s3 _ _ hl1
      refine ⟨l0, p3, _, _, rfl, rfl, hl3, g1, line10 (by omega), ?_⟩
      have nl3 : V.ref l0 ∉ ws := g3.off hl1
      have kp : ∀ {us : List V} {ls : List (List Int)}, RL H3 us ls → V.ref l0 ∉ us → RL (upd H3 l0 (.lst (zs ++ ws))) us ls := fun {us ls} r nn => r.keep fun b o hb e => by
        rw [upd_ne (fun z => nn (by rw [← z]; exact hb))]
        exact e
      refine ⟨_, zs ++ ws, rfl, fun b o e => ?_, upd_same, ?_, hN1.app (g3.back sm), fun z => ?_⟩
      · rw [upd_ne (ne_of_none e hl0)]
        exact s3 _ _ (sm b o e)
      · rw [upto_succ, List.map_append]
        exact rl_app (kp (hR1.same s3) n1) (kp g2 nl3)
      · rcases List.mem_append.mp z with z | z
        · exact n1 z
        · exact nl3 z
    · rintro σ H1 ⟨v, zs, rfl, sm, hl1, hR1, hN1, n1⟩
      rw [hn', f1] at hR1
      exact ⟨_, rfl, q H1 l0 sm hl0 ⟨zs, hl1, hR1, hN1⟩⟩

/-! ### is_smaller_within -/
abbrev sSmaller : Stmt := top 57
abbrev sLeast : Stmt := top 58
abbrev sWinning : Stmt := top 56
def smallerM (a b : List Nat) : Bool := decide (a.length < b.length) && a.all fun m => b.contains m
def leastM (S : List (List Nat)) : List (List Nat) := S.filter fun c => !S.any fun o => smallerM o c
def spSmaller (K : PySem.W.Frag) : Sp := fun vs H Q _ => ∃ (a b : Addr) (A B : List Nat), vs = [.ref a, .ref b] ∧ SqL K H a (nv A) ∧ SqL K H b (nv B) ∧ A.length ≤ 1000 ∧ ∀ H', Same H H' → Q (.bl (smallerM A B)) H'
theorem inV_nat (m : Nat) : ∀ B : List Nat, inV (V.int m) (nv B) = B.contains m
  | [] => rfl
  | b :: B => by
    have ih := inV_nat m B
    unfold inV at ih ⊢
    unfold nv at ih ⊢
    rw [List.map_cons, List.any_cons, ih, List.contains_cons]
    congr 1
    show ((b : Int) == (m : Int)) = (m == b)
    rw [Bool.eq_iff_iff]
    simp only [beq_iff_eq]
    omega
theorem flat_nat (B : List Nat) : (nv B).all flatV = true := by
  unfold nv
  rw [List.all_map]
  exact List.all_eq_true.mpr fun _ _ => rfl
abbrev sWithin : Stmt := top 51
def withinM (a b : List Nat) : Bool := a.all fun m => b.contains m
def spWithin (K : PySem.W.Frag) : Sp := fun vs H Q _ => ∃ (a b : Addr) (A B : List Nat), vs = [.ref a, .ref b] ∧ SqL K H a (nv A) ∧ SqL K H b (nv B) ∧ A.length ≤ 1000 ∧ ∀ H', Same H H' → Q (.bl (withinM A B)) H'
theorem scWithin : FnScope ["inner", "outer", "number"] ["inner", "outer"] (defScope sWithin) := ⟨rfl, rfl, rfl, by decide +kernel, rfl, by decide +kernel, by decide +kernel⟩
theorem ok_within (D : DefT K mg "is_within" sWithin ["inner", "outer"]) (ga : mg "all" = none) : FnOk P w K mg base CX0 1 D.f D.fd ["inner", "outer"] (spWithin K) := by
  refine D.F.ok scWithin (fun vs H Q E h => ?_) (fun cdv A_ outer s H vs Q E hr h => ?_)
  · obtain ⟨a, b, A, B, rfl, _⟩ := h
    rfl
  · obtain ⟨a, b, A, B, rfl, ha, hb, hz, q⟩ := h
    refine ⟨_, pss_one (ps_ret (pe_callB (cr_all rfl) (by rfl) ga (by decide +kernel) (pa_cons (pe_lc (own := [("number", 2)]) (g := gName 2) (te := tOp (rIn K false) (tVar 2) (tVar 1)) rfl scWithin.nd (pi_list (pv 0))
        (blkOk_by (own := [("number", 2)]) (N := ["inner", "outer", "number"]) (sc := defScope sWithin) (by decide +kernel)) (fun _ _ _ _ _ => pg_name (i := 2) scWithin.nd rfl (Or.inl rfl)) (fun _ _ _ _ _ => pts_nil)
        (fun _ _ _ _ _ => pe_cmpR op_in_seq (pv 2) (pv 1) rfl)) pa_nil))), ?_⟩
    refine ⟨_, rfl, a, rfl, ⟨_, ha⟩, fun D1 hD1 => ?_⟩
    refine lc_fun (walk_list (xs := nv A)) (fun t => V.bl (B.contains (A.getD t 0))) hD1 (by rw [nv_len]; omega) (fun H' sm => sm.seq ha) ?_ ?_
    · rintro t x H' H2 G ht sm hne ⟨rfl, hx⟩ hg
      obtain ⟨m, hm, rfl⟩ := nv_at hx
      have := hg H2 (Same.refl _)
      rw [getD_of hm, ← inV_nat] at this
      exact ⟨rfl, _, rfl, _, rfl, b, _, rfl, .inl (sm.seq hb), rfl, flat_nat B, this⟩
    · intro H2 sm2 hD2
      rw [nv_len, bl_map] at hD2
      refine ⟨D1, _, rfl, SqL.of hD2, ?_⟩
      rw [all_range A 0 (fun m => B.contains m)]
      exact q H2 sm2
theorem scSmaller : FnScope ["smaller", "larger"] ["smaller", "larger"] (defScope sSmaller) := ⟨rfl, rfl, rfl, by decide +kernel, rfl, by decide +kernel, by decide +kernel⟩
theorem ok_smaller (D : DefT K mg "is_smaller_within" sSmaller ["smaller", "larger"]) (FW : DefT K mg "is_within" sWithin ["inner", "outer"]) (gl : mg "len" = none) (ga : mg "all" = none) : FnOk P w K mg base CX0 2 D.f D.fd ["smaller", "larger"] (spSmaller K) := by
  refine D.F.ok scSmaller (fun vs H Q E h => ?_) (fun cdv A_ outer s H vs Q E hr h => ?_)
  · obtain ⟨a, b, A, B, rfl, _⟩ := h
    rfl
  · obtain ⟨a, b, A, B, rfl, ha, hb, hz, q⟩ := h
    refine ⟨_, pss_one (ps_ret (pe_and (pe_cmpR op_lt (pe_callB call_len_seq (by rfl) gl PySem.boot_len (pa_cons (pv 0) pa_nil)) (pe_callB call_len_seq (by rfl) gl PySem.boot_len (pa_cons (pv 1) pa_nil)) (nomark _))
      (pe_one (pe_def FW (ok_within FW ga) hr (pa_cons (pv 0) (pa_cons (pv 1) pa_nil)))))), ?_⟩
    refine ⟨_, rfl, a, _, rfl, .inl ha, _, rfl, b, _, rfl, .inl hb, _, _, rfl, rfl, _, rfl, ?_⟩
    unfold smallerM at q
    rw [nv_len, nv_len]
    have ec : decide ((A.length : Int) < (B.length : Int)) = decide (A.length < B.length) := decide_eq_decide.mpr (by omega)
    rw [ec]
    refine ite2 (fun c => ?_) (fun c => ?_)
    · rw [c, Bool.true_and] at q
      exact ⟨_, rfl, _, rfl, a, b, A, B, rfl, ha, hb, hz, q⟩
    · rw [eq_false_of_ne_true c, Bool.false_and] at q
      exact q H (Same.refl _)

/-! ### least_sets -/
theorem rl_filter {H : Hp} {ws : List V} {ls : List (List Int)} (h : RL H ws ls) (p : Nat → Bool) (l : List Nat) (hl : ∀ i ∈ l, i < ls.length) : RL H ((l.filter p).map fun t => ws.getD t .non) ((l.filter p).map fun t => ls.getD t []) := by
  induction l with
  | nil => exact .nil
  | cons i l ih =>
    have ih' := ih fun j hj => hl j (List.mem_cons_of_mem _ hj)
    rw [List.filter_cons]
    split
    · obtain ⟨a, h1, h2⟩ := h.get (List.getElem?_eq_getElem (hl i List.mem_cons_self))
      rw [List.map_cons, List.map_cons, getD_of h1, getD_of (List.getElem?_eq_getElem (hl i List.mem_cons_self))]
      exact .cons h2 ih'
    · exact ih'
theorem new_filter {H : Hp} {ws : List V} (h : New H ws) (p : Nat → Bool) (l : List Nat) (hl : ∀ i ∈ l, i < ws.length) : New H ((l.filter p).map fun t => ws.getD t .non) := fun a ha => by
  obtain ⟨t, ht, e⟩ := List.mem_map.mp ha
  have := hl t ((List.mem_filter.mp ht).1)
  rw [List.getD_eq_getElem?_getD, List.getElem?_eq_getElem this] at e
  exact h a (by rw [← e]; exact List.getElem_mem this)
def spLeast (K : PySem.W.Frag) : Sp := fun vs H Q _ => ∃ (a : Addr) (ws : List V) (S : List (List Nat)), vs = [.ref a] ∧ H a = some (.lst ws) ∧ RL H ws (S.map nI) ∧ S.length ≤ 1000 ∧ (∀ c ∈ S, c.length ≤ 1000) ∧
  ∀ H' p zs, Same H H' → H p = none → H' p = some (.lst zs) → RL H' zs ((leastM S).map nI) → (∀ v ∈ zs, v ∈ ws) → Q (.ref p) H'
theorem scLeast : FnScope ["sets", "chosen", "other"] ["sets"] (defScope sLeast) := ⟨rfl, rfl, rfl, by decide +kernel, rfl, by decide +kernel, by decide +kernel⟩
/-- the outer block's names -/
def scpLeast : Scope := { kind := .function, names := [(".0", .local), ("chosen", .cell), ("any", .globalImplicit), ("sets", .cell)], isGenerator := false, isCoroutine := false }
theorem ok_least (D : DefT K mg "least_sets" sLeast ["sets"]) (FS : DefT K mg "is_smaller_within" sSmaller ["smaller", "larger"]) (FW : DefT K mg "is_within" sWithin ["inner", "outer"]) (gl : mg "len" = none) (ga : mg "all" = none) (gn : mg "any" = none) : FnOk P w K mg base CX0 3 D.f D.fd ["sets"] (spLeast K) := by
  refine D.F.ok scLeast (fun vs H Q E h => ?_) (fun cdv A_ outer s H vs Q E hr h => ?_)
  · obtain ⟨a, ws, S, rfl, _⟩ := h
    rfl
  · obtain ⟨a, ws, S, rfl, ha, hR, hz, hc, q⟩ := h
    refine ⟨_, pss_one (ps_ret (pe_lc (own := [("chosen", 1)]) (g := gName 1)
        (tt := tNot (tB (tCB (rAny K) (tCons (tLc (iList K (tVar 0)) (gName 2) tYes (tCall (spSmaller K) [] E0 (tCons (tVar 2) (tCons (tVar 1) tNil))) [2]) tNil))))
        rfl scLeast.nd (pi_list (pv 0)) (blkOk_by (own := [("chosen", 1)]) (N := ["sets", "chosen", "other"]) (sc := defScope sLeast) (by decide +kernel)) (fun _ _ _ _ _ => pg_name (i := 1) scLeast.nd rfl (Or.inr rfl))
        (fun _ _ _ _ _ => pts_one (pt_not (pt_val (pe_callB (cr_any rfl) (by rfl) gn PyProof.Rows.boot_any (pa_cons (pe_lc (wi := iList K (tVar 0)) (own := [("other", 2)]) (g := gName 2) (te := tCall (spSmaller K) [] E0 (tCons (tVar 2) (tCons (tVar 1) tNil))) rfl scLeast.nd (pi_list (pv 0))
          (blkOk_by (own := [("other", 2)]) (N := ["sets", "chosen", "other"]) (sc := scpLeast) (by decide +kernel)) (fun _ _ _ _ _ => pg_name (i := 2) scLeast.nd rfl (Or.inl rfl)) (fun _ _ _ _ _ => pts_nil)
          (fun _ _ _ _ _ => pe_def FS (ok_smaller FS FW gl ga) hr (pa_cons (pv 2) (pa_cons (pv 1) pa_nil)))) pa_nil)))))
        (fun _ _ _ _ _ => pv 1))), ?_⟩
    have lw := hR.len
    rw [List.length_map] at lw
    have hat : ∀ {i : Nat} {x : V}, ws[i]? = some x → ∃ c b, S[i]? = some c ∧ x = .ref b ∧ H b = some (.lst (nv c)) := fun {i x} hx => by
      have hi : i < S.length := by
        have := (List.getElem?_eq_some_iff.mp hx).1
        omega
      obtain ⟨b, h1, h2⟩ := hR.get (i := i) (l := nI S[i]) (by rw [List.getElem?_map, List.getElem?_eq_getElem hi]; rfl)
      rw [hx] at h1
      exact ⟨S[i], b, List.getElem?_eq_getElem hi, Option.some.inj h1, by rw [nv_nI]; exact h2⟩
    refine ⟨_, rfl, a, rfl, ⟨_, SqL.of ha⟩, fun D1 hD1 => ?_⟩
    refine lc_keep (walk_list (xs := ws)) (fun t => !S.any fun o => smallerM o (S.getD t [])) (fun t => ws.getD t .non) hD1 (by omega) (fun H' sm => sm.seq (SqL.of ha)) ?_ ?_
    · rintro t x H' H2 G N ht sm hne ⟨rfl, hx⟩ hg hn
      obtain ⟨c, b, hci, rfl, hb⟩ := hat hx
      rw [getD_of hci, getD_of hx] at hg
      rw [getD_of hci] at hn
      refine ⟨rfl, ?_⟩
      refine ⟨_, rfl, a, rfl, ⟨_, sm.seq (SqL.of ha)⟩, fun D2 hD2 => ?_⟩
      refine lc_fun (walk_list (xs := ws)) (fun u => V.bl (smallerM (S.getD u []) c)) hD2 (by omega) (fun H' s3 => s3.seq (sm.seq (SqL.of ha))) ?_ ?_
      · rintro u y H3 H4 G' hu s3 hne3 ⟨rfl, hy⟩ hg'
        obtain ⟨o, bo, hoi, rfl, hbo⟩ := hat hy
        refine ⟨rfl, ?_⟩
        refine ⟨_, rfl, _, rfl, bo, b, o, c, rfl, SqL.of (s3 _ _ (sm _ _ hbo)), SqL.of (s3 _ _ (sm _ _ hb)), hc o (List.mem_of_getElem? hoi), fun H5 s5 => ?_⟩
        have := hg' H5 s5
        rw [getD_of hoi] at this
        exact this
      · intro H3 s3 hD3
        rw [lw, bl_map] at hD3
        refine ⟨D2, _, rfl, SqL.of hD3, _, rfl, ?_⟩
        rw [any_range S [] (fun o => smallerM o c)]
        cases z : S.any fun o => smallerM o c with
        | true => exact iteF (hn (by rw [z]; rfl) H3 s3)
        | false => exact iteT ⟨_, rfl, hg (by rw [z]; rfl) H3 s3⟩
    · intro H2 sm2 hD2
      have hf := rl_filter (hR.same sm2) (fun t => !S.any fun o => smallerM o (S.getD t [])) (List.range ws.length) (fun i hi => by rw [List.length_map]; rw [List.mem_range] at hi; omega)
      have e : ((List.range ws.length).filter fun t => !S.any fun o => smallerM o (S.getD t [])).map (fun t => (S.map nI).getD t []) = (leastM S).map nI := by
        rw [lw]
        have h := filter_range S [] (fun c => !S.any fun o => smallerM o c) nI
        unfold leastM
        rw [← h]
        refine List.map_congr_left fun t ht => ?_
        rw [List.getD_eq_getElem?_getD, List.getElem?_map, List.getD_eq_getElem?_getD]
        cases S[t]? <;> rfl
      rw [e] at hf
      refine q H2 D1 _ sm2 hD1 hD2 hf fun v hv => ?_
      obtain ⟨t, ht, rfl⟩ := List.mem_map.mp hv
      have hti := List.mem_range.mp ((List.mem_filter.mp ht).1)
      rw [List.getD_eq_getElem?_getD, List.getElem?_eq_getElem hti]
      exact List.getElem_mem hti
end
end Fm

/-! winning_sets; counted, are_measures, sub, least. -/
namespace Fm
open PySem PySem.Spec PyProof.Rows L2
open Vaskya (Measure Item Sheet)
theorem rows_len (s : Sheet) : (Vaskya.rows s).length = s.items.length := List.length_map ..
theorem rows_wide {s : Sheet} (ok : SheetOk s) : Wide (Vaskya.rows s) s.ms.length := by
  intro r hr
  obtain ⟨i, hi, rfl⟩ := List.mem_map.mp hr
  have := ok.wide i hi
  unfold Vaskya.goodOf
  rw [List.length_map, List.length_zip]
  omega
theorem HeldAt.gains {C : Addr} {H : Hp} {x : HA} {s : Sheet} (h : HeldAt C H x s) : Gains H x.gs (Vaskya.rows s) := by
  obtain ⟨_, _, _, vm, vn, vr, vg, e1, r1, e2, r2, e3, r3, e4, r4, no⟩ := h
  exact ⟨vg, e4, r4⟩
theorem HeldAt.names {C : Addr} {H : Hp} {x : HA} {s : Sheet} (h : HeldAt C H x s) : ∃ vn, H x.ns = some (.lst vn) ∧ vn.length = s.items.length := by
  obtain ⟨_, _, _, vm, vn, vr, vg, e1, r1, e2, r2, e3, r3, e4, r4, no⟩ := h
  exact ⟨vn, e2, r2.len.trans (List.length_map ..)⟩
theorem HeldAt.meas {C : Addr} {H : Hp} {x : HA} {s : Sheet} (h : HeldAt C H x s) : ∃ vm, H x.ms = some (.lst vm) ∧ vm.length = s.ms.length := by
  obtain ⟨_, _, _, vm, vn, vr, vg, e1, r1, e2, r2, e3, r3, e4, r4, no⟩ := h
  exact ⟨vm, e1, r1.len.trans (List.length_map ..)⟩
theorem rg_nv (n : Nat) : rgV 0 (n : Int) = nv (List.range n) := by
  unfold rgV nv
  rw [show ((n : Int) - 0).toNat = n by omega]
  refine List.map_congr_left fun i _ => ?_
  rw [Int.zero_add]
theorem rg_ok {n : Nat} (h : n ≤ 1000) : RgOk 0 (n : Int) := RgOk.of_le (by decide) (by omega) (by decide) (by omega)
/-- everyone = list(range(len(..))) -/
theorem sub_ok {s : Sheet} (ok : SheetOk s) : ∀ c ∈ Vaskyb.subsets s.ms.length, c.length ≤ 1000 ∧ ∀ m ∈ c, m < s.ms.length := by
  have key : ∀ k ∈ [1, 2, 3, 4], ∀ c ∈ Vaskyb.subsets k, c.length ≤ 1000 ∧ ∀ m ∈ c, m < k := by decide +kernel
  exact key _ (in14 ok.m0 ok.m4)
theorem sub_len {s : Sheet} (ok : SheetOk s) : (Vaskyb.subsets s.ms.length).length ≤ 15 := by
  have key : ∀ k ∈ [1, 2, 3, 4], (Vaskyb.subsets k).length ≤ 15 := by decide +kernel
  exact key _ (in14 ok.m0 ok.m4)
def everyone (s : Sheet) : List Nat := List.range s.items.length
def winM (s : Sheet) (i : Nat) : List (List Nat) := (Vaskyb.subsets s.ms.length).filter fun c => freeM (Vaskya.rows s) i (everyone s) c
def spWinning (CH : Addr) : Sp := fun vs H Q _ => ∃ (x : HA) (s : Sheet) (i : Nat), vs = [.ref x.a, .int i] ∧ HeldAt CH H x s ∧ SheetOk s ∧ i < s.items.length ∧ ∀ H' p, Same H H' → H p = none → RowsAt H H' p ((winM s i).map nI) → Q (.ref p) H'
abbrev sEveryM : Stmt := inClass (top 9) 3
abbrev sEveryI : Stmt := inClass (top 9) 4
def spEvery (C : Addr) (f : Sheet → Nat) : Sp := fun vs H Q _ => ∃ (x : HA) (s : Sheet), vs = [.ref x.a] ∧ HeldAt C H x s ∧ SheetOk s ∧ ∀ p, H p = none → Q (.ref p) (upd H p (.lst (nv (List.range (f s)))))
theorem hF_everyI (x : HA) : (hF x).lookup ("every_item" : Str) = none := hF_no x (by decide +kernel) (by decide +kernel) (by decide +kernel) (by decide +kernel) (by decide +kernel)
theorem hF_everyM (x : HA) : (hF x).lookup ("every_measure" : Str) = none := hF_no x (by decide +kernel) (by decide +kernel) (by decide +kernel) (by decide +kernel) (by decide +kernel)
section
variable {P : Program} {w : World} {K : PySem.W.Frag} {mg : Str → Option Value} {base : Heap}
theorem scEveryM : FnScope ["self"] ["self"] (defScope sEveryM) := ⟨rfl, rfl, rfl, by decide +kernel, rfl, by decide +kernel, by decide +kernel⟩
theorem scEveryI : FnScope ["self"] ["self"] (defScope sEveryI) := ⟨rfl, rfl, rfl, by decide +kernel, rfl, by decide +kernel, by decide +kernel⟩
theorem ok_everyM {CH : Addr} (M : MethT K CH "every_measure" "HeldList.every_measure" sEveryM ["self"]) (cH : Cls K CH) (NH : HeldT K CH) (gl : mg "len" = none) (gr : mg "range" = none) (gi : mg "list" = none) : FnOk P w K mg base CX0 1 M.f M.fd ["self"] (spEvery CH fun s => s.ms.length) := by
  refine M.F.ok scEveryM (fun vs H Q E h => ?_) (fun cdv A_ outer s H vs Q E hr h => ?_)
  · obtain ⟨x, s, rfl, _⟩ := h
    rfl
  · obtain ⟨x, sh, rfl, hH, ok, q⟩ := h
    refine ⟨_, pss_one (ps_ret (pe_listRg rfl (by rfl) gi (prg_1 (by rfl) gr (pe_callB call_len_seq (by rfl) gl PySem.boot_len (pa_cons (pe_fld (pv 0) rfl) pa_nil))))), ?_⟩
    obtain ⟨⟨dx, h1⟩, _⟩ := id hH
    obtain ⟨vm, hm, lm⟩ := hH.meas
    have m4 := ok.m4
    refine ⟨_, rfl, x.a, CH, dx, _, _, rfl, h1, cH, NH.nM, hF_ms x, x.ms, vm, rfl, .inl (SqL.of hm), _, rfl, ?_⟩
    rw [lm]
    refine ⟨rg_ok (by omega), fun e he => ?_⟩
    rw [rg_nv]
    exact q e he
theorem ok_everyI {CH : Addr} (M : MethT K CH "every_item" "HeldList.every_item" sEveryI ["self"]) (cH : Cls K CH) (NH : HeldT K CH) (gl : mg "len" = none) (gr : mg "range" = none) (gi : mg "list" = none) : FnOk P w K mg base CX0 1 M.f M.fd ["self"] (spEvery CH fun s => s.items.length) := by
  refine M.F.ok scEveryI (fun vs H Q E h => ?_) (fun cdv A_ outer s H vs Q E hr h => ?_)
  · obtain ⟨x, s, rfl, _⟩ := h
    rfl
  · obtain ⟨x, sh, rfl, hH, ok, q⟩ := h
    refine ⟨_, pss_one (ps_ret (pe_listRg rfl (by rfl) gi (prg_1 (by rfl) gr (pe_callB call_len_seq (by rfl) gl PySem.boot_len (pa_cons (pe_fld (pv 0) rfl) pa_nil))))), ?_⟩
    obtain ⟨⟨dx, h1⟩, _⟩ := id hH
    obtain ⟨vn, hn, ln⟩ := hH.names
    have h16 := ok.i16
    refine ⟨_, rfl, x.a, CH, dx, _, _, rfl, h1, cH, NH.nN, hF_ns x, x.ns, vn, rfl, .inl (SqL.of hn), _, rfl, ?_⟩
    rw [ln]
    refine ⟨rg_ok (by omega), fun e he => ?_⟩
    rw [rg_nv]
    exact q e he
end
section
variable {P : Program} {w : World} {K : PySem.W.Frag} {mg : Str → Option Value} {base : Heap}
theorem scWinning : FnScope ["held", "item", "everyone", "sets", "chosen"] ["held", "item"] (defScope sWinning) := ⟨rfl, rfl, rfl, by decide +kernel, rfl, by decide +kernel, by decide +kernel⟩
theorem ok_winning {CH : Addr} (D : DefT K mg "winning_sets" sWinning ["held", "item"]) (cH : Cls K CH) (NH : HeldT K CH) (MI : MethT K CH "every_item" "HeldList.every_item" sEveryI ["self"]) (FS : DefT K mg "sets_of" sSetsOf ["count"]) (FZ : DefT K mg "sets_of_size" sSetsSize ["size", "count"]) (FL : DefT K mg "longer_sets" sLonger ["sets", "count"])
    (FU : DefT K mg "is_unbeaten" sIsUnbeaten ["gains", "item", "among", "chosen"]) (FB : DefT K mg "beats" sBeats ["gains", "one", "other", "chosen"])
    (gl : mg "len" = none) (gr : mg "range" = none) (gi : mg "list" = none) (ga : mg "any" = none) : FnOk P w K mg base CX0 4 D.f D.fd ["held", "item"] (spWinning CH) := by
  refine D.F.ok scWinning (fun vs H Q E h => ?_) (fun cdv A_ outer s H vs Q E hr h => ?_)
  · obtain ⟨x, s, i, rfl, _⟩ := h
    rfl
  · obtain ⟨x, sh, i, rfl, hH, ok, hi, q⟩ := h
    have hr1 : Room 1 _ := hr.mono (by decide)
    have hr2 : Room 2 _ := hr.mono (by decide)
    refine ⟨_, pss_cons (ps_set (i := 2) scWinning.nd rfl (Or.inr rfl) (pe_meth0 (pv 0) cH MI.m (ok_everyI MI cH NH gl gr gi) hr1 MI.b .nil pass0))
      (pss_cons (ps_set (i := 3) scWinning.nd rfl (Or.inl rfl) (pe_def FS (ok_setsOf FS FZ FL gr) hr (pa_cons (pe_callB call_len_seq (by rfl) gl PySem.boot_len (pa_cons (pe_fld (pv 0) rfl) pa_nil)) pa_nil)))
      (pss_one (ps_ret (pe_lc (own := [("chosen", 4)]) (g := gName 4) (tt := tB (tCall (spIsUnbeaten K) [] E0 (tCons (tFld K (tVar 0) "gains") (tCons (tVar 1) (tCons (tVar 2) (tCons (tVar 4) tNil)))))) rfl scWinning.nd (pi_list (pv 3))
        (blkOk_by (own := [("chosen", 4)]) (N := ["held", "item", "everyone", "sets", "chosen"]) (sc := defScope sWinning) (by decide +kernel)) (fun _ _ _ _ _ => pg_name (i := 4) scWinning.nd rfl (Or.inl rfl))
        (fun _ _ _ _ _ => pts_one (pt_val (pe_def FU (ok_isUnbeaten FU FB ga) hr2 (pa_cons (pe_fld (pv 0) rfl) (pa_cons (pv 1) (pa_cons (pv 2) (pa_cons (pv 4) pa_nil)))))))
        (fun _ _ _ _ _ => pv 4))))), ?_⟩
    obtain ⟨⟨dx, h1⟩, _⟩ := id hH
    obtain ⟨vn, hn, ln⟩ := hH.names
    obtain ⟨vm, hm, lm⟩ := hH.meas
    have h16 := ok.i16
    refine ⟨_, rfl, x.a, dx, _, rfl, h1, hF_everyI x, ?_⟩
    dsimp only [tNil]
    refine ⟨x, sh, rfl, hH, ok, fun e he => ?_⟩
    have s0 := same_upd (o := .lst (nv (List.range sh.items.length))) he
    refine ⟨_, rfl, x.a, CH, dx, _, _, rfl, s0 _ _ h1, cH, NH.nM, hF_ms x, x.ms, vm, rfl, .inl (SqL.of (s0 _ _ hm)), ?_⟩
    refine ⟨sh.ms.length, by rw [lm]; rfl, ok.m0, ok.m4, fun H1 p s1 hp hrow => ?_⟩
    obtain ⟨ws, hpw, hR, hN⟩ := hrow
    have lw := hR.len
    rw [List.length_map] at lw
    have hl15 := sub_len ok
    have s01 := s0.trans s1
    have he1 : H1 e = some (.lst (nv (List.range sh.items.length))) := s1 _ _ upd_same
    refine ⟨_, rfl, p, rfl, ⟨_, SqL.of hpw⟩, fun D1 hD1 => ?_⟩
    refine lc_keep (walk_list (xs := ws)) (fun t => freeM (Vaskya.rows sh) i (everyone sh) ((Vaskyb.subsets sh.ms.length).getD t [])) (fun t => ws.getD t .non) hD1 (by omega) (fun H' sm => sm.seq (SqL.of hpw)) ?_ ?_
    · rintro t y H' H2 G N ht sm hne ⟨rfl, hy⟩ hg hn'
      have hti : t < (Vaskyb.subsets sh.ms.length).length := by omega
      obtain ⟨b, hb1, hb2⟩ := hR.get (i := t) (l := nI (Vaskyb.subsets sh.ms.length)[t]) (by rw [List.getElem?_map, List.getElem?_eq_getElem hti]; rfl)
      rw [hy] at hb1
      cases Option.some.inj hb1
      have hci := List.getElem?_eq_getElem hti
      rw [getD_of hci, getD_of hy] at hg
      rw [getD_of hci] at hn'
      have hsub := sub_ok ok _ (List.getElem_mem hti)
      refine ⟨rfl, ?_⟩
      refine ⟨_, rfl, x.a, CH, dx, _, _, rfl, (s01.trans sm) _ _ h1, cH, NH.nG, hF_gs x, _, rfl, _, rfl, _, rfl, x.gs, e, b, Vaskya.rows sh, sh.ms.length, i, everyone sh, _, rfl, (hH.gains).same (s01.trans sm), rows_wide ok, by rw [rows_len]; exact hi, SqL.of (sm _ _ he1),
        (fun j hj => by rw [rows_len]; exact List.mem_range.mp hj), by unfold everyone; rw [List.length_range]; omega, SqL.of (by rw [nv_nI]; exact sm _ _ hb2), hsub.2, hsub.1, fun H3 s3 => ⟨_, rfl, ?_⟩⟩
      cases z : freeM (Vaskya.rows sh) i (everyone sh) (Vaskyb.subsets sh.ms.length)[t] with
      | true => exact iteT ⟨_, rfl, hg z H3 s3⟩
      | false => exact iteF (hn' z H3 s3)
    · intro H2 sm2 hD2
      have hf := rl_filter (hR.same sm2) (fun t => freeM (Vaskya.rows sh) i (everyone sh) ((Vaskyb.subsets sh.ms.length).getD t [])) (List.range ws.length) (fun i hi => by rw [List.length_map]; rw [List.mem_range] at hi; omega)
      have e2 : ((List.range ws.length).filter fun t => freeM (Vaskya.rows sh) i (everyone sh) ((Vaskyb.subsets sh.ms.length).getD t [])).map (fun t => ((Vaskyb.subsets sh.ms.length).map nI).getD t []) = (winM sh i).map nI := by
        rw [lw]
        have h := filter_range (Vaskyb.subsets sh.ms.length) [] (fun c => freeM (Vaskya.rows sh) i (everyone sh) c) nI
        unfold winM
        rw [← h]
        refine List.map_congr_left fun t ht => ?_
        rw [List.getD_eq_getElem?_getD, List.getElem?_map, List.getD_eq_getElem?_getD]
        cases (Vaskyb.subsets sh.ms.length)[t]? <;> rfl
      rw [e2] at hf
      exact q H2 D1 (s01.trans sm2) (s01.free hD1) ⟨_, hD2, hf, new_filter (hN.back s0) _ _ fun j hj => List.mem_range.mp hj⟩

/-! ### counted -/
abbrev sCounted : Stmt := top 76
abbrev sAreMeasures : Stmt := top 77
abbrev sSub : Stmt := top 79
abbrev sLeastDef : Stmt := top 81
def spCounted : Sp := fun vs H Q _ => ∃ (a : Addr) (l : List Int), vs = [.ref a] ∧ H a = some (.lst (l.map V.int)) ∧ l.length ≤ 10000000 ∧ ∀ H' p, Same H H' → H p = none → H' p = some (.lst ((((l.length : Nat) : Int) :: l).map V.int)) → Q (.ref p) H'
theorem scCounted : FnScope ["numbers"] ["numbers"] (defScope sCounted) := ⟨rfl, rfl, rfl, by decide +kernel, rfl, by decide +kernel, by decide +kernel⟩
theorem ok_counted (D : DefT K mg "counted" sCounted ["numbers"]) (gl : mg "len" = none) : FnOk P w K mg base CX0 1 D.f D.fd ["numbers"] spCounted := by
  refine D.F.ok scCounted (fun vs H Q E h => ?_) (fun cdv A_ outer s H vs Q E hr h => ?_)
  · obtain ⟨a, l, rfl, _⟩ := h
    rfl
  · obtain ⟨a, l, rfl, ha, hl, q⟩ := h
    refine ⟨_, pss_one (ps_ret (pe_op op_cat (pe_lst (pa_cons (pe_callB call_len_seq (by rfl) gl PySem.boot_len (pa_cons (pv 0) pa_nil)) pa_nil)) (pv 0))), ?_⟩
    refine ⟨_, rfl, a, _, rfl, .inl (SqL.of ha), (by show 1 ≤ sizeLine; decide), fun p1 hp1 => ?_⟩
    have s1 := same_upd (o := .lst [V.int (l.map V.int).length]) hp1
    refine ⟨_, rfl, p1, a, _, _, rfl, rfl, upd_same, s1 _ _ ha, line10 (by rw [List.length_map]; simp only [List.length_singleton]; omega), fun p2 hp2 => ?_⟩
    refine q _ p2 (s1.trans (same_upd hp2)) (s1.free hp2) ?_
    rw [upd_same, List.length_map]
    rfl

/-! ### len(set(told)) -/
theorem met_len (f : Nat → Int) : ∀ n, (PyProof.Rows.firstMet f n).length ≤ n ∧ ((PyProof.Rows.firstMet f n).length = n ↔ ((List.range n).map f).Nodup) ∧ (((List.range n).map f).Nodup → PyProof.Rows.firstMet f n = (List.range n).map f)
  | 0 => by simp [PyProof.Rows.firstMet]
  | n + 1 => by
    obtain ⟨h1, h2, h3⟩ := met_len f n
    have hs := PyProof.Rows.firstMet_succ f n
    have e : PyProof.Rows.firstMet f (n + 1) = if (PyProof.Rows.firstMet f n).any (· == f n) then PyProof.Rows.firstMet f n else PyProof.Rows.firstMet f n ++ [f n] := hs
    rw [List.range_succ, List.map_append]
    by_cases hd : ((List.range n).map f).Nodup
    · have e3 := h3 hd
      by_cases hm : (PyProof.Rows.firstMet f n).any (· == f n) = true
      · rw [e, if_pos hm]
        have nd : ¬ (((List.range n).map f) ++ [f n]).Nodup := fun z => by
          rw [e3] at hm
          obtain ⟨y, hy, ey⟩ := List.any_eq_true.mp hm
          rw [beq_iff_eq.mp ey] at hy
          have := (List.nodup_append.mp z).2.2 _ hy _ (List.mem_singleton.mpr rfl)
          exact this rfl
        refine ⟨by omega, ⟨fun z => by omega, fun z => absurd z nd⟩, fun z => absurd z nd⟩
      · rw [e, if_neg hm]
        have nd : (((List.range n).map f) ++ [f n]).Nodup := by
          rw [List.nodup_append]
          refine ⟨hd, by simp, fun a ha b hb z => ?_⟩
          rw [List.mem_singleton.mp hb] at z
          apply hm
          rw [e3]
          exact List.any_eq_true.mpr ⟨a, ha, by rw [z]; exact beq_self_eq_true _⟩
        refine ⟨by rw [List.length_append, List.length_singleton]; omega, ⟨fun _ => nd, fun _ => ?_⟩, fun _ => ?_⟩
        · rw [List.length_append, List.length_singleton, h2.mpr hd]
        · rw [e3]
          rfl
    · have nd : ¬ (((List.range n).map f) ++ [f n]).Nodup := fun z => hd (List.nodup_append.mp z).1
      have h4 : (PyProof.Rows.firstMet f n).length ≠ n := fun z => hd (h2.mp z)
      refine ⟨?_, ⟨fun z => ?_, fun z => absurd z nd⟩, fun z => absurd z nd⟩
      · rw [e]
        split
        · omega
        · rw [List.length_append, List.length_singleton]
          omega
      · exfalso
        rw [e] at z
        split at z
        · omega
        · rw [List.length_append, List.length_singleton] at z
          omega
end
end Fm

/-! len(set(..)) of any whole numbers; are_measures, sub, least. -/
namespace Fm
open PySem PySem.Spec PyProof.Rows L2
open Vaskya (Measure Item Sheet)
def metLen (l : List Int) : Nat := (PyProof.Rows.firstMet (fun i => l.getD i 0) l.length).length
theorem metLen_le (l : List Int) : metLen l ≤ l.length := (met_len _ _).1
theorem metLen_nodup (l : List Int) : metLen l = l.length ↔ l.Nodup := by
  have h := (met_len (fun i => l.getD i 0) l.length).2.1
  have e : (List.range l.length).map (fun i => l.getD i 0) = l := by
    have := map_range_getD l 0 (fun z : Int => z)
    rw [List.map_id'] at this
    exact this
  rw [e] at h
  exact h
def tLenSetN (K : PySem.W.Frag) (ta : TE) : TE := fun σ H Q => ta σ H fun x H1 => ∃ (a : Addr) (l : List Int), x = .ref a ∧ SqL K H1 a (l.map V.int) ∧ l.length ≤ 4000 ∧ Q (.int (metLen l : Nat)) H1
theorem pe_lenSetN {X : Cx} {a : Expr} {ta : TE} {p p2 q pos : Pos} (gl : X.mg "len" = none) (gs : X.mg "set" = none) (ha : PE X a ta) (hl : Gl X "len" := by rfl) (hs : Gl X "set" := by rfl) (hc : X.calm = true := by rfl)
    (na : starEach [a] X.env = (false, eval a X.env) :: starEach [] X.env := by rfl) : PE X (.Call (.Name "len" p) [.Call (.Name "set" p2) [a] [] q] [] pos) (tLenSetN X.K ta) := by
  refine ⟨fun pins s σ H Q I h => Call_ (ld_blt I hl gl PySem.boot_len ?_)⟩
  refine PyProof.Rows.callWith_builtin1 (PyProof.Rows.args_cons (Call_ (ld_blt I hs gs boot_set ?_)) rfl) rfl rfl
  refine PyProof.Rows.callWith_type1 (PyProof.Rows.args_cons (thn (ha.run pins s σ H _ I h) fun v s1 hv => PyProof.Rows.args_nil ?_) na) na rfl
  obtain ⟨x, H1, I1, r1, b, ns, rfl, hq, hz, q1⟩ := hv
  cases r1
  obtain ⟨its, rv, pl, _⟩ := I1.list hq
  have size : its.toArray.size = ns.length := by
    rw [List.size_toArray, ← rv.length, List.length_map]
  refine call_set_list (I1.ok.hd hc) pl.isList (by simpa using RZ.intsAre_vals rv) (by rw [size]; unfold scanBound; omega) fun h' tk hS hk => PyProof.Rows.args_nil ?_
  rw [size] at hS
  obtain ⟨o, es, ep, t, ho, hex, hd, _, _, _, hf, hn⟩ := hS
  have I2 : Inv X pins σ H1 { s1 with heap := h', toks := tk } := I1.kept fun c u e => hk c u (Heap.lt_size e) e
  have le := metLen_le ns
  have hn' : _ = metLen ns := hn
  exact call_len_set ho hex hd hf (by rw [hn'] <;> omega) ⟨.int (metLen ns : Nat), H1, I2.tok _, ⟨_, by rw [hn']⟩, q1⟩

theorem nodup_len : ∀ {l m : List Nat}, l.Nodup → l ⊆ m → l.length ≤ m.length
  | [], _, _, _ => Nat.zero_le _
  | a :: l, m, h, hs => by
    have ha : a ∈ m := hs List.mem_cons_self
    have h2 : l ⊆ m.erase a := fun b hb => by
      have hbm : b ∈ m := hs (List.mem_cons_of_mem _ hb)
      have hne : b ≠ a := fun z => (List.nodup_cons.mp h).1 (by rw [← z]; exact hb)
      exact (List.mem_erase_of_ne hne).mpr hbm
    have ih := nodup_len (List.nodup_cons.mp h).2 h2
    rw [List.length_erase_of_mem ha] at ih
    have : 0 < m.length := List.length_pos_of_mem ha
    rw [List.length_cons]
    omega
/-! ### are_measures -/
/-- told as the interface hands them over -/
def measM (l : List Int) (k : Nat) : Bool := !(l.any fun m => decide (m < 0) || decide ((k : Int) ≤ m)) && (decide (0 < l.length) && decide (l.Nodup))
def spAre (K : PySem.W.Frag) : Sp := fun vs H Q _ => ∃ (a : Addr) (l : List Int) (k : Nat), vs = [.ref a, .int k] ∧ SqL K H a (l.map V.int) ∧ l.length ≤ 2000 ∧ ∀ H', Same H H' → Q (.bl (measM l k)) H'
section
variable {P : Program} {w : World} {K : PySem.W.Frag} {mg : Str → Option Value} {base : Heap}
theorem scAre : FnScope ["told", "count", "measure"] ["told", "count"] (defScope sAreMeasures) := ⟨rfl, rfl, rfl, by decide +kernel, rfl, by decide +kernel, by decide +kernel⟩
theorem ok_are (D : DefT K mg "are_measures" sAreMeasures ["told", "count"]) (gl : mg "len" = none) (gs : mg "set" = none) (ga : mg "any" = none) : FnOk P w K mg base CX0 1 D.f D.fd ["told", "count"] (spAre K) := by
  refine D.F.ok scAre (fun vs H Q E h => ?_) (fun cdv A_ outer s H vs Q E hr h => ?_)
  · obtain ⟨a, l, k, rfl, _⟩ := h
    rfl
  · obtain ⟨a, l, k, rfl, ha, hz, q⟩ := h
    refine ⟨_, pss_cons (ps_if (pt_val (pe_callB (cr_any rfl) (by rfl) ga PyProof.Rows.boot_any (pa_cons (pe_lc (own := [("measure", 2)]) (g := gName 2) rfl scAre.nd (pi_list (pv 0))
        (blkOk_by (own := [("measure", 2)]) (N := ["told", "count", "measure"]) (sc := defScope sAreMeasures) (by decide +kernel)) (fun _ _ _ _ _ => pg_name (i := 2) scAre.nd rfl (Or.inl rfl)) (fun _ _ _ _ _ => pts_nil)
        (fun _ _ _ _ _ => pe_or (pe_cmpR op_lt (pv 2) pe_int (nomark _)) (pe_one (pe_cmpR op_ge (pv 2) (pv 1) (nomark _))))) pa_nil)))
        (pss_one (ps_ret pe_bl)) pss_nil)
      (pss_one (ps_ret (pe_and (pe_cmpR op_gt (pe_callB call_len_seq (by rfl) gl PySem.boot_len (pa_cons (pv 0) pa_nil)) pe_int (nomark _))
        (pe_one (pe_cmpR op_eq (pe_lenSetN gl gs (pv 0)) (pe_callB call_len_seq (by rfl) gl PySem.boot_len (pa_cons (pv 0) pa_nil)) (nomark _)))))), ?_⟩
    refine ⟨_, rfl, a, rfl, ⟨_, ha⟩, fun D1 hD1 => ?_⟩
    refine lc_fun (walk_list (xs := l.map V.int)) (fun t => V.bl (decide (l.getD t 0 < 0) || decide ((k : Int) ≤ l.getD t 0))) hD1 (by rw [List.length_map]; omega) (fun H' sm => sm.seq ha) ?_ ?_
    · rintro t x H' H2 G ht sm hne ⟨rfl, hx⟩ hg
      rw [List.getElem?_map] at hx
      cases e : l[t]? with
      | none => rw [e] at hx; cases hx
      | some m =>
        rw [e] at hx
        cases Option.some.inj hx
        have := hg H2 (Same.refl _)
        rw [getD_of e] at this
        refine ⟨rfl, ?_⟩
        refine ⟨_, rfl, _, _, rfl, rfl, _, rfl, ?_⟩
        refine ite2 (fun c => ?_) (fun c => ?_)
        · rw [c, Bool.true_or] at this
          exact this
        · rw [eq_false_of_ne_true c, Bool.false_or] at this
          exact ⟨_, rfl, _, rfl, _, _, rfl, rfl, this⟩
    · intro H2 sm2 hD2
      rw [List.length_map, bl_map] at hD2
      refine ⟨D1, _, rfl, SqL.of hD2, _, rfl, ?_⟩
      rw [any_range l 0 (fun m => decide (m < 0) || decide ((k : Int) ≤ m))]
      unfold measM at q
      refine ite2 (fun z => ?_) (fun z => ?_)
      · rw [z] at q
        exact q H2 sm2
      · rw [eq_false_of_ne_true z] at q
        refine ⟨_, rfl, a, _, rfl, .inl (sm2.seq ha), _, _, rfl, rfl, _, rfl, ?_⟩
        rw [List.length_map]
        have e0 : decide ((0 : Int) < (l.length : Int)) = decide (0 < l.length) := decide_eq_decide.mpr (by omega)
        rw [e0]
        refine ite2 (fun c => ?_) (fun c => ?_)
        · rw [c] at q
          refine ⟨_, rfl, a, l, rfl, sm2.seq ha, by omega, _, rfl, a, _, rfl, .inl (sm2.seq ha), rfl, ?_⟩
          have e1 : decide (V.int (metLen l : Nat) = V.int ((l.map V.int).length : Nat)) = decide l.Nodup := by
            apply decide_eq_decide.mpr
            rw [← metLen_nodup, List.length_map]
            constructor
            · intro z
              have := V.int.inj z
              omega
            · intro z
              rw [z]
          rw [e1]
          exact q H2 sm2
        · rw [eq_false_of_ne_true c] at q
          exact q H2 sm2

/-! ### sub -/
/-- the measures told, as numbers -/
def natsOf (l : List Int) : List Nat := l.map Int.toNat
theorem natsOf_nI {l : List Int} {k : Nat} (h : measM l k = true) : nI (natsOf l) = l ∧ (∀ m ∈ natsOf l, m < k) ∧ l.length ≤ k := by
  unfold measM at h
  obtain ⟨h1, h2⟩ := Bool.and_eq_true_iff.mp h
  obtain ⟨h3, h4⟩ := Bool.and_eq_true_iff.mp h2
  have hall : ∀ m ∈ l, 0 ≤ m ∧ m < k := fun m hm => by
    have : ¬ (l.any fun m => decide (m < 0) || decide ((k : Int) ≤ m)) = true := by simpa using h1
    constructor
    · apply Classical.byContradiction
      intro c
      exact this (List.any_eq_true.mpr ⟨m, hm, by simp; omega⟩)
    · apply Classical.byContradiction
      intro c
      exact this (List.any_eq_true.mpr ⟨m, hm, by simp; omega⟩)
  have e1 : nI (natsOf l) = l := by
    unfold nI natsOf
    rw [List.map_map]
    conv => rhs; rw [← List.map_id l]
    refine List.map_congr_left fun m hm => ?_
    have := hall m hm
    show ((m.toNat : Nat) : Int) = m
    omega
  refine ⟨e1, fun m hm => ?_, ?_⟩
  · obtain ⟨z, hz, rfl⟩ := List.mem_map.mp hm
    have := hall z hz
    omega
  · have nd : l.Nodup := of_decide_eq_true h4
    have ndn : (natsOf l).Nodup := by
      rw [← e1] at nd
      unfold nI at nd
      exact (List.pairwise_map.mp nd).imp fun h z => h (by rw [z])
    have hsub : natsOf l ⊆ List.range k := fun m hm => by
      obtain ⟨z, hz, rfl⟩ := List.mem_map.mp hm
      have := hall z hz
      exact List.mem_range.mpr (by omega)
    have := nodup_len ndn hsub
    rw [List.length_range] at this
    unfold natsOf at this
    rw [List.length_map] at this
    exact this
def subM (s : Sheet) (l : List Int) : List Int := if measM l s.ms.length = true then
  ((((everyone s).filter fun i => freeM (Vaskya.rows s) i (everyone s) (natsOf l)).length : Nat) : Int) :: nI ((everyone s).filter fun i => freeM (Vaskya.rows s) i (everyone s) (natsOf l)) else [-3]
def spSub (K : PySem.W.Frag) (CH : Addr) : Sp := fun vs H Q _ => ∃ (x : HA) (s : Sheet) (m : Addr) (l : List Int), vs = [.ref x.a, .ref m] ∧ HeldAt CH H x s ∧ SheetOk s ∧ SqL K H m (l.map V.int) ∧ l.length ≤ 2000 ∧
  ∀ H' p, Same H H' → H p = none → H' p = some (.lst ((subM s l).map V.int)) → Q (.ref p) H'
theorem scSub : FnScope ["held", "measures"] ["held", "measures"] (defScope sSub) := ⟨rfl, rfl, rfl, by decide +kernel, rfl, by decide +kernel, by decide +kernel⟩
theorem ok_sub {CH : Addr} (D : DefT K mg "sub" sSub ["held", "measures"]) (cH : Cls K CH) (NH : HeldT K CH) (MI : MethT K CH "every_item" "HeldList.every_item" sEveryI ["self"]) (FA : DefT K mg "are_measures" sAreMeasures ["told", "count"])
    (FC : DefT K mg "counted" sCounted ["numbers"]) (FN : DefT K mg "unbeaten" sUnbeaten ["gains", "among", "chosen"]) (FU : DefT K mg "is_unbeaten" sIsUnbeaten ["gains", "item", "among", "chosen"]) (FB : DefT K mg "beats" sBeats ["gains", "one", "other", "chosen"])
    (gl : mg "len" = none) (gs : mg "set" = none) (ga : mg "any" = none) (gr : mg "range" = none) (gi : mg "list" = none) (gN : GI mg "NO_MEASURES" (-3)) : FnOk P w K mg base CX0 4 D.f D.fd ["held", "measures"] (spSub K CH) := by
  refine D.F.ok scSub (fun vs H Q E h => ?_) (fun cdv A_ outer s H vs Q E hr h => ?_)
  · obtain ⟨x, s, m, l, rfl, _⟩ := h
    rfl
  · obtain ⟨x, sh, m, l, rfl, hH, ok, hm0, hz, q⟩ := h
    have hr1 : Room 1 _ := hr.mono (by decide)
    refine ⟨_, pss_cons (ps_if (pt_not (pt_val (pe_def FA (ok_are FA gl gs ga) hr1 (pa_cons (pv 1) (pa_cons (pe_callB call_len_seq (by rfl) gl PySem.boot_len (pa_cons (pe_fld (pv 0) rfl) pa_nil)) pa_nil)))))
        (pss_one (ps_ret (pe_lst (pa_cons (pe_gi gN) pa_nil)))) pss_nil)
      (pss_one (ps_ret (pe_def FC (ok_counted FC gl) hr1 (pa_cons (pe_def FN (ok_unbeaten FN FU FB ga) hr (pa_cons (pe_fld (pv 0) rfl) (pa_cons (pe_meth0 (pv 0) cH MI.m (ok_everyI MI cH NH gl gr gi) hr1 MI.b .nil pass0) (pa_cons (pv 1) pa_nil)))) pa_nil)))), ?_⟩
    obtain ⟨⟨dx, h1⟩, _⟩ := id hH
    obtain ⟨vn, hn, ln⟩ := hH.names
    obtain ⟨vm, hm, lm⟩ := hH.meas
    have h16 := ok.i16
    refine ⟨_, rfl, _, rfl, x.a, CH, dx, _, _, rfl, h1, cH, NH.nM, hF_ms x, x.ms, vm, rfl, .inl (SqL.of hm), m, l, sh.ms.length, by rw [lm]; rfl, hm0, hz, fun H1 s1 => ⟨_, rfl, ?_⟩⟩
    cases hc : measM l sh.ms.length with
    | false =>
      refine iteT ⟨(by show 1 ≤ sizeLine; decide), fun p hp => ?_⟩
      refine q _ p (s1.trans (same_upd hp)) (s1.free hp) ?_
      rw [upd_same]
      unfold subM
      rw [if_neg (by rw [hc]; exact Bool.false_ne_true)]
      rfl
    | true =>
      refine iteF ?_
      obtain ⟨hnI, hlt, hlen⟩ := natsOf_nI hc
      refine ⟨_, rfl, x.a, CH, dx, _, _, rfl, s1 _ _ h1, cH, NH.nG, hF_gs x, _, rfl, x.a, dx, _, rfl, s1 _ _ h1, hF_everyI x, ?_⟩
      dsimp only [tNil]
      refine ⟨x, sh, rfl, hH.same s1, ok, fun e he => ?_⟩
      have s2 := same_upd (o := .lst (nv (List.range sh.items.length))) he
      have s12 := s1.trans s2
      refine ⟨_, rfl, x.gs, e, m, Vaskya.rows sh, sh.ms.length, everyone sh, natsOf l, rfl, (hH.gains).same s12, rows_wide ok, SqL.of upd_same,
        (fun j hj => by rw [rows_len]; exact List.mem_range.mp hj), by unfold everyone; rw [List.length_range]; omega, by have z := s12.seq hm0; rw [← hnI] at z; rw [nv_nI (natsOf l)]; exact z, hlt, ?_, fun H3 p s3 hp hp3 => ?_⟩
      · have := ok.m4
        unfold natsOf
        rw [List.length_map]
        omega
      · have hfl : ((everyone sh).filter fun i => freeM (Vaskya.rows sh) i (everyone sh) (natsOf l)).length ≤ 16 := by
          have a1 : ((everyone sh).filter fun i => freeM (Vaskya.rows sh) i (everyone sh) (natsOf l)).length ≤ (everyone sh).length := (List.filter_sublist).length_le
          have a2 : (everyone sh).length = sh.items.length := List.length_range
          omega
        have hsub : subM sh l = ((((everyone sh).filter fun i => freeM (Vaskya.rows sh) i (everyone sh) (natsOf l)).length : Nat) : Int) :: nI ((everyone sh).filter fun i => freeM (Vaskya.rows sh) i (everyone sh) (natsOf l)) := if_pos hc
        rw [hsub] at q
        revert hp3 hfl q
        generalize ((everyone sh).filter fun i => freeM (Vaskya.rows sh) i (everyone sh) (natsOf l)) = u
        intro q hp3 hfl
        have hul : (nI u).length = u.length := List.length_map ..
        refine ⟨p, nI u, rfl, by rw [← nv_nI]; exact hp3, by omega, fun H4 p4 s4 hp4 e4 => ?_⟩
        refine q H4 p4 (s12.trans (s3.trans s4)) (s12.free (s3.free hp4)) ?_
        rw [hul] at e4
        exact e4

/-! ### least -/
def flatSets (S : List (List Nat)) : List Int := S.flatMap fun c => ((c.length : Nat) : Int) :: nI c
def leastAns (s : Sheet) (i : Int) : List Int := if 0 ≤ i ∧ i < s.items.length then
  (((leastM (winM s i.toNat)).length : Nat) : Int) :: (flatSets (leastM (winM s i.toNat)) ++ [(((winM s i.toNat).length : Nat) : Int)]) else [-2]
def spLeastDef (CH : Addr) : Sp := fun vs H Q _ => ∃ (x : HA) (s : Sheet) (i : Int), vs = [.ref x.a, .int i] ∧ HeldAt CH H x s ∧ SheetOk s ∧ ∀ H' p, Same H H' → H p = none → H' p = some (.lst ((leastAns s i).map V.int)) → Q (.ref p) H'
theorem scLeastDef : FnScope ["held", "item", "winning", "smallest", "told", "chosen"] ["held", "item"] (defScope sLeastDef) := ⟨rfl, rfl, rfl, by decide +kernel, rfl, by decide +kernel, by decide +kernel⟩
theorem flat_len : ∀ S : List (List Nat), (∀ c ∈ S, c.length ≤ 100) → (flatSets S).length ≤ S.length * 101
  | [], _ => by simp [flatSets]
  | c :: S, h => by
    have e : flatSets (c :: S) = (((c.length : Nat) : Int) :: nI c) ++ flatSets S := rfl
    have h1 := flat_len S fun d hd => h d (List.mem_cons_of_mem _ hd)
    have h2 := h c List.mem_cons_self
    have h3 : (nI c).length = c.length := List.length_map ..
    rw [e, List.length_append, List.length_cons, List.length_cons, Nat.succ_mul]
    omega
theorem flat_snoc {S : List (List Nat)} {i : Nat} {c : List Nat} (h : S[i]? = some c) : flatSets (S.take (i + 1)) = flatSets (S.take i) ++ (((c.length : Nat) : Int) :: nI c) := by
  rw [List.take_add_one, h]
  unfold flatSets
  rw [List.flatMap_append]
  simp
theorem sub4 {s : Sheet} (ok : SheetOk s) : ∀ c ∈ Vaskyb.subsets s.ms.length, c.length ≤ 100 := by
  have key : ∀ k ∈ [1, 2, 3, 4], ∀ c ∈ Vaskyb.subsets k, c.length ≤ 100 := by decide +kernel
  exact key _ (in14 ok.m0 ok.m4)
theorem win_len {s : Sheet} (ok : SheetOk s) (i : Nat) : (winM s i).length ≤ 15 := Nat.le_trans (List.filter_sublist).length_le (sub_len ok)
theorem win_mem {s : Sheet} {i : Nat} : ∀ c ∈ winM s i, c ∈ Vaskyb.subsets s.ms.length := fun c h => (List.mem_filter.mp h).1
theorem leastM_len (S : List (List Nat)) : (leastM S).length ≤ S.length := (List.filter_sublist).length_le
theorem leastM_mem {S : List (List Nat)} : ∀ c ∈ leastM S, c ∈ S := fun c h => (List.mem_filter.mp h).1
theorem ok_leastDef {CH : Addr} (D : DefT K mg "least" sLeastDef ["held", "item"]) (cH : Cls K CH) (NH : HeldT K CH) (FW : DefT K mg "winning_sets" sWinning ["held", "item"]) (GW : FnOk P w K mg base CX0 4 FW.f FW.fd ["held", "item"] (spWinning CH))
    (FL : DefT K mg "least_sets" sLeast ["sets"]) (GL : FnOk P w K mg base CX0 3 FL.f FL.fd ["sets"] (spLeast K)) (FC : DefT K mg "counted" sCounted ["numbers"]) (gl : mg "len" = none) (gN : GI mg "NO_ITEM" (-2)) :
    FnOk P w K mg base CX0 5 D.f D.fd ["held", "item"] (spLeastDef CH) := by
  refine D.F.ok scLeastDef (fun vs H Q E h => ?_) (fun cdv A_ outer s H vs Q E hr h => ?_)
  · obtain ⟨x, s, i, rfl, _⟩ := h
    rfl
  · obtain ⟨x, sh, i, rfl, hH, ok, q⟩ := h
    have hr1 : Room 1 _ := hr.mono (by decide)
    have hr2 : Room 3 _ := hr.mono (by decide)
    refine ⟨_, pss_cons (ps_if (PW.pt (pw_or (pt_cmpR op_lt (pv 1) pe_int (nomark _)) (pw_or1 (pt_cmpR op_ge (pv 1) (pe_callB call_len_seq (by rfl) gl PySem.boot_len (pa_cons (pe_fld (pv 0) rfl) pa_nil)) (nomark _)))))
        (pss_one (ps_ret (pe_lst (pa_cons (pe_gi gN) pa_nil)))) pss_nil)
      (pss_cons (ps_set (i := 2) scLeastDef.nd rfl (Or.inl rfl) (pe_def FW GW hr (pa_cons (pv 0) (pa_cons (pv 1) pa_nil))))
      (pss_cons (ps_set (i := 3) scLeastDef.nd rfl (Or.inl rfl) (pe_def FL GL hr2 (pa_cons (pv 2) pa_nil)))
      (pss_cons (ps_set (i := 4) scLeastDef.nd rfl (Or.inl rfl) (pe_lst (pa_cons (pe_callB call_len_seq (by rfl) gl PySem.boot_len (pa_cons (pv 3) pa_nil)) pa_nil)))
      (pss_cons (ps_for PassesOwn.never rfl (pi_list (pv 3)) (pg_name (i := 5) scLeastDef.nd rfl (Or.inl rfl))
        (pss_one (ps_expr (pe_bm PySem.F.plainAttrs_list PySem.F.slot_list_extend PySem.F.type_list_extend mt_extend (pv 4) (pa_cons (pe_def FC (ok_counted FC gl) hr1 (pa_cons (pv 5) pa_nil)) pa_nil)))))
      (pss_one (ps_ret (pe_op op_cat (pv 4) (pe_lst (pa_cons (pe_callB call_len_seq (by rfl) gl PySem.boot_len (pa_cons (pv 2) pa_nil)) pa_nil)))))))))  , ?_⟩
    obtain ⟨⟨dx, h1⟩, _⟩ := id hH
    obtain ⟨vn, hn, ln⟩ := hH.names
    have h16 := ok.i16
    refine if_v (decide (i < 0) || decide ((sh.items.length : Int) ≤ i)) (fun G g => ?_) (fun c => ?_) (fun c => ?_)
    · refine ⟨_, rfl, _, _, rfl, rfl, _, rfl, ?_⟩
      refine ite2 (fun c => ?_) (fun c => ?_)
      · rw [c, Bool.true_or] at g
        exact g
      · rw [eq_false_of_ne_true c, Bool.false_or] at g
        refine ⟨_, rfl, _, rfl, x.a, CH, dx, _, _, rfl, h1, cH, NH.nN, hF_ns x, x.ns, vn, rfl, .inl (SqL.of hn), _, _, rfl, rfl, _, rfl, ?_⟩
        rw [ln]
        exact g
    · refine ⟨(by show 1 ≤ sizeLine; decide), fun p hp => ?_⟩
      refine q _ p (same_upd hp) hp ?_
      rw [upd_same]
      unfold leastAns
      have hc : ¬ (0 ≤ i ∧ i < sh.items.length) := fun z => by
        rcases Bool.or_eq_true_iff.mp c with c | c
        · have := of_decide_eq_true c
          omega
        · have := of_decide_eq_true c
          omega
      rw [if_neg hc]
      rfl
    · have hc := Bool.or_eq_false_iff.mp c
      have c1 := of_decide_eq_false hc.1
      have c2 := of_decide_eq_false hc.2
      have hin : 0 ≤ i ∧ i < sh.items.length := by omega
      have hans : leastAns sh i = (((leastM (winM sh i.toNat)).length : Nat) : Int) :: (flatSets (leastM (winM sh i.toNat)) ++ [(((winM sh i.toNat).length : Nat) : Int)]) := if_pos hin
      rw [hans] at q
      have wl := win_len ok i.toNat
      have wm := fun c hc => sub4 ok c (win_mem (s := sh) (i := i.toNat) c hc)
      refine ⟨_, rfl, _, rfl, x, sh, i.toNat, by rw [Int.toNat_of_nonneg hin.1]; rfl, hH, ok, by omega, fun H1 p1 s1 hp1 hrow => ?_⟩
      obtain ⟨ws, hpw, hR, hN⟩ := hrow
      revert q wl wm hR
      generalize winM sh i.toNat = Wn
      intro q wl wm hR
      have lw := hR.len
      rw [List.length_map] at lw
      refine ⟨_, rfl, p1, ws, Wn, rfl, hpw, hR, by omega, fun c hc => Nat.le_trans (wm c hc) (by decide), fun H2 p2 zs s2 hp2 hz2 hR2 hsub => ?_⟩
      have ll := leastM_len Wn
      have lm := fun c hc => wm c (leastM_mem (S := Wn) c hc)
      revert q hR2 ll lm
      generalize leastM Wn = Ls
      intro q hR2 ll lm
      have lz := hR2.len
      rw [List.length_map] at lz
      have s12 := s1.trans s2
      refine ⟨_, rfl, p2, zs, rfl, .inl (SqL.of hz2), (by show 1 ≤ sizeLine; decide), fun t ht => ?_⟩
      have s3 := same_upd (o := .lst [V.int zs.length]) ht
      have htH : H t = none := s12.free ht
      refine ⟨_, rfl, p2, rfl, ⟨_, SqL.of (s3 _ _ hz2)⟩, for_list (K := K) (a := p2) (xs := zs) (fun j σ H' => ∃ v : Option V, σ = [some (.ref x.a), some (.int i), some (.ref p1), some (.ref p2), some (.ref t), v] ∧ Same (upd H2 p2 (.lst zs)) H' ∧ H' t = some (.lst (((((Ls.length : Nat) : Int)) :: flatSets (Ls.take j)).map V.int)))
        ⟨none, rfl, fun b o e => ?_, by rw [upd_same, lz]; rfl⟩ (fun j σ H' _ ⟨_, _, z, _⟩ => SqL.of (z _ _ upd_same)) ?_ ?_⟩
      · by_cases hb : b = p2
        · rw [hb, upd_same] at e
          cases e
          rw [hb]
          exact s3 _ _ hz2
        · rw [upd_ne hb] at e
          exact s3 _ _ e
      · rintro j y σ H3 hj ⟨v, rfl, s4, ht3⟩
        have hjl : j < Ls.length := by
          have := (List.getElem?_eq_some_iff.mp hj).1
          omega
        obtain ⟨b, hb1, hb2⟩ := hR2.get (i := j) (l := nI Ls[j]) (by rw [List.getElem?_map, List.getElem?_eq_getElem hjl]; rfl)
        rw [hj] at hb1
        cases Option.some.inj hb1
        have hcj := List.getElem?_eq_getElem hjl
        have hcl := lm _ (List.getElem_mem hjl)
        have s42 : Same H2 H3 := fun c o e => s4 c o (by
          by_cases hb : c = p2
          · rw [hb, hz2] at e
            cases e
            rw [hb, upd_same]
          · rw [upd_ne hb]
            exact e)
        have fl := flat_len (Ls.take j) fun c hc => lm c (List.mem_of_mem_take hc)
        have ftl : (Ls.take j).length ≤ 15 := by rw [List.length_take]; omega
        have hnl : (nI Ls[j]).length = Ls[j].length := List.length_map ..
        refine ⟨_, rfl, .inl ⟨rfl, _, SqL.of ht3⟩, _, rfl, b, nI Ls[j], rfl, s42 _ _ hb2, by omega, fun H4 p4 s5 hp4 e4 => ?_⟩
        have ht4 := s5 _ _ ht3
        refine ⟨t, p4, _, _, rfl, rfl, ht4, e4, line10 (by simp only [List.length_map, List.length_cons]; omega), ?_⟩
        refine ⟨_, rfl, fun c o e => ?_, ?_⟩
        · have hct : c ≠ t := fun z => by
            by_cases hb : c = p2
            · rw [← z, hb, hz2] at ht
              cases ht
            · rw [upd_ne hb, z, ht] at e
              cases e
          rw [upd_ne hct]
          exact s5 _ _ (s4 c o e)
        · rw [upd_same, flat_snoc hcj, hnl]
          simp only [List.map_cons, List.map_append, List.cons_append]
      · rintro σ H3 ⟨v, rfl, s4, ht3⟩
        rw [lz, List.take_length] at ht3
        have s42 : Same H2 H3 := fun c o e => s4 c o (by
          by_cases hb : c = p2
          · rw [hb, hz2] at e
            cases e
            rw [hb, upd_same]
          · rw [upd_ne hb]
            exact e)
        have fl := flat_len Ls lm
        refine ⟨_, rfl, _, rfl, p1, ws, rfl, .inl (SqL.of (s42 _ _ (s2 _ _ hpw))), (by show 1 ≤ sizeLine; decide), fun p5 hp5 => ?_⟩
        have s5 := same_upd (o := .lst [V.int ws.length]) hp5
        refine ⟨t, p5, _, _, rfl, rfl, s5 _ _ ht3, upd_same, line10 (by simp only [List.length_map, List.length_cons, List.length_nil]; omega), fun p6 hp6 => ?_⟩
        refine q _ p6 ((s12.trans s42).trans (s5.trans (same_upd hp6))) ((s12.trans s42).free (s5.free hp6)) ?_
        rw [upd_same, lw]
        simp only [List.map_cons, List.map_append, List.cons_append, List.map_nil]
end
end Fm

/-! cube. -/
namespace Fm
open PySem PySem.Spec PyProof.Rows L2
open Vaskya (Measure Item Sheet)
/-- lists of lists of whole numbers, none of them the list at D -/
inductive DL (D : Addr) (H : Hp) : List V → List (List (List Int)) → Prop
  | nil : DL D H [] []
  | cons {p : Addr} {ws : List V} {S : List (List Int)} {vs : List V} {SS : List (List (List Int))} : p ≠ D → H p = some (.lst ws) → RL H ws S → V.ref D ∉ ws → DL D H vs SS → DL D H (.ref p :: vs) (S :: SS)
theorem DL.keep {D : Addr} {H H' : Hp} {vs : List V} {SS : List (List (List Int))} (h : DL D H vs SS) (k : ∀ b o, b ≠ D → H b = some o → H' b = some o) : DL D H' vs SS := by
  induction h with
  | nil => exact .nil
  | cons h1 h2 h3 h4 _ ih => exact .cons h1 (k _ _ h1 h2) (h3.keep fun b o hb e => k b o (fun z => h4 (by rw [← z]; exact hb)) e) h4 ih
theorem DL.snoc {D : Addr} {H : Hp} {vs : List V} {SS : List (List (List Int))} (h : DL D H vs SS) {p : Addr} {ws : List V} {S : List (List Int)} (h1 : p ≠ D) (h2 : H p = some (.lst ws)) (h3 : RL H ws S) (h4 : V.ref D ∉ ws) : DL D H (vs ++ [.ref p]) (SS ++ [S]) := by
  induction h with
  | nil => exact .cons h1 h2 h3 h4 .nil
  | cons a b c d _ ih => exact .cons a b c d ih
theorem DL.len {D : Addr} {H : Hp} {vs : List V} {SS : List (List (List Int))} (h : DL D H vs SS) : vs.length = SS.length := by
  induction h with
  | nil => rfl
  | cons _ _ _ _ _ ih => rw [List.length_cons, List.length_cons, ih]
theorem DL.get {D : Addr} {H : Hp} {vs : List V} {SS : List (List (List Int))} (h : DL D H vs SS) : ∀ {i : Nat} {S : List (List Int)}, SS[i]? = some S → ∃ p ws, vs[i]? = some (.ref p) ∧ H p = some (.lst ws) ∧ RL H ws S := by
  induction h with
  | nil => intro i S e; simp at e
  | @cons p ws S vs SS h1 h2 h3 h4 _ ih =>
    intro i S' e
    cases i with
    | zero =>
      cases Option.some.inj e
      exact ⟨p, ws, rfl, h2, h3⟩
    | succ i => exact ih (i := i) e
theorem rl_some {H : Hp} {ws : List V} {S : List (List Int)} (h : RL H ws S) {a : Addr} (ha : V.ref a ∈ ws) : H a ≠ none := by
  induction h with
  | nil => exact nomatch ha
  | cons e _ ih =>
    rcases List.mem_cons.mp ha with z | z
    · cases z
      rw [e]
      exact fun z => nomatch z
    · exact ih z
/-- a comprehension of n lists of lists -/
theorem lc_deep {J : It} {n : Nat} {Gd : Hp → Prop} {Y : Nat → Hp → V → Hp → Prop} (w : Walk J n Gd Y) (f : Nat → List (List Int)) {g : TG} {te : TE} {vs : List Nat} {σ : L2.St} {H1 : Hp} {D : Addr} {Qd : Hp → Prop}
    (hD : H1 D = none) (hn : n ≤ 100000) (hG : ∀ H', Same H1 H' → Gd H')
    (he : ∀ i x H' H2 (G : VK), i < n → Same H1 H' → H' D ≠ none → Y i H' x H2 → (∀ H4 p zs, Same H' H4 → H' p = none → H4 p = some (.lst zs) → RL H4 zs (f i) → V.ref D ∉ zs → G (.ref p) H4) → g x (wipe σ vs) H2 fun σ2 H2 => wipe σ2 vs = wipe σ vs ∧ te σ2 H2 G)
    (hd : ∀ H' ws, Same H1 H' → H' D = some (.lst ws) → DL D H' ws ((List.range n).map f) → Qd H') :
    ∃ W : Nat → Nat → Hp → Prop, (∃ m, W 0 m (upd H1 D (.lst []))) ∧ ∀ i m H, W i m H →
      (J.stop i H ∧ Qd H) ∨ (J.go i H ∧ ∃ Nx : Hp → Prop, (∀ H', Nx H' → ∃ m', m' < m ∧ W (i + 1) m' H') ∧ ∀ x H', J.yld i H x H' → g x (wipe σ vs) H' fun σ2 H2 => wipe σ2 vs = wipe σ vs ∧ tYes σ2 H2 fun b H3 =>
        if b = true then te σ2 H3 fun y H4 => ∃ acc, H4 D = some (.lst acc) ∧ acc.length < sizeLine ∧ Nx (upd H4 D (.lst (acc ++ [y]))) else Nx H3) := by
  refine lc_it w (fun i H' => Same H1 H' ∧ ∃ ws, H' D = some (.lst ws) ∧ DL D H' ws ((List.range i).map f)) ⟨same_upd hD, [], upd_same, .nil⟩ (fun i H' _ h => hG H' h.1) ?_ ?_
  · rintro i x H' H2 hi ⟨sm, ws, hD2, hR⟩ hy
    have hlen : ws.length < sizeLine := by
      have := hR.len
      rw [List.length_map, List.length_range] at this
      exact small_line (by omega)
    obtain ⟨h1, h2⟩ : _ ∧ True := ⟨he i x H' H2 (fun y H4 => ∃ acc, H4 D = some (.lst acc) ∧ acc.length < sizeLine ∧ (Same H1 (upd H4 D (.lst (acc ++ [y]))) ∧ ∃ ws, upd H4 D (.lst (acc ++ [y])) D = some (.lst ws) ∧ DL D (upd H4 D (.lst (acc ++ [y]))) ws ((List.range (i + 1)).map f))) hi sm (by rw [hD2]; exact fun z => nomatch z) hy
      (fun H4 p zs s4 hp hp4 hR4 hn4 => ⟨ws, s4 _ _ hD2, hlen, fun b o e => by rw [upd_ne (ne_of_none e hD)]; exact s4 _ _ (sm b o e), ws ++ [V.ref p], upd_same, by
        have nDp : p ≠ D := fun z => by rw [z, hD2] at hp; cases hp
        have k : ∀ b o, b ≠ D → H4 b = some o → upd H4 D (.lst (ws ++ [V.ref p])) b = some o := fun b o ne e => by rw [upd_ne ne]; exact e
        rw [List.range_succ, List.map_append]
        exact (hR.keep fun b o ne e => k b o ne (s4 b o e)).snoc nDp (k _ _ nDp hp4) (hR4.keep fun b o hb e => k b o (fun z => hn4 (by rw [← z]; exact hb)) e) hn4⟩), trivial⟩
    exact h1
  · rintro H' ⟨sm, ws, hD2, hR⟩
    exact hd H' ws sm hD2 hR

theorem any_dS (c : List Nat) : ∀ S : List (List Nat), ((S.map nI).map dI).any (fun z => PyData.eqv z (dI (nI c))) = S.contains c
  | [] => rfl
  | d :: S => by
    have ih := any_dS c S
    rw [List.map_cons, List.map_cons, List.any_cons, ih, List.contains_cons, dI_eqv]
    congr 1
    have e : nI d = nI c ↔ c = d := by
      constructor
      · intro z
        have : (nI d).map Int.toNat = (nI c).map Int.toNat := by rw [z]
        unfold nI at this
        rw [List.map_map, List.map_map] at this
        have f : (Int.toNat ∘ fun n : Nat => (n : Int)) = id := rfl
        rw [f, List.map_id, List.map_id] at this
        exact this.symm
      · intro z
        rw [z]
    rw [Bool.eq_iff_iff, decide_eq_true_iff, beq_iff_eq, e]

def stM (s : Sheet) (i : Nat) : List (List Nat) := leastM (winM s i)
def idsM (s : Sheet) (c : List Nat) : List Nat := (everyone s).filter fun i => (stM s i).contains c
def cubeRow (s : Sheet) (c : List Nat) : List Int := (((c.length : Nat) : Int) :: nI c) ++ ((((idsM s c).length : Nat) : Int) :: nI (idsM s c))
def cubeM (s : Sheet) : List Int := [(((Vaskyb.subsets s.ms.length).length : Nat) : Int), ((everyone s).map fun i => (((winM s i).length : Nat) : Int)).sum, ((everyone s).map fun i => (((stM s i).length : Nat) : Int)).sum] ++ (Vaskyb.subsets s.ms.length).flatMap (cubeRow s)
theorem ids_len {s : Sheet} (ok : SheetOk s) (c : List Nat) : (idsM s c).length ≤ 16 := by
  have h16 := ok.i16
  have a1 : (idsM s c).length ≤ (everyone s).length := (List.filter_sublist).length_le
  have a2 : (everyone s).length = s.items.length := List.length_range
  omega
theorem row_len {s : Sheet} (ok : SheetOk s) {c : List Nat} (hc : c.length ≤ 100) : (cubeRow s c).length ≤ 118 := by
  have h := ids_len ok c
  have h3 : (nI c).length = c.length := List.length_map ..
  have h4 : (nI (idsM s c)).length = (idsM s c).length := List.length_map ..
  unfold cubeRow
  rw [List.length_append, List.length_cons, List.length_cons]
  omega
theorem rows_le {s : Sheet} (ok : SheetOk s) : ∀ S : List (List Nat), (∀ c ∈ S, c.length ≤ 100) → (S.flatMap (cubeRow s)).length ≤ S.length * 118
  | [], _ => by simp
  | c :: S, h => by
    have h1 := rows_le ok S fun d hd => h d (List.mem_cons_of_mem _ hd)
    have h2 := row_len ok (h c List.mem_cons_self)
    rw [List.flatMap_cons, List.length_append, List.length_cons, Nat.succ_mul]
    omega
theorem flat_take {α : Type} {S : List α} {i : Nat} {c : α} (f : α → List Int) (h : S[i]? = some c) : (S.take (i + 1)).flatMap f = (S.take i).flatMap f ++ f c := by
  rw [List.take_add_one, h, List.flatMap_append]
  simp
abbrev sCube : Stmt := top 80
def spCube (CH : Addr) : Sp := fun vs H Q _ => ∃ (x : HA) (s : Sheet), vs = [.ref x.a] ∧ HeldAt CH H x s ∧ SheetOk s ∧ ∀ H' p, Same H H' → H p = none → H' p = some (.lst ((cubeM s).map V.int)) → Q (.ref p) H'
section
variable {P : Program} {w : World} {K : PySem.W.Frag} {mg : Str → Option Value} {base : Heap}
theorem scCube : FnScope ["held", "sets", "winning", "stored", "told", "chosen", "item", "won", "kept"] ["held"] (defScope sCube) := ⟨rfl, rfl, rfl, by decide +kernel, rfl, by decide +kernel, by decide +kernel⟩
theorem ok_cube {CH : Addr} (D : DefT K mg "cube" sCube ["held"]) (cH : Cls K CH) (NH : HeldT K CH) (MI : MethT K CH "every_item" "HeldList.every_item" sEveryI ["self"]) (FS : DefT K mg "sets_of" sSetsOf ["count"]) (GS : FnOk P w K mg base CX0 3 FS.f FS.fd ["count"] spSetsOf) (FW : DefT K mg "winning_sets" sWinning ["held", "item"]) (GW : FnOk P w K mg base CX0 4 FW.f FW.fd ["held", "item"] (spWinning CH))
    (FL : DefT K mg "least_sets" sLeast ["sets"]) (GL : FnOk P w K mg base CX0 3 FL.f FL.fd ["sets"] (spLeast K)) (FC : DefT K mg "counted" sCounted ["numbers"]) (gl : mg "len" = none) (gr : mg "range" = none) (gi : mg "list" = none) (gs : mg "sum" = none) (ge : mg "enumerate" = none) :
    FnOk P w K mg base CX0 5 D.f D.fd ["held"] (spCube CH) := by
  refine D.F.ok scCube (fun vs H Q E h => ?_) (fun cdv A_ outer s H vs Q E hr h => ?_)
  · obtain ⟨x, s, rfl, _⟩ := h
    rfl
  · obtain ⟨x, sh, rfl, hH, ok, q⟩ := h
    have hr1 : Room 1 _ := hr.mono (by decide)
    have hr2 : Room 3 _ := hr.mono (by decide)
    refine ⟨_, pss_cons (ps_set (i := 1) scCube.nd rfl (Or.inl rfl) (pe_def FS GS hr2 (pa_cons (pe_callB call_len_seq (by rfl) gl PySem.boot_len (pa_cons (pe_fld (pv 0) rfl) pa_nil)) pa_nil)))
      (pss_cons (ps_setLc (i := 2) (own := [("item", 6)]) (g := gName 6) (te := tCall (spWinning CH) [] E0 (tCons (tVar 0) (tCons (tVar 6) tNil))) rfl scCube.nd rfl rfl (sw_true rfl rfl rfl (by decide +kernel)) (pi_list (pe_meth0 (pv 0) cH MI.m (ok_everyI MI cH NH gl gr gi) hr1 MI.b .nil pass0))
        (blkOk_by (own := [("item", 6)]) (N := ["held", "sets", "winning", "stored", "told", "chosen", "item", "won", "kept"]) (sc := defScope sCube) (by decide +kernel)) (fun _ _ _ _ _ => pg_name (i := 6) scCube.nd rfl (Or.inl rfl)) (fun _ _ _ _ _ => pts_nil)
        (fun _ _ _ _ _ => pe_def FW GW hr (pa_cons (pv 0) (pa_cons (pv 6) pa_nil))))
      (pss_cons (ps_setLc (i := 3) (own := [("won", 7)]) (g := gName 7) (te := tCall (spLeast K) [] E0 (tCons (tVar 7) tNil)) rfl scCube.nd rfl rfl (sw_true rfl rfl rfl (by decide +kernel)) (pi_list (pv 2))
        (blkOk_by (own := [("won", 7)]) (N := ["held", "sets", "winning", "stored", "told", "chosen", "item", "won", "kept"]) (sc := defScope sCube) (by decide +kernel)) (fun _ _ _ _ _ => pg_name (i := 7) scCube.nd rfl (Or.inl rfl)) (fun _ _ _ _ _ => pts_nil)
        (fun _ _ _ _ _ => pe_def FL GL hr2 (pa_cons (pv 7) pa_nil)))
      (pss_cons (ps_set (i := 4) scCube.nd rfl (Or.inl rfl) (pe_lst (pa_cons (pe_callB call_len_seq (by rfl) gl PySem.boot_len (pa_cons (pv 1) pa_nil))
        (pa_cons (pe_callB (cr_sum rfl) (by rfl) gs boot_sum (pa_cons (pe_lc (own := [("won", 7)]) (g := gName 7) (te := tCB (fun xs H Q => ∃ p ys, xs = [.ref p] ∧ (SqL K H p ys ∨ SqT K H p ys) ∧ Q (.int ys.length) H) (tCons (tVar 7) tNil)) rfl scCube.nd (pi_list (pv 2))
          (blkOk_by (own := [("won", 7)]) (N := ["held", "sets", "winning", "stored", "told", "chosen", "item", "won", "kept"]) (sc := defScope sCube) (by decide +kernel)) (fun _ _ _ _ _ => pg_name (i := 7) scCube.nd rfl (Or.inl rfl)) (fun _ _ _ _ _ => pts_nil)
          (fun _ _ _ _ _ => pe_callB call_len_seq (by rfl) gl PySem.boot_len (pa_cons (pv 7) pa_nil))) pa_nil))
        (pa_cons (pe_callB (cr_sum rfl) (by rfl) gs boot_sum (pa_cons (pe_lc (own := [("kept", 8)]) (g := gName 8) (te := tCB (fun xs H Q => ∃ p ys, xs = [.ref p] ∧ (SqL K H p ys ∨ SqT K H p ys) ∧ Q (.int ys.length) H) (tCons (tVar 8) tNil)) rfl scCube.nd (pi_list (pv 3))
          (blkOk_by (own := [("kept", 8)]) (N := ["held", "sets", "winning", "stored", "told", "chosen", "item", "won", "kept"]) (sc := defScope sCube) (by decide +kernel)) (fun _ _ _ _ _ => pg_name (i := 8) scCube.nd rfl (Or.inl rfl)) (fun _ _ _ _ _ => pts_nil)
          (fun _ _ _ _ _ => pe_callB call_len_seq (by rfl) gl PySem.boot_len (pa_cons (pv 8) pa_nil))) pa_nil)) pa_nil)))))
      (pss_cons (ps_for PassesOwn.never rfl (pi_list (pv 1)) (pg_name (i := 5) scCube.nd rfl (Or.inr rfl))
        (pss_cons (ps_expr (pe_bm PySem.F.plainAttrs_list PySem.F.slot_list_extend PySem.F.type_list_extend mt_extend (pv 4) (pa_cons (pe_def FC (ok_counted FC gl) hr1 (pa_cons (pv 5) pa_nil)) pa_nil)))
        (pss_one (ps_expr (pe_bm PySem.F.plainAttrs_list PySem.F.slot_list_extend PySem.F.type_list_extend mt_extend (pv 4) (pa_cons (pe_def FC (ok_counted FC gl) hr1
          (pa_cons (pe_lc (own := [("item", 6), ("kept", 8)]) (g := gTup K 2 (gCons (gName 6) (gCons (gName 8) gNil))) (wi := iEnum K (tCons (tVar 3) tNil)) (tt := tB (tOp (rInD K) (tVar 5) (tVar 8))) (te := tVar 6) rfl scCube.nd (pi_enum (by rfl) ge (pa_cons (pv 3) pa_nil))
            (blkOk_by (own := [("item", 6), ("kept", 8)]) (N := ["held", "sets", "winning", "stored", "told", "chosen", "item", "won", "kept"]) (sc := defScope sCube) (by decide +kernel))
            (fun _ _ _ _ _ => pg_tup rfl (pgs_cons (pg_name (i := 6) scCube.nd rfl (Or.inl rfl)) (pgs_cons (pg_name (i := 8) scCube.nd rfl (Or.inl rfl)) pgs_nil)))
            (fun _ _ _ _ _ => pts_one (pt_cmpR (op_inD (hu65 hr)) (pv 5) (pv 8) rfl)) (fun _ _ _ _ _ => pv 6)) pa_nil)) pa_nil))))))
      (pss_one (ps_ret (pv 4))))))), ?_⟩
    obtain ⟨⟨dx, h1⟩, _⟩ := id hH
    obtain ⟨vn, hn, ln⟩ := hH.names
    obtain ⟨vm, hm, lm⟩ := hH.meas
    have h16 := ok.i16
    have hl15 := sub_len ok
    refine ⟨_, rfl, x.a, CH, dx, _, _, rfl, h1, cH, NH.nM, hF_ms x, x.ms, vm, rfl, .inl (SqL.of hm), ?_⟩
    refine ⟨sh.ms.length, by rw [lm]; rfl, ok.m0, ok.m4, fun H1 p s1 hp hrow => ?_⟩
    obtain ⟨ws, hpw, hR, hN⟩ := hrow
    have lw := hR.len
    rw [List.length_map] at lw
    -- winning
    refine ⟨_, rfl, x.a, dx, _, rfl, s1 _ _ h1, hF_everyI x, ?_⟩
    dsimp only [tNil]
    refine ⟨x, sh, rfl, hH.same s1, ok, fun e he => ?_⟩
    refine ⟨e, rfl, ⟨_, SqL.of upd_same⟩, fun D1 hD1 => ?_⟩
    have se := same_upd (o := .lst (nv (List.range sh.items.length))) he
    replace hpw := se _ _ hpw
    replace hR := hR.same se
    replace s1 := s1.trans se
    have hE : upd H1 e (.lst (nv (List.range sh.items.length))) e = some (.lst (nv (List.range sh.items.length))) := upd_same
    clear se
    revert hpw hR s1 hE hD1
    generalize upd H1 e (.lst (nv (List.range sh.items.length))) = H1
    intro hD1 hpw hR s1 hE
    have en : (nv (List.range sh.items.length)).length = sh.items.length := by rw [nv_len, List.length_range]
    refine lc_deep (walk_list (xs := nv (List.range sh.items.length))) (fun i => (winM sh i).map nI) hD1 (by omega) (fun H' sm => sm.seq (SqL.of hE)) ?_ ?_
    · rintro t y H' H2 G ht sm hne ⟨rfl, hy⟩ hg
      refine ⟨rfl, ?_⟩
      obtain ⟨m, hm, rfl⟩ := nv_at hy
      rw [en] at ht
      rw [List.getElem?_range ht] at hm
      cases hm
      refine ⟨_, rfl, _, rfl, x, sh, t, rfl, hH.same (s1.trans sm), ok, ht, fun H3 p3 s3 hp3 hrow3 => ?_⟩
      obtain ⟨zs, g1, g2, g3⟩ := hrow3
      cases hDo : H2 D1 with
      | none => exact absurd hDo hne
      | some o => exact hg H3 p3 zs s3 hp3 g1 g2 (g3.off hDo)
    intro H2 wn s2 hD1' hW
    rw [en] at hW
    have lwn := hW.len
    rw [List.length_map, List.length_range] at lwn
    -- stored
    refine ⟨_, rfl, D1, rfl, ⟨_, SqL.of hD1'⟩, fun D2 hD2 => ?_⟩
    refine lc_deep (walk_list (xs := wn)) (fun i => (stM sh i).map nI) hD2 (by omega) (fun H' sm => sm.seq (SqL.of hD1')) ?_ ?_
    · rintro t y H' H3 G ht sm hne ⟨rfl, hy⟩ hg
      have hti : t < sh.items.length := by omega
      obtain ⟨b, zs, hb1, hb2, hb3⟩ := hW.get (i := t) (S := (winM sh t).map nI) (by rw [List.getElem?_map, List.getElem?_range hti]; rfl)
      rw [hy] at hb1
      cases Option.some.inj hb1
      have wl := win_len ok t
      have wm := fun c hc => sub4 ok c (win_mem (s := sh) (i := t) c hc)
      refine ⟨rfl, ?_⟩
      refine ⟨_, rfl, b, zs, winM sh t, rfl, sm _ _ hb2, hb3.same sm, by omega, fun c hc => Nat.le_trans (wm c hc) (by decide), fun H4 p4 us s4 hp4 hu hu2 hsub => ?_⟩
      refine hg H4 p4 us s4 hp4 hu hu2 fun z => ?_
      exact rl_some hb3 (hsub _ z) hD2
    intro H3 st s3 hD2' hS
    have lst := hS.len
    rw [List.length_map, List.length_range] at lst
    have s13 := s1.trans (s2.trans s3)
    have s23 := s2.trans s3
    have hp3 := s23 _ _ hpw
    have hD13 := s3 _ _ hD1'
    -- told
    refine ⟨_, rfl, p, _, rfl, .inl (SqL.of hp3), _, rfl, D1, rfl, ⟨_, SqL.of hD13⟩, fun D3 hD3 => ?_⟩
    refine lc_fun (walk_list (xs := wn)) (fun i => V.int ((winM sh i).length : Nat)) hD3 (by omega) (fun H' sm => sm.seq (SqL.of hD13)) ?_ ?_
    · rintro t y H' H4 G ht sm hne ⟨rfl, hy⟩ hg
      have hti : t < sh.items.length := by omega
      obtain ⟨b, zs, hb1, hb2, hb3⟩ := hW.get (i := t) (S := (winM sh t).map nI) (by rw [List.getElem?_map, List.getElem?_range hti]; rfl)
      rw [hy] at hb1
      cases Option.some.inj hb1
      have lz := hb3.len
      rw [List.length_map] at lz
      refine ⟨rfl, ?_⟩
      refine ⟨_, rfl, b, zs, rfl, .inl (SqL.of ((s3.trans sm) _ _ hb2)), ?_⟩
      rw [lz]
      exact hg H4 (Same.refl _)
    intro H4 s4 hD4
    have ew : (List.range wn.length).map (fun i => V.int ((winM sh i).length : Nat)) = (((everyone sh).map fun i => (((winM sh i).length : Nat) : Int))).map V.int := by
      rw [lwn, List.map_map]
      rfl
    rw [ew] at hD4
    have hD24 := s4 _ _ hD2'
    refine ⟨D3, _, rfl, SqL.of hD4, _, rfl, D2, rfl, ⟨_, SqL.of hD24⟩, fun D4 hD4n => ?_⟩
    refine lc_fun (walk_list (xs := st)) (fun i => V.int ((stM sh i).length : Nat)) hD4n (by omega) (fun H' sm => sm.seq (SqL.of hD24)) ?_ ?_
    · rintro t y H' H5 G ht sm hne ⟨rfl, hy⟩ hg
      have hti : t < sh.items.length := by omega
      obtain ⟨b, zs, hb1, hb2, hb3⟩ := hS.get (i := t) (S := (stM sh t).map nI) (by rw [List.getElem?_map, List.getElem?_range (by omega)]; rfl)
      rw [hy] at hb1
      cases Option.some.inj hb1
      have lz := hb3.len
      rw [List.length_map] at lz
      refine ⟨rfl, ?_⟩
      refine ⟨_, rfl, b, zs, rfl, .inl (SqL.of ((s4.trans sm) _ _ hb2)), ?_⟩
      rw [lz]
      exact hg H5 (Same.refl _)
    intro H5 s5 hD5
    have es : (List.range st.length).map (fun i => V.int ((stM sh i).length : Nat)) = (((everyone sh).map fun i => (((stM sh i).length : Nat) : Int))).map V.int := by
      rw [lst, lwn, List.map_map]
      rfl
    rw [es] at hD5
    refine ⟨D4, _, rfl, SqL.of hD5, (by show 3 ≤ sizeLine; decide), fun t ht => ?_⟩
    have s35 := s4.trans s5
    have s15 := s13.trans s35
    have htH : H t = none := s15.free ht
    have hS5 := fun {i : Nat} (hi : i < sh.items.length) => (hS.get (i := i) (S := (stM sh i).map nI) (by rw [List.getElem?_map, List.getElem?_range (by omega)]; rfl))
    have hp5 := s35 _ _ hp3
    have hD25 := s35 _ _ hD2'
    have hR5 := hR.same (s23.trans s35)
    have hsb : ∀ c ∈ Vaskyb.subsets sh.ms.length, c.length ≤ 100 := sub4 ok
    have eT : ([V.int (ws.length : Nat), V.int ((everyone sh).map fun i => (((winM sh i).length : Nat) : Int)).sum, V.int ((everyone sh).map fun i => (((stM sh i).length : Nat) : Int)).sum] : List V) = ([(((Vaskyb.subsets sh.ms.length).length : Nat) : Int), ((everyone sh).map fun i => (((winM sh i).length : Nat) : Int)).sum, ((everyone sh).map fun i => (((stM sh i).length : Nat) : Int)).sum] : List Int).map V.int := by
      rw [lw]
      rfl
    have hC : cubeM sh = [(((Vaskyb.subsets sh.ms.length).length : Nat) : Int), ((everyone sh).map fun i => (((winM sh i).length : Nat) : Int)).sum, ((everyone sh).map fun i => (((stM sh i).length : Nat) : Int)).sum] ++ (Vaskyb.subsets sh.ms.length).flatMap (cubeRow sh) := rfl
    show tSeq _ _ _ _ (upd H5 t (.lst ([V.int (ws.length : Nat), V.int ((everyone sh).map fun i => (((winM sh i).length : Nat) : Int)).sum, V.int ((everyone sh).map fun i => (((stM sh i).length : Nat) : Int)).sum] : List V)))
    rw [eT]
    rw [hC] at q
    have hA3 : ([(((Vaskyb.subsets sh.ms.length).length : Nat) : Int), ((everyone sh).map fun i => (((winM sh i).length : Nat) : Int)).sum, ((everyone sh).map fun i => (((stM sh i).length : Nat) : Int)).sum] : List Int).length = 3 := rfl
    clear eT hC
    revert hA3 q
    generalize ([(((Vaskyb.subsets sh.ms.length).length : Nat) : Int), ((everyone sh).map fun i => (((winM sh i).length : Nat) : Int)).sum, ((everyone sh).map fun i => (((stM sh i).length : Nat) : Int)).sum] : List Int) = A0
    intro q hA3
    have st0 := same_upd (o := .lst (A0.map V.int)) ht
    refine ⟨_, rfl, p, rfl, ⟨_, SqL.of (st0 _ _ hp5)⟩, for_list (K := K) (a := p) (xs := ws) (fun j σ H' => ∃ v : Option V, σ = [some (.ref x.a), some (.ref p), some (.ref D1), some (.ref D2), some (.ref t), v, none, none, none] ∧ Same H5 H' ∧ H' t = some (.lst ((A0 ++ ((Vaskyb.subsets sh.ms.length).take j).flatMap (cubeRow sh)).map V.int)))
      ⟨none, rfl, st0, by rw [upd_same, List.take_zero, List.flatMap_nil, List.append_nil]⟩ (fun j σ H' _ ⟨_, _, z, _⟩ => SqL.of (z _ _ hp5)) ?_ ?_⟩
    · rintro j y σ H6 hj ⟨v, rfl, s6, ht6⟩
      have hjl : j < (Vaskyb.subsets sh.ms.length).length := by
        have := (List.getElem?_eq_some_iff.mp hj).1
        omega
      obtain ⟨b, hb1, hb2⟩ := hR5.get (i := j) (l := nI (Vaskyb.subsets sh.ms.length)[j]) (by rw [List.getElem?_map, List.getElem?_eq_getElem hjl]; rfl)
      rw [hj] at hb1
      cases Option.some.inj hb1
      have hcj := List.getElem?_eq_getElem hjl
      have hcl := hsb _ (List.getElem_mem hjl)
      have hft := flat_take (cubeRow sh) hcj
      have hil := ids_len ok (Vaskyb.subsets sh.ms.length)[j]
      have hbt := rows_le ok ((Vaskyb.subsets sh.ms.length).take j) fun c hc => hsb c (List.mem_of_mem_take hc)
      have ftl : ((Vaskyb.subsets sh.ms.length).take j).length ≤ 15 := by rw [List.length_take]; omega
      have hcr : cubeRow sh (Vaskyb.subsets sh.ms.length)[j] = ((((Vaskyb.subsets sh.ms.length)[j].length : Nat) : Int) :: nI (Vaskyb.subsets sh.ms.length)[j]) ++ ((((idsM sh (Vaskyb.subsets sh.ms.length)[j]).length : Nat) : Int) :: nI (idsM sh (Vaskyb.subsets sh.ms.length)[j])) := rfl
      have hids : idsM sh (Vaskyb.subsets sh.ms.length)[j] = (List.range sh.items.length).filter fun i => (stM sh i).contains (Vaskyb.subsets sh.ms.length)[j] := rfl
      rw [hcr] at hft
      rw [hft]
      revert hb2 hcl hil hids
      generalize idsM sh (Vaskyb.subsets sh.ms.length)[j] = ids
      generalize (Vaskyb.subsets sh.ms.length)[j] = c
      intro hb2 hcl hil hids
      revert hbt ht6
      generalize ((Vaskyb.subsets sh.ms.length).take j).flatMap (cubeRow sh) = F0
      intro ht6 hbt
      have hnl : (nI c).length = c.length := List.length_map ..
      have hni : (nI ids).length = ids.length := List.length_map ..
      refine ⟨_, rfl, .inl ⟨rfl, _, SqL.of ht6⟩, _, rfl, b, nI c, rfl, s6 _ _ hb2, by omega, fun H7 p7 s7 hp7 e7 => ?_⟩
      have ht7 := s7 _ _ ht6
      refine ⟨t, p7, _, _, rfl, rfl, ht7, e7, line10 (by simp only [List.length_map, List.length_cons, List.length_append]; omega), ?_⟩
      have s8 : Same H5 (upd H7 t (.lst (((A0 ++ F0).map V.int) ++ ((((nI c).length : Nat) : Int) :: nI c).map V.int))) := fun z o e => by
        rw [upd_ne (ne_of_none e ht)]
        exact s7 _ _ (s6 z o e)
      revert s8
      generalize hH8 : upd H7 t (.lst (((A0 ++ F0).map V.int) ++ ((((nI c).length : Nat) : Int) :: nI c).map V.int)) = H8
      intro s8
      have ht8 : H8 t = some (.lst (((A0 ++ F0).map V.int) ++ ((((nI c).length : Nat) : Int) :: nI c).map V.int)) := by rw [← hH8, upd_same]
      refine ⟨_, rfl, .inl ⟨rfl, _, SqL.of ht8⟩, _, rfl, D2, st, rfl, SqL.of (s8 _ _ hD25), fun D6 hD6 => ?_⟩
      refine lc_keep walk_enum (fun i => (stM sh i).contains c) (fun i => V.int (i : Nat)) hD6 (by omega) (fun H' sm => sm.seq (SqL.of (s8 _ _ hD25))) ?_ ?_
      · rintro i y H' H9 G N hi sm hne ⟨T, y1, y2, rfl, hT, rfl, e1, e2⟩ hg hno
        obtain ⟨bk, zs, hk1, hk2, hk3⟩ := hS5 (i := i) (by omega)
        replace e2 : st[i]? = some y2 := e2
        rw [hk1] at e2
        cases Option.some.inj e2
        cases Option.some.inj e1
        have sT := same_upd (o := .tup [V.int (i : Nat), V.ref bk]) hT
        have s9 := s35.trans (s8.trans (sm.trans sT))
        refine ⟨T, _, rfl, SqT.of upd_same, rfl, _, _, rfl, _, _, rfl, rfl, rfl, ?_⟩
        refine ⟨_, rfl, _, rfl, dI (nI c), ((stM sh i).map nI).map dI, dI_dp (SqL.of ((s8.trans (sm.trans sT)) _ _ hb2)), (hk3.same s9).rows.dp (SqL.of (s9 _ _ hk2)), dI_shaped _, dII_shaped _, _, rfl, ?_⟩
        rw [any_dS]
        cases z : (stM sh i).contains c with
        | true => exact iteT ⟨_, rfl, hg z _ sT⟩
        | false => exact iteF (hno z _ sT)
      · intro H9 s9 hD9
        have e9 : ((List.range st.length).filter fun i => (stM sh i).contains c).map (fun i => V.int (i : Nat)) = (nI ids).map V.int := by
          rw [lst, lwn, hids, ← nv_nI]
          rfl
        rw [e9] at hD9
        have ht9 := s9 _ _ ht8
        refine ⟨D6, nI ids, rfl, hD9, by omega, fun H10 p10 s10 hp10 e10 => ?_⟩
        have ht10 := s10 _ _ ht9
        refine ⟨t, p10, _, _, rfl, rfl, ht10, e10, line10 (by simp only [List.length_map, List.length_cons, List.length_append]; omega), ?_⟩
        refine ⟨_, rfl, fun z o e => ?_, ?_⟩
        · rw [upd_ne (ne_of_none e ht)]
          exact s10 _ _ (s9 _ _ (s8 z o e))
        · rw [upd_same, hnl, hni, ← List.map_append, ← List.map_append, List.append_assoc, List.append_assoc]
    · rintro σ H6 ⟨v, rfl, s6, ht6⟩
      rw [lw, List.take_length] at ht6
      exact ⟨_, rfl, q H6 t (s15.trans s6) htH ht6⟩
end
end Fm

/-! The mirror and the document: beating, unbeaten, least sets, stored. -/
namespace Fm
open Vaskya (Measure Item Sheet)
theorem cut_get {R : List (List Int)} {i : Nat} (C : List Nat) (hi : i < R.length) : (Vaskyb.cut R C).getD i [] = C.map (gain R i) := by
  unfold Vaskyb.cut
  rw [List.getD_eq_getElem?_getD, List.getElem?_map, List.getElem?_eq_getElem hi]
  show C.map _ = _
  refine List.map_congr_left fun m _ => ?_
  unfold gain
  rw [getD_of (List.getElem?_eq_getElem hi)]
theorem atLeast_map (f g : Nat → Int) : ∀ C : List Nat, Vaskya.atLeast (C.map f) (C.map g) = !(C.any fun m => decide (f m < g m))
  | [] => rfl
  | m :: C => by
    have ih := atLeast_map f g C
    unfold Vaskya.atLeast at ih ⊢
    rw [List.map_cons, List.map_cons, List.zip_cons_cons, List.all_cons, ih, List.any_cons, Bool.not_or]
    congr 1
    rw [Bool.eq_iff_iff, decide_eq_true_iff, Bool.not_eq_true', decide_eq_false_iff_not]
    show g m ≤ f m ↔ _
    omega
theorem ne_map (f g : Nat → Int) : ∀ C : List Nat, (C.any fun m => decide (f m < g m)) = false → (C.map f != C.map g) = C.any fun m => decide (g m < f m)
  | [], _ => by simp
  | m :: C, h => by
    rw [List.any_cons, Bool.or_eq_false_iff] at h
    have ih := ne_map f g C h.2
    have h1 := of_decide_eq_false h.1
    rw [List.map_cons, List.map_cons, List.any_cons, ← ih]
    by_cases e : f m = g m
    · have e2 : decide (g m < f m) = false := decide_eq_false (by omega)
      rw [e2, Bool.false_or, e, Bool.eq_iff_iff]
      simp
    · have e2 : decide (g m < f m) = true := decide_eq_true (by omega)
      rw [e2, Bool.true_or]
      simp [e]
theorem beatsM_is {R : List (List Int)} {i j : Nat} (C : List Nat) (hi : i < R.length) (hj : j < R.length) : beatsM R i j C = Vaskya.beats ((Vaskyb.cut R C).getD i []) ((Vaskyb.cut R C).getD j []) := by
  rw [cut_get C hi, cut_get C hj]
  unfold beatsM Vaskya.beats
  rw [atLeast_map]
  cases h : C.any fun m => decide (gain R i m < gain R j m) with
  | true => rfl
  | false => rw [ne_map _ _ C h]
theorem cut_len (R : List (List Int)) (C : List Nat) : (Vaskyb.cut R C).length = R.length := List.length_map ..
theorem any_congr' {α : Type} {l : List α} {p q : α → Bool} (h : ∀ x ∈ l, p x = q x) : l.any p = l.any q := by
  induction l with
  | nil => rfl
  | cons a l ih =>
    rw [List.any_cons, List.any_cons, h a List.mem_cons_self, ih fun x hx => h x (List.mem_cons_of_mem _ hx)]
theorem unbeatenIn_is {R : List (List Int)} {A : List Nat} (C : List Nat) (hA : ∀ j ∈ A, j < R.length) : Vaskya.unbeatenIn (Vaskyb.cut R C) A = A.filter fun i => freeM R i A C := by
  unfold Vaskya.unbeatenIn
  refine List.filter_congr fun i hi => ?_
  unfold freeM
  rw [any_congr' fun j hj => (beatsM_is C (hA j hj) (hA i hi)).symm]
theorem bestBy_is (R : List (List Int)) (C : List Nat) : Vaskyb.bestBy R C = (List.range R.length).filter fun i => freeM R i (List.range R.length) C := by
  unfold Vaskyb.bestBy Vaskya.unbeaten
  rw [cut_len]
  exact unbeatenIn_is C fun j hj => List.mem_range.mp hj
theorem any_mem {C D : List Nat} (p : Nat → Bool) (h : ∀ m, m ∈ C ↔ m ∈ D) : C.any p = D.any p := by
  rw [Bool.eq_iff_iff, List.any_eq_true, List.any_eq_true]
  constructor
  · rintro ⟨m, hm, e⟩
    exact ⟨m, (h m).mp hm, e⟩
  · rintro ⟨m, hm, e⟩
    exact ⟨m, (h m).mpr hm, e⟩
theorem freeM_set (R : List (List Int)) (i : Nat) (A : List Nat) {C D : List Nat} (h : ∀ m, m ∈ C ↔ m ∈ D) : freeM R i A C = freeM R i A D := by
  unfold freeM
  rw [any_congr' fun j _ => ?_]
  unfold beatsM
  rw [any_mem _ h, any_mem _ h]

/-! ### measures told -/
theorem dups_len : ∀ (n : Nat) (l : List Int), l.length ≤ n → l.eraseDups.length ≤ l.length ∧ (l.eraseDups.length = l.length ↔ l.Nodup)
  | _, [], _ => by simp
  | 0, _ :: _, h => by simp at h
  | n + 1, a :: l, h => by
    rw [List.eraseDups_cons, List.length_cons, List.length_cons]
    rw [List.length_cons] at h
    have hf : (l.filter fun b => !b == a).length ≤ l.length := (List.filter_sublist).length_le
    obtain ⟨h1, h2⟩ := dups_len n (l.filter fun b => !b == a) (by omega)
    refine ⟨by omega, ?_⟩
    rw [List.nodup_cons]
    constructor
    · intro e
      have e1 : (l.filter fun b => !b == a).length = l.length := by omega
      have e2 := List.filter_eq_self.mp (List.Sublist.eq_of_length List.filter_sublist e1)
      refine ⟨fun ha => ?_, ?_⟩
      · have := e2 a ha
        simp at this
      · rw [List.filter_eq_self.mpr e2] at h2
        exact h2.mp (by rw [List.filter_eq_self.mpr e2] at e; omega)
    · rintro ⟨ha, hn⟩
      have e2 : (l.filter fun b => !b == a) = l := List.filter_eq_self.mpr fun b hb => by
        have : b ≠ a := fun z => ha (by rw [← z]; exact hb)
        simp [this]
      rw [e2] at h2 ⊢
      rw [h2.mpr hn]
theorem index_none (z : Int) (n : Nat) : (VaskyBase.index z n).isNone = (decide (z < 0) || decide ((n : Int) ≤ z)) := by
  unfold VaskyBase.index
  by_cases h : 0 ≤ z ∧ z < (n : Int)
  · rw [if_pos h]
    have e1 : decide (z < 0) = false := decide_eq_false (by omega)
    have e2 : decide ((n : Int) ≤ z) = false := decide_eq_false (by omega)
    rw [e1, e2]
    rfl
  · rw [if_neg h]
    rw [Bool.eq_iff_iff, Bool.or_eq_true_iff, decide_eq_true_iff, decide_eq_true_iff]
    constructor
    · intro _
      omega
    · intro _
      rfl
theorem measuresOf_is (s : Sheet) (l : List Int) : Vaskyb.measuresOf s l = if measM l s.ms.length = true then some ((List.range s.ms.length).filter fun (m : Nat) => l.contains (m : Int)) else none := by
  unfold Vaskyb.measuresOf
  have hd := (dups_len l.length l (Nat.le_refl _)).2
  have ea : (l.any fun z => (VaskyBase.index z s.ms.length).isNone) = l.any fun m => decide (m < 0) || decide ((s.ms.length : Int) ≤ m) := any_congr' fun z _ => index_none z _
  rw [ea]
  have key : (l.isEmpty = true ∨ (l.any fun m => decide (m < 0) || decide ((s.ms.length : Int) ≤ m)) = true ∨ l.eraseDups.length ≠ l.length) ↔ ¬ measM l s.ms.length = true := by
    unfold measM
    rw [Bool.and_eq_true_iff, Bool.and_eq_true_iff, Bool.not_eq_true', decide_eq_true_iff, decide_eq_true_iff]
    have h0 : l.isEmpty = true ↔ ¬ 0 < l.length := by
      rw [List.isEmpty_iff, ← List.length_eq_zero_iff]
      omega
    have h1 : ((l.any fun m => decide (m < 0) || decide ((s.ms.length : Int) ≤ m)) = true) ↔ ¬ ((l.any fun m => decide (m < 0) || decide ((s.ms.length : Int) ≤ m)) = false) := by
      rw [Bool.not_eq_false]
    rw [h0, h1, ← hd]
    constructor
    · rintro (h | h | h) ⟨a, b, c⟩
      · exact h b
      · exact h a
      · exact h c
    · intro h
      apply Classical.byContradiction
      intro z
      rw [not_or, not_or] at z
      exact h ⟨Classical.byContradiction fun y => z.2.1 y, Classical.byContradiction fun y => z.1 y, Classical.byContradiction fun y => z.2.2 y⟩
  by_cases h : measM l s.ms.length = true
  · rw [if_pos h, if_neg (fun z => key.mp z h)]
  · rw [if_neg h, if_pos (key.mpr h)]
/-- the measures told, as a set -/
theorem told_mem {l : List Int} {k : Nat} (h : measM l k = true) (m : Nat) : m ∈ natsOf l ↔ m ∈ (List.range k).filter fun (m : Nat) => l.contains (m : Int) := by
  obtain ⟨e, hlt, _⟩ := natsOf_nI h
  have hm : m ∈ natsOf l ↔ (m : Int) ∈ l := by
    constructor
    · intro z
      rw [← e]
      exact List.mem_map.mpr ⟨m, z, rfl⟩
    · intro z
      rw [← e] at z
      obtain ⟨m', h1, h2⟩ := List.mem_map.mp z
      have : m' = m := by omega
      rw [← this]
      exact h1
  rw [List.mem_filter, List.mem_range, List.contains_iff_mem, ← hm]
  exact ⟨fun z => ⟨hlt m z, z⟩, fun z => z.2⟩
theorem nats_is (l : List Nat) : Vaskyb.nats l = nI l := rfl
theorem nats_is' (l : List Nat) : Vaskya.nats l = nI l := rfl
theorem everyone_is (s : Sheet) : List.range (Vaskya.rows s).length = everyone s := by
  unfold everyone
  rw [rows_len]
theorem sub_is (s : Sheet) (l : List Int) : VaskybNeutral.encode (Vaskyb.looked s (.sub l)) = subM s l := by
  show VaskybNeutral.encode (Vaskyb.withMeasures s l _) = _
  unfold Vaskyb.withMeasures subM
  rw [measuresOf_is]
  by_cases h : measM l s.ms.length = true
  · rw [if_pos h, if_pos h]
    show VaskybNeutral.encode (Vaskya.listAnswer _) = _
    rw [bestBy_is, everyone_is]
    have e : ((everyone s).filter fun i => freeM (Vaskya.rows s) i (everyone s) ((List.range s.ms.length).filter fun (m : Nat) => l.contains (m : Int))) = (everyone s).filter fun i => freeM (Vaskya.rows s) i (everyone s) (natsOf l) :=
      List.filter_congr fun i _ => (freeM_set _ _ _ (told_mem h)).symm
    rw [e]
    rfl
  · rw [if_neg h, if_neg h]
    rfl

/-! ### least sets -/
theorem best_has (s : Sheet) (C : List Nat) {i : Nat} (hi : i < s.items.length) : (Vaskyb.bestBy (Vaskya.rows s) C).contains i = freeM (Vaskya.rows s) i (everyone s) C := by
  rw [bestBy_is, everyone_is, Bool.eq_iff_iff, List.contains_iff_mem, List.mem_filter]
  unfold everyone
  rw [List.mem_range]
  exact ⟨fun z => z.2, fun z => ⟨hi, z⟩⟩
theorem smaller_is : ∀ k ∈ [1, 2, 3, 4], ∀ v ∈ Vaskyb.subsets k, ∀ u ∈ Vaskyb.subsets k, (v != u && Vaskyb.within v u) = smallerM v u := by decide +kernel
theorem cubeOf_is (s : Sheet) : Vaskyb.cubeOf s = (Vaskyb.subsets s.ms.length).map fun u => (u, Vaskyb.bestBy (Vaskya.rows s) u) := rfl
theorem won_is (s : Sheet) {i : Nat} (hi : i < s.items.length) : ((Vaskyb.cubeOf s).filter fun x => x.2.contains i).map (fun x => x.1) = winM s i := by
  rw [cubeOf_is, List.filter_map, List.map_map]
  unfold winM
  have e : ((fun x : Vaskyb.Measures × List Nat => x.1) ∘ fun u => (u, Vaskyb.bestBy (Vaskya.rows s) u)) = fun u => u := rfl
  rw [e, List.map_id']
  refine List.filter_congr fun u _ => ?_
  exact best_has s u hi
theorem won_len (s : Sheet) {i : Nat} (hi : i < s.items.length) : ((Vaskyb.cubeOf s).filter fun x => x.2.contains i).length = (winM s i).length := by
  rw [← won_is s hi, List.length_map]
theorem leastSets_is {s : Sheet} (ok : SheetOk s) {i : Nat} (hi : i < s.items.length) : Vaskyb.leastSets (Vaskyb.cubeOf s) i = stM s i := by
  have e : Vaskyb.leastSets (Vaskyb.cubeOf s) i = (((Vaskyb.cubeOf s).filter fun x => x.2.contains i).map fun x => x.1).filter fun u => !(((Vaskyb.cubeOf s).filter fun x => x.2.contains i).map fun x => x.1).any fun v => v != u && Vaskyb.within v u := rfl
  rw [e, won_is s hi]
  unfold stM leastM
  refine List.filter_congr fun u hu => ?_
  rw [any_congr' fun v hv => smaller_is _ (in14 ok.m0 ok.m4) v (win_mem v hv) u (win_mem u hu)]
theorem least_is {s : Sheet} (ok : SheetOk s) (i : Int) : VaskybNeutral.encode (Vaskyb.looked s (.least i)) = leastAns s i := by
  unfold leastAns
  show VaskybNeutral.encode (match VaskyBase.index i s.items.length with
    | none => _
    | some k => _) = _
  unfold VaskyBase.index
  by_cases h : 0 ≤ i ∧ i < (s.items.length : Int)
  · rw [if_pos h, if_pos h]
    have hi : i.toNat < s.items.length := by omega
    show VaskybNeutral.encode (VaskyBase.Answer.mk _ _) = _
    rw [leastSets_is ok hi, won_len s hi]
    rfl
  · rw [if_neg h, if_neg h]
    rfl

/-! ### stored -/
theorem double {α β : Type} (p : α → β → Bool) : ∀ (l : List α) (m : List β), (l.map fun x => (m.filter (p x)).length).sum = (m.map fun y => (l.filter fun x => p x y).length).sum
  | [], m => by
    induction m with
    | nil => rfl
    | cons y m ih =>
      rw [List.map_cons, List.sum_cons, ← ih]
      rfl
  | x :: l, m => by
    rw [List.map_cons, List.sum_cons, double p l m]
    induction m with
    | nil => rfl
    | cons y m ih =>
      rw [List.map_cons, List.map_cons, List.sum_cons, List.sum_cons, ← ih, List.filter_cons, List.filter_cons]
      split
      · rw [List.length_cons, List.length_cons]
        omega
      · omega
theorem ids_is {s : Sheet} (ok : SheetOk s) {u : List Nat} (hu : u ∈ Vaskyb.subsets s.ms.length) : ((Vaskyb.bestBy (Vaskya.rows s) u).filter fun i => (((List.range s.items.length).map (Vaskyb.leastSets (Vaskyb.cubeOf s))).getD i []).contains u) = idsM s u := by
  rw [bestBy_is, everyone_is, List.filter_filter]
  unfold idsM
  refine List.filter_congr fun i hi => ?_
  have hi' : i < s.items.length := List.mem_range.mp hi
  have e : ((List.range s.items.length).map (Vaskyb.leastSets (Vaskyb.cubeOf s))).getD i [] = stM s i := by
    rw [List.getD_eq_getElem?_getD, List.getElem?_map, List.getElem?_range hi']
    exact leastSets_is ok hi'
  rw [e]
  cases h : (stM s i).contains u with
  | false => rfl
  | true =>
    have hm : u ∈ stM s i := List.contains_iff_mem.mp h
    have hw : u ∈ winM s i := leastM_mem u hm
    have := (List.mem_filter.mp hw).2
    rw [this]
    rfl
theorem store_is {s : Sheet} (ok : SheetOk s) : Vaskyb.store (Vaskyb.cubeOf s) s.items.length = (Vaskyb.subsets s.ms.length).map fun u => (u, idsM s u) := by
  have e : Vaskyb.store (Vaskyb.cubeOf s) s.items.length = (Vaskyb.cubeOf s).map fun x => (x.1, x.2.filter fun i => (((List.range s.items.length).map (Vaskyb.leastSets (Vaskyb.cubeOf s))).getD i []).contains x.1) := rfl
  rw [e]
  conv => lhs; rw [cubeOf_is]
  rw [List.map_map]
  refine List.map_congr_left fun u hu => ?_
  show (u, _) = (u, _)
  rw [← ids_is ok hu]
  rfl
theorem sum_nat {α : Type} (f : α → Nat) : ∀ l : List α, (((l.map f).sum : Nat) : Int) = (l.map fun x => ((f x : Nat) : Int)).sum
  | [] => rfl
  | a :: l => by
    rw [List.map_cons, List.map_cons, List.sum_cons, List.sum_cons, ← sum_nat f l]
    omega
theorem size_cube (s : Sheet) : ((Vaskyb.sizeOf_ (Vaskyb.cubeOf s) : Nat) : Int) = ((everyone s).map fun i => (((winM s i).length : Nat) : Int)).sum := by
  rw [← sum_nat]
  congr 1
  have e : Vaskyb.sizeOf_ (Vaskyb.cubeOf s) = ((Vaskyb.subsets s.ms.length).map fun u => ((everyone s).filter fun i => freeM (Vaskya.rows s) i (everyone s) u).length).sum := by
    unfold Vaskyb.sizeOf_
    rw [cubeOf_is, List.map_map]
    congr 1
    refine List.map_congr_left fun u _ => ?_
    show (Vaskyb.bestBy (Vaskya.rows s) u).length = _
    rw [bestBy_is, everyone_is]
  rw [e, double (fun u i => freeM (Vaskya.rows s) i (everyone s) u)]
  rfl
theorem filter_back {S : List (List Nat)} (p : List Nat → Bool) (T : List (List Nat)) (hT : T = S.filter p) : (S.filter fun u => T.contains u) = T := by
  subst hT
  refine List.filter_congr fun u hu => ?_
  rw [Bool.eq_iff_iff, List.contains_iff_mem, List.mem_filter]
  exact ⟨fun z => z.2, fun z => ⟨hu, z⟩⟩
theorem st_back (s : Sheet) (i : Nat) : ((Vaskyb.subsets s.ms.length).filter fun u => (stM s i).contains u) = stM s i := by
  refine filter_back (fun u => (!(winM s i).any fun o => smallerM o u) && freeM (Vaskya.rows s) i (everyone s) u) _ ?_
  unfold stM leastM
  conv => lhs; rw [show winM s i = (Vaskyb.subsets s.ms.length).filter fun c => freeM (Vaskya.rows s) i (everyone s) c from rfl]
  rw [List.filter_filter]
  rfl
theorem size_store {s : Sheet} (ok : SheetOk s) : ((Vaskyb.sizeOf_ (Vaskyb.store (Vaskyb.cubeOf s) s.items.length) : Nat) : Int) = ((everyone s).map fun i => (((stM s i).length : Nat) : Int)).sum := by
  rw [← sum_nat]
  congr 1
  rw [store_is ok]
  unfold Vaskyb.sizeOf_
  rw [List.map_map]
  have e : ((fun x : Vaskyb.Measures × List Nat => x.2.length) ∘ fun u => (u, idsM s u)) = fun u => ((everyone s).filter fun i => (stM s i).contains u).length := rfl
  rw [e, double (fun u i => (stM s i).contains u)]
  congr 1
  refine List.map_congr_left fun i _ => ?_
  rw [st_back]
theorem cube_is {s : Sheet} (ok : SheetOk s) : VaskybNeutral.encode (Vaskyb.looked s .cube) = cubeM s := by
  show ((((Vaskyb.cubeOf s).length : Nat) : Int) :: (Vaskyb.nats [Vaskyb.sizeOf_ (Vaskyb.cubeOf s), Vaskyb.sizeOf_ (Vaskyb.store (Vaskyb.cubeOf s) s.items.length)] ++ (Vaskyb.store (Vaskyb.cubeOf s) s.items.length).flatMap fun x => Vaskyb.listRow x.1 ++ Vaskyb.listRow x.2)) = _
  have e1 : (Vaskyb.cubeOf s).length = (Vaskyb.subsets s.ms.length).length := by rw [cubeOf_is, List.length_map]
  have e2 : Vaskyb.nats [Vaskyb.sizeOf_ (Vaskyb.cubeOf s), Vaskyb.sizeOf_ (Vaskyb.store (Vaskyb.cubeOf s) s.items.length)] = [((everyone s).map fun i => (((winM s i).length : Nat) : Int)).sum, ((everyone s).map fun i => (((stM s i).length : Nat) : Int)).sum] := by
    show [((Vaskyb.sizeOf_ (Vaskyb.cubeOf s) : Nat) : Int), ((Vaskyb.sizeOf_ (Vaskyb.store (Vaskyb.cubeOf s) s.items.length) : Nat) : Int)] = _
    rw [size_cube, size_store ok]
  rw [e1, e2, store_is ok, List.flatMap_map]
  rfl
end Fm

/-! The mirror and the document: by all measures, within bounds, in groups, asked. -/
namespace Fm
open Vaskya (Measure Item Sheet)
theorem cut_all {R : List (List Int)} {k : Nat} (h : Wide R k) : Vaskyb.cut R (List.range k) = R := by
  unfold Vaskyb.cut
  conv => rhs; rw [← List.map_id R]
  refine List.map_congr_left fun r hr => ?_
  have e := h r hr
  have z := map_range_getD r 0 (fun z : Int => z)
  rw [List.map_id', e] at z
  exact z
/-- by all measures -/
theorem unbeaten_all {R : List (List Int)} {k : Nat} {A : List Nat} (h : Wide R k) (hA : ∀ j ∈ A, j < R.length) : Vaskya.unbeatenIn R A = A.filter fun i => freeM R i A (List.range k) := by
  rw [← unbeatenIn_is (List.range k) hA, cut_all h]
theorem beats_all {R : List (List Int)} {k i j : Nat} (h : Wide R k) (hi : i < R.length) (hj : j < R.length) : Vaskya.beats (R.getD i []) (R.getD j []) = beatsM R i j (List.range k) := by
  rw [beatsM_is (List.range k) hi hj, cut_all h]
theorem listRow_is (l : List Nat) : Vaskyb.listRow l = (((l.length : Nat) : Int)) :: nI l := rfl

/-! ### ask -/
theorem within_is (a b : List Nat) : Vaskyb.within a b = withinM a b := rfl
def candM (s : Sheet) (C : List Nat) : List Nat := (everyone s).filter fun i => (stM s i).any fun c => withinM c C
def askM (s : Sheet) (l : List Int) : List Int := if measM l s.ms.length = true then
  (((candM s (natsOf l)).length : Nat) : Int) :: (((((candM s (natsOf l)).filter fun i => freeM (Vaskya.rows s) i (candM s (natsOf l)) (natsOf l)).length : Nat) : Int) :: nI ((candM s (natsOf l)).filter fun i => freeM (Vaskya.rows s) i (candM s (natsOf l)) (natsOf l))) else [-3]
theorem stM_sub (s : Sheet) (i : Nat) : ∀ c ∈ stM s i, c ∈ Vaskyb.subsets s.ms.length := fun c h => win_mem (s := s) (i := i) c (leastM_mem c h)
theorem cand_is {s : Sheet} (ok : SheetOk s) (u : List Nat) : ((List.range (Vaskya.rows s).length).filter fun i => (Vaskyb.store (Vaskyb.cubeOf s) s.items.length).any fun x => Vaskyb.within x.1 u && x.2.contains i) = candM s u := by
  rw [everyone_is, store_is ok]
  unfold candM
  refine List.filter_congr fun i hi => ?_
  rw [List.any_map, Bool.eq_iff_iff, List.any_eq_true, List.any_eq_true]
  constructor
  · rintro ⟨c, hc, h⟩
    obtain ⟨h1, h2⟩ := Bool.and_eq_true_iff.mp h
    have h3 := List.contains_iff_mem.mp h2
    exact ⟨c, List.contains_iff_mem.mp (List.mem_filter.mp h3).2, h1⟩
  · rintro ⟨c, hc, h⟩
    refine ⟨c, stM_sub s i c hc, Bool.and_eq_true_iff.mpr ⟨h, ?_⟩⟩
    exact List.contains_iff_mem.mpr (List.mem_filter.mpr ⟨hi, List.contains_iff_mem.mpr hc⟩)
theorem withinM_set (c : List Nat) {C D : List Nat} (h : ∀ m, m ∈ C ↔ m ∈ D) : withinM c C = withinM c D := by
  unfold withinM
  rw [Bool.eq_iff_iff, List.all_eq_true, List.all_eq_true]
  constructor
  · intro z m hm
    exact List.contains_iff_mem.mpr ((h m).mp (List.contains_iff_mem.mp (z m hm)))
  · intro z m hm
    exact List.contains_iff_mem.mpr ((h m).mpr (List.contains_iff_mem.mp (z m hm)))
theorem candM_set (s : Sheet) {C D : List Nat} (h : ∀ m, m ∈ C ↔ m ∈ D) : candM s C = candM s D := by
  unfold candM
  refine List.filter_congr fun i _ => ?_
  exact any_congr' fun c _ => withinM_set c h
theorem candM_lt (s : Sheet) (C : List Nat) : ∀ j ∈ candM s C, j < (Vaskya.rows s).length := fun j hj => by
  have := (List.mem_filter.mp hj).1
  unfold everyone at this
  rw [rows_len]
  exact List.mem_range.mp this
theorem ask_is {s : Sheet} (ok : SheetOk s) (l : List Int) : VaskybNeutral.encode (Vaskyb.looked s (.ask l)) = askM s l := by
  show VaskybNeutral.encode (Vaskyb.withMeasures s l _) = _
  unfold Vaskyb.withMeasures askM
  rw [measuresOf_is]
  by_cases h : measM l s.ms.length = true
  · rw [if_pos h, if_pos h]
    have hm := told_mem h
    show VaskybNeutral.encode (VaskyBase.Answer.mk _ _) = _
    unfold Vaskyb.askStore
    rw [cand_is ok]
    show (((candM s _).length : Nat) : Int) :: Vaskyb.listRow (Vaskya.unbeatenIn (Vaskyb.cut (Vaskya.rows s) _) (candM s _)) = _
    rw [unbeatenIn_is _ (candM_lt s _), ← candM_set s hm, listRow_is]
    have e : ((candM s (natsOf l)).filter fun i => freeM (Vaskya.rows s) i (candM s (natsOf l)) ((List.range s.ms.length).filter fun (m : Nat) => l.contains (m : Int))) = (candM s (natsOf l)).filter fun i => freeM (Vaskya.rows s) i (candM s (natsOf l)) (natsOf l) :=
      List.filter_congr fun i _ => (freeM_set _ _ _ hm).symm
    rw [e]
  · rw [if_neg h, if_neg h]
    rfl
end Fm

/-! candidates, ask. -/
namespace Fm
open PySem PySem.Spec PyProof.Rows L2
open Vaskya (Measure Item Sheet)
abbrev sCandidates : Stmt := top 59
abbrev sAsk : Stmt := top 87
def spCand (K : PySem.W.Frag) (CH : Addr) : Sp := fun vs H Q _ => ∃ (x : HA) (s : Sheet) (m : Addr) (C : List Nat), vs = [.ref x.a, .ref m] ∧ HeldAt CH H x s ∧ SheetOk s ∧ SqL K H m (nv C) ∧ C.length ≤ 1000 ∧ ∀ H' p, Same H H' → H p = none → H' p = some (.lst (nv (candM s C))) → Q (.ref p) H'
/-- the outer block's names, of the second comprehension -/
def scpCand : Scope := { kind := .function, names := [(".0", .local), ("item", .local), ("kept", .local), ("any", .globalImplicit), ("chosen", .cell)], isGenerator := false, isCoroutine := false }
section
variable {P : Program} {w : World} {K : PySem.W.Frag} {mg : Str → Option Value} {base : Heap}
theorem scCand : FnScope ["held", "chosen", "stored", "item", "kept", "smallest"] ["held", "chosen"] (defScope sCandidates) := ⟨rfl, rfl, rfl, by decide +kernel, rfl, by decide +kernel, by decide +kernel⟩
theorem ok_cand {CH : Addr} (D : DefT K mg "candidates" sCandidates ["held", "chosen"]) (cH : Cls K CH) (NH : HeldT K CH) (MI : MethT K CH "every_item" "HeldList.every_item" sEveryI ["self"]) (FW : DefT K mg "winning_sets" sWinning ["held", "item"]) (GW : FnOk P w K mg base CX0 4 FW.f FW.fd ["held", "item"] (spWinning CH))
    (FL : DefT K mg "least_sets" sLeast ["sets"]) (GL : FnOk P w K mg base CX0 3 FL.f FL.fd ["sets"] (spLeast K)) (FI : DefT K mg "is_within" sWithin ["inner", "outer"]) (gl : mg "len" = none) (gr : mg "range" = none) (gi : mg "list" = none) (ga : mg "all" = none) (gn : mg "any" = none) (ge : mg "enumerate" = none) :
    FnOk P w K mg base CX0 5 D.f D.fd ["held", "chosen"] (spCand K CH) := by
  refine D.F.ok scCand (fun vs H Q E h => ?_) (fun cdv A_ outer s H vs Q E hr h => ?_)
  · obtain ⟨x, s, m, C, rfl, _⟩ := h
    rfl
  · obtain ⟨x, sh, m, C, rfl, hH, ok, hm, hz, q⟩ := h
    have hr1 : Room 1 _ := hr.mono (by decide)
    have hr3 : Room 3 _ := hr.mono (by decide)
    refine ⟨_, pss_cons (ps_setLc (i := 2) (own := [("item", 3)]) (g := gName 3) (te := tCall (spLeast K) [] E0 (tCons (tCall (spWinning CH) [] E0 (tCons (tVar 0) (tCons (tVar 3) tNil))) tNil)) rfl scCand.nd rfl rfl (sw_true rfl rfl rfl (by decide +kernel)) (pi_list (pe_meth0 (pv 0) cH MI.m (ok_everyI MI cH NH gl gr gi) hr1 MI.b .nil pass0))
        (blkOk_by (own := [("item", 3)]) (N := ["held", "chosen", "stored", "item", "kept", "smallest"]) (sc := defScope sCandidates) (by decide +kernel)) (fun _ _ _ _ _ => pg_name (i := 3) scCand.nd rfl (Or.inl rfl)) (fun _ _ _ _ _ => pts_nil)
        (fun _ _ _ _ _ => pe_def FL GL hr3 (pa_cons (pe_def FW GW hr (pa_cons (pv 0) (pa_cons (pv 3) pa_nil))) pa_nil)))
      (pss_one (ps_ret (pe_lc (own := [("item", 3), ("kept", 4)]) (g := gTup K 2 (gCons (gName 3) (gCons (gName 4) gNil))) (wi := iEnum K (tCons (tVar 2) tNil))
        (tt := tB (tCB (rAny K) (tCons (tLc (iList K (tVar 4)) (gName 5) tYes (tCall (spWithin K) [] E0 (tCons (tVar 5) (tCons (tVar 1) tNil))) [5]) tNil))) (te := tVar 3) rfl scCand.nd (pi_enum (by rfl) ge (pa_cons (pv 2) pa_nil))
        (blkOk_by (own := [("item", 3), ("kept", 4)]) (N := ["held", "chosen", "stored", "item", "kept", "smallest"]) (sc := defScope sCandidates) (by decide +kernel))
        (fun _ _ _ _ _ => pg_tup rfl (pgs_cons (pg_name (i := 3) scCand.nd rfl (Or.inl rfl)) (pgs_cons (pg_name (i := 4) scCand.nd rfl (Or.inl rfl)) pgs_nil)))
        (fun _ _ _ _ _ => pts_one (pt_val (pe_callB (cr_any rfl) (by rfl) gn PyProof.Rows.boot_any (pa_cons (pe_lc (wi := iList K (tVar 4)) (own := [("smallest", 5)]) (g := gName 5) (te := tCall (spWithin K) [] E0 (tCons (tVar 5) (tCons (tVar 1) tNil))) rfl scCand.nd (pi_list (pv 4))
          (blkOk_by (own := [("smallest", 5)]) (N := ["held", "chosen", "stored", "item", "kept", "smallest"]) (sc := scpCand) (by decide +kernel)) (fun _ _ _ _ _ => pg_name (i := 5) scCand.nd rfl (Or.inl rfl)) (fun _ _ _ _ _ => pts_nil)
          (fun _ _ _ _ _ => pe_def FI (ok_within FI ga) hr1 (pa_cons (pv 5) (pa_cons (pv 1) pa_nil)))) pa_nil)))) (fun _ _ _ _ _ => pv 3)))), ?_⟩
    obtain ⟨⟨dx, h1⟩, _⟩ := id hH
    have h16 := ok.i16
    refine ⟨_, rfl, x.a, dx, _, rfl, h1, hF_everyI x, ?_⟩
    dsimp only [tNil]
    refine ⟨x, sh, rfl, hH, ok, fun e he => ?_⟩
    refine ⟨e, rfl, ⟨_, SqL.of upd_same⟩, fun D1 hD1 => ?_⟩
    have se := same_upd (o := .lst (nv (List.range sh.items.length))) he
    have hE : upd H e (.lst (nv (List.range sh.items.length))) e = some (.lst (nv (List.range sh.items.length))) := upd_same
    revert hD1 se hE
    generalize upd H e (.lst (nv (List.range sh.items.length))) = H1
    intro hD1 se hE
    have en : (nv (List.range sh.items.length)).length = sh.items.length := by rw [nv_len, List.length_range]
    refine lc_deep (walk_list (xs := nv (List.range sh.items.length))) (fun i => (stM sh i).map nI) hD1 (by omega) (fun H' sm => sm.seq (SqL.of hE)) ?_ ?_
    · rintro t y H' H2 G ht sm hne ⟨rfl, hy⟩ hg
      refine ⟨rfl, ?_⟩
      obtain ⟨i, hi, rfl⟩ := nv_at hy
      rw [en] at ht
      rw [List.getElem?_range ht] at hi
      cases hi
      refine ⟨_, rfl, _, rfl, x, sh, t, rfl, hH.same (se.trans sm), ok, ht, fun H3 p3 s3 hp3 hrow3 => ?_⟩
      obtain ⟨ws, g1, g2, g3⟩ := hrow3
      have wl := win_len ok t
      have wm := fun c hc => sub4 ok c (win_mem (s := sh) (i := t) c hc)
      refine ⟨p3, ws, winM sh t, rfl, g1, g2, by omega, fun c hc => Nat.le_trans (wm c hc) (by decide), fun H4 p4 us s4 hp4 hu hu2 hsub => ?_⟩
      cases hDo : H2 D1 with
      | none => exact absurd hDo hne
      | some o => exact hg H4 p4 us (s3.trans s4) (s3.free hp4) hu hu2 fun z => g3.off hDo (hsub _ z)
    intro H2 st s2 hD1' hS
    rw [en] at hS
    have lst := hS.len
    rw [List.length_map, List.length_range] at lst
    have s12 := se.trans s2
    have hS' := fun {i : Nat} (hi : i < sh.items.length) => (hS.get (i := i) (S := (stM sh i).map nI) (by rw [List.getElem?_map, List.getElem?_range hi]; rfl))
    refine ⟨_, rfl, D1, st, rfl, SqL.of hD1', fun D2 hD2 => ?_⟩
    refine lc_keep walk_enum (fun i => (stM sh i).any fun c => withinM c C) (fun i => V.int (i : Nat)) hD2 (by omega) (fun H' sm => sm.seq (SqL.of hD1')) ?_ ?_
    · rintro i y H' H3 G N hi sm hne ⟨T, y1, y2, rfl, hT, rfl, e1, e2⟩ hg hno
      have hi2 : i < sh.items.length := by omega
      obtain ⟨bk, zs, hk1, hk2, hk3⟩ := hS' hi2
      replace e2 : st[i]? = some y2 := e2
      rw [hk1] at e2
      cases Option.some.inj e2
      cases Option.some.inj e1
      have sT := same_upd (o := .tup [V.int (i : Nat), V.ref bk]) hT
      have s9 := sm.trans sT
      have hk4 := s9 _ _ hk2
      have hk5 := hk3.same s9
      have hmz := (s12.trans s9).seq hm
      refine ⟨T, _, rfl, SqT.of upd_same, rfl, _, _, rfl, _, _, rfl, rfl, rfl, ?_⟩
      have lz := hk5.len
      rw [List.length_map] at lz
      have sl : (stM sh i).length ≤ 15 := Nat.le_trans (leastM_len _) (win_len ok i)
      have sm4 : ∀ c ∈ stM sh i, c.length ≤ 100 := fun c hc => sub4 ok c (stM_sub sh i c hc)
      refine ⟨_, rfl, bk, rfl, ⟨_, SqL.of hk4⟩, fun D3 hD3 => ?_⟩
      refine lc_fun (walk_list (xs := zs)) (fun u => V.bl (withinM ((stM sh i).getD u []) C)) hD3 (by omega) (fun H' s3 => s3.seq (SqL.of hk4)) ?_ ?_
      · rintro u y H4 H5 G' hu s4 hne4 ⟨rfl, hy⟩ hg'
        have hus : u < (stM sh i).length := by omega
        obtain ⟨b, h2, h3⟩ := hk5.get (i := u) (l := nI (stM sh i)[u]) (by rw [List.getElem?_map, List.getElem?_eq_getElem hus]; rfl)
        rw [hy] at h2
        cases Option.some.inj h2
        refine ⟨rfl, ?_⟩
        refine ⟨_, rfl, _, rfl, b, m, (stM sh i)[u], C, rfl, SqL.of (by rw [nv_nI]; exact s4 _ _ h3), s4.seq hmz, Nat.le_trans (sm4 _ (List.getElem_mem hus)) (by decide), fun H6 s6 => ?_⟩
        have := hg' H6 s6
        rw [getD_of (List.getElem?_eq_getElem hus)] at this
        exact this
      · intro H4 s4 hD4
        rw [lz, bl_map] at hD4
        refine ⟨D3, _, rfl, SqL.of hD4, _, rfl, ?_⟩
        rw [any_range (stM sh i) [] (fun c => withinM c C)]
        cases z : (stM sh i).any fun c => withinM c C with
        | true => exact iteT ⟨_, rfl, hg z H4 (sT.trans s4)⟩
        | false => exact iteF (hno z H4 (sT.trans s4))
    · intro H3 s3 hD3
      have e9 : ((List.range st.length).filter fun i => (stM sh i).any fun c => withinM c C).map (fun i => V.int (i : Nat)) = nv (candM sh C) := by
        rw [lst]
        rfl
      rw [e9] at hD3
      exact q H3 D2 (s12.trans s3) (s12.free hD2) hD3

/-! ### ask -/
def spAsk (K : PySem.W.Frag) (CH : Addr) : Sp := fun vs H Q _ => ∃ (x : HA) (s : Sheet) (m : Addr) (l : List Int), vs = [.ref x.a, .ref m] ∧ HeldAt CH H x s ∧ SheetOk s ∧ SqL K H m (l.map V.int) ∧ l.length ≤ 2000 ∧
  ∀ H' p, Same H H' → H p = none → H' p = some (.lst ((askM s l).map V.int)) → Q (.ref p) H'
theorem scAsk : FnScope ["held", "measures", "asked"] ["held", "measures"] (defScope sAsk) := ⟨rfl, rfl, rfl, by decide +kernel, rfl, by decide +kernel, by decide +kernel⟩
theorem ok_ask {CH : Addr} (D : DefT K mg "ask" sAsk ["held", "measures"]) (cH : Cls K CH) (NH : HeldT K CH) (FD : DefT K mg "candidates" sCandidates ["held", "chosen"]) (GD : FnOk P w K mg base CX0 5 FD.f FD.fd ["held", "chosen"] (spCand K CH)) (FA : DefT K mg "are_measures" sAreMeasures ["told", "count"])
    (FC : DefT K mg "counted" sCounted ["numbers"]) (FN : DefT K mg "unbeaten" sUnbeaten ["gains", "among", "chosen"]) (FU : DefT K mg "is_unbeaten" sIsUnbeaten ["gains", "item", "among", "chosen"]) (FB : DefT K mg "beats" sBeats ["gains", "one", "other", "chosen"])
    (gl : mg "len" = none) (gs : mg "set" = none) (ga : mg "any" = none) (gN : GI mg "NO_MEASURES" (-3)) : FnOk P w K mg base CX0 6 D.f D.fd ["held", "measures"] (spAsk K CH) := by
  refine D.F.ok scAsk (fun vs H Q E h => ?_) (fun cdv A_ outer s H vs Q E hr h => ?_)
  · obtain ⟨x, s, m, l, rfl, _⟩ := h
    rfl
  · obtain ⟨x, sh, m, l, rfl, hH, ok, hm0, hz, q⟩ := h
    have hr1 : Room 1 _ := hr.mono (by decide)
    have hr3 : Room 3 _ := hr.mono (by decide)
    refine ⟨_, pss_cons (ps_if (pt_not (pt_val (pe_def FA (ok_are FA gl gs ga) hr1 (pa_cons (pv 1) (pa_cons (pe_callB call_len_seq (by rfl) gl PySem.boot_len (pa_cons (pe_fld (pv 0) rfl) pa_nil)) pa_nil)))))
        (pss_one (ps_ret (pe_lst (pa_cons (pe_gi gN) pa_nil)))) pss_nil)
      (pss_cons (ps_set (i := 2) scAsk.nd rfl (Or.inl rfl) (pe_def FD GD hr (pa_cons (pv 0) (pa_cons (pv 1) pa_nil))))
      (pss_one (ps_ret (pe_op op_cat (pe_lst (pa_cons (pe_callB call_len_seq (by rfl) gl PySem.boot_len (pa_cons (pv 2) pa_nil)) pa_nil))
        (pe_def FC (ok_counted FC gl) hr1 (pa_cons (pe_def FN (ok_unbeaten FN FU FB ga) hr3 (pa_cons (pe_fld (pv 0) rfl) (pa_cons (pv 2) (pa_cons (pv 1) pa_nil)))) pa_nil)))))), ?_⟩
    obtain ⟨⟨dx, h1⟩, _⟩ := id hH
    obtain ⟨vm, hm, lm⟩ := hH.meas
    have h16 := ok.i16
    refine ⟨_, rfl, _, rfl, x.a, CH, dx, _, _, rfl, h1, cH, NH.nM, hF_ms x, x.ms, vm, rfl, .inl (SqL.of hm), m, l, sh.ms.length, by rw [lm]; rfl, hm0, hz, fun H1 s1 => ⟨_, rfl, ?_⟩⟩
    cases hc : measM l sh.ms.length with
    | false =>
      refine iteT ⟨(by show 1 ≤ sizeLine; decide), fun p hp => ?_⟩
      refine q _ p (s1.trans (same_upd hp)) (s1.free hp) ?_
      rw [upd_same]
      unfold askM
      rw [if_neg (by rw [hc]; exact Bool.false_ne_true)]
      rfl
    | true =>
      refine iteF ?_
      obtain ⟨hnI, hlt, hlen⟩ := natsOf_nI hc
      have m4 := ok.m4
      have nl : (natsOf l).length ≤ 4 := by
        unfold natsOf
        rw [List.length_map]
        omega
      have hmN : SqL K H m (nv (natsOf l)) := by
        rw [nv_nI, hnI]
        exact hm0
      refine ⟨_, rfl, _, rfl, x, sh, m, natsOf l, rfl, hH.same s1, ok, s1.seq hmN, by omega, fun H2 a s2 ha ha2 => ?_⟩
      have cl16 : (candM sh (natsOf l)).length ≤ 16 := by
        have a1 : (candM sh (natsOf l)).length ≤ (everyone sh).length := (List.filter_sublist).length_le
        have a2 : (everyone sh).length = sh.items.length := List.length_range
        omega
      have hlt2 := candM_lt sh (natsOf l)
      have hask : askM sh l = (((candM sh (natsOf l)).length : Nat) : Int) :: (((((candM sh (natsOf l)).filter fun i => freeM (Vaskya.rows sh) i (candM sh (natsOf l)) (natsOf l)).length : Nat) : Int) :: nI ((candM sh (natsOf l)).filter fun i => freeM (Vaskya.rows sh) i (candM sh (natsOf l)) (natsOf l))) := if_pos hc
      rw [hask] at q
      revert q ha2 cl16 hlt2
      generalize candM sh (natsOf l) = Cd
      intro q ha2 cl16 hlt2
      have s12 := s1.trans s2
      refine ⟨_, rfl, a, _, rfl, .inl (SqL.of ha2), (by show 1 ≤ sizeLine; decide), fun p3 hp3 => ?_⟩
      have s3 := same_upd (o := .lst [V.int (nv Cd).length]) hp3
      have s13 := s12.trans s3
      refine ⟨_, rfl, x.a, CH, dx, _, _, rfl, s13 _ _ h1, cH, NH.nG, hF_gs x, _, rfl, _, rfl, x.gs, a, m, Vaskya.rows sh, sh.ms.length, Cd, natsOf l, rfl, (hH.gains).same s13, rows_wide ok, SqL.of (s3 _ _ ha2),
        hlt2, by omega, s13.seq hmN, hlt, by omega, fun H4 p s4 hp hp4 => ?_⟩
      have hfl : (Cd.filter fun i => freeM (Vaskya.rows sh) i Cd (natsOf l)).length ≤ 16 := Nat.le_trans (List.filter_sublist).length_le cl16
      revert q hp4 hfl
      generalize Cd.filter (fun i => freeM (Vaskya.rows sh) i Cd (natsOf l)) = u
      intro q hp4 hfl
      have hul : (nI u).length = u.length := List.length_map ..
      refine ⟨p, nI u, rfl, by rw [← nv_nI]; exact hp4, by omega, fun H5 p5 s5 hp5 e5 => ?_⟩
      have hp35 := s5 _ _ (s4 _ _ (upd_same (H := H2) (a := p3) (o := .lst [V.int (nv Cd).length])))
      refine ⟨p3, p5, _, _, rfl, rfl, hp35, e5, line10 (by simp only [List.length_map, List.length_cons, List.length_nil]; omega), fun p6 hp6 => ?_⟩
      have s16 := s13.trans (s4.trans s5)
      refine q _ p6 (s16.trans (same_upd hp6)) (s16.free hp6) ?_
      rw [upd_same, nv_len, hul]
      rfl
end
end Fm

/-! sorted(set(a list of whole numbers)). -/
namespace Fm
open PySem PySem.Spec PyProof.Rows L2
/-- a set that was just made -/
abbrev setNew (w : World) : Obj := { cls := .type "set", dict := none, data := .set #[] 0 (.fresh 0 0 (!w.params.followText "set-order")) }
section
variable {P : Program} {w : World} {A : Around} {E : Value → Shared → Prop} {s : Shared}
/-- what set.__init__ leaves -/
def SetDone (w : World) (s : Shared) (ns : List Int) (s2 : Shared) : Prop := ∃ (h' : Heap) (tk c : Nat), s2 = { s with heap := h', toks := tk } ∧ SetR w h' s.heap.objs.size (fun j => decide (j ∈ ns)) c ∧ c ≤ ns.length ∧ ∀ b o, s.heap.get? b = some o → h'.get? b = some o
theorem set_init_list {l : Addr} {items : Array Value} (ns : List Int) (hh : A.handled = none) (hl : s.heap.IsList l items) (hi : IntsAre items.toList ns) (hb : ns.length + 1 < scanBound) :
    codeAny (model P w) A (.call (.builtin "set.__init__") ⟨[.ref s.heap.objs.size, .ref l], []⟩) (wants (fun r s2 => r = .none ∧ SetDone w s ns s2) E) { s with heap := s.heap.push (setNew w) } := by
  have hisz : items.size = ns.length := by
    have q := IntsAre.length hi
    rw [Array.length_toList] at q
    exact q
  have gS : (s.heap.push (setNew w)).get? s.heap.objs.size = some (setNew w) := Heap.get?_push_size _ rfl
  have tyS : Shared.TypeIs { s with heap := s.heap.push (setNew w) } (.ref s.heap.objs.size) "set" := ⟨_, gS, rfl⟩
  refine codeAny_call_builtin PySem.F.called_set.init.plain PySem.F.entry_set_init (check_set_init_1 tyS ?_)
  obtain ⟨⟨ocls, odict, odata, oslots⟩, hol, hcl, nl, hdl⟩ := hl
  simp only at hcl hdl
  subst hcl
  subst hdl
  have hol' : (s.heap.push (setNew w)).get? l = some { cls := .type "list", dict := odict, data := .seq items nl, slots := oslots } := Heap.get?_push_of_some _ hol
  have k1 := PySem.F.sub_list_set
  have k2 := PySem.F.sub_list_frozenset
  have k3 : (Value.type "list" == Value.type "dict") = false := by decide
  have hl1 : (s.heap.push (setNew w)).IsList l items := ⟨_, hol', rfl, nl, rfl⟩
  unfold Builtin.«set.__init__» noKeywords Builtin.Frozenset.updateFrom
  generalize hPI : pyIter = PI
  wp_walk
  subst hPI
  refine wpAny_pyIter_list hl1 ?_
  refine wpAny_bind (wpAny_runValue ?_)
  have hlS : l < s.heap.objs.size := Heap.lt_size hol
  have hz1 : (s.heap.push (setNew w)).objs.size = s.heap.objs.size + 1 := Heap.size_push ..
  have nI : l ≠ (s.heap.push (setNew w)).objs.size := by
    rw [hz1]
    exact Nat.ne_of_lt (Nat.lt_succ_of_lt hlS)
  have hSf : s.heap.objs.size ∉ [(s.heap.push (setNew w)).objs.size, l] := by
    rw [hz1, List.mem_cons, List.mem_singleton, not_or]
    exact ⟨Nat.ne_of_lt (Nat.lt_succ_self _), Nat.ne_of_gt hlS⟩
  have hval : ∀ (i : Nat) (v : Value), items[i]? = some v → ∃ k t, ns[i]? = some k ∧ v = .int k t := fun i v hv => by
    have hin : i < ns.length := by
      rw [← hisz]
      exact (Array.getElem?_eq_some_iff.mp hv).1
    obtain ⟨t, e⟩ := IntsAre.int_at hi i v ((Array.getElem?_toList ..).trans hv)
    refine ⟨ns[i], t, List.getElem?_eq_getElem hin, e.trans ?_⟩
    rw [List.getD_eq_getElem?_getD, List.getElem?_eq_getElem hin]
    rfl
  refine set_update_ints (Walks.list (by exact hh) _ l nI items).toS s.heap.objs.size hSf ns hisz hb hval (items.size - 0) 0 _ (by omega) (Nat.zero_le _) ⟨⟨_, Heap.get?_push_size _ rfl, rfl, rfl⟩, hl1.push _⟩ ⟨0, Nat.le_refl 0, setR_new_at (Heap.get?_push_of_some _ gS)⟩ fun s' c' hm hc' hS' => ?_
  obtain ⟨h', g2, d', tk', os'⟩ := s'
  have e1 : g2 = s.gens := hm.gens
  have e2 : d' = s.drawn := hm.drawn
  have e3 : os' = s.os := hm.os
  subst e1
  subst e2
  subst e3
  refine wpAny_pure ?_
  show wpAny _ _ (ret Value.none) _ _ _
  rw [hisz] at hc'
  refine wpAny_pure ⟨rfl, h', tk', c', rfl, hS', hc', fun b o e => ?_⟩
  have hb0 : b < s.heap.objs.size := Heap.lt_size e
  refine hm.heap b o (fun z => ?_) (Heap.get?_push_of_some _ (Heap.get?_push_of_some _ e))
  rcases List.mem_cons.mp z with z | z
  · exact absurd z (Nat.ne_of_lt hb0)
  · rw [List.mem_singleton, hz1] at z
    exact absurd z (Nat.ne_of_lt (Nat.lt_succ_of_lt hb0))
theorem call_set_listI {l : Addr} {items : Array Value} (ns : List Int) {Q : Value → Shared → Prop} (hh : A.handled = none) (hl : s.heap.IsList l items) (hi : IntsAre items.toList ns) (hb : ns.length + 1 < scanBound)
    (h : ∀ (h' : Heap) (tk c : Nat), SetR w h' s.heap.objs.size (fun j => decide (j ∈ ns)) c → c ≤ ns.length → (∀ b o, s.heap.get? b = some o → h'.get? b = some o) → Q (.ref s.heap.objs.size) { s with heap := h', toks := tk }) :
    wpAny (model P w) A (call (.type "set") [.ref l]) Q E s := by
  obtain ⟨c, tl, hmro⟩ := PySem.F.called_set.mro
  have c1 := PySem.F.called_set.made
  have c2 := PySem.F.called_set.sub
  have c3 := PySem.F.called_set.notType
  have c4 := PySem.F.called_set.canCreate
  have c5 := PySem.F.typeCall_set_1 (.ref l)
  refine wpAny_call (codeAny_of_tree ?_)
  show wpAny _ _ (callAny (.type "set") _) _ _ _
  refine wpAny_pure ⟨Code.quiet_builtin _ (by decide +kernel), codeAny_builtin PySem.F.entry_type_call ?_⟩
  rw [Around.under_plain (weight_type_call_type "set" [.ref l] []) rfl]
  repeat (any_goals (first | assumption | wp_step))
  refine codeAny_mono (code_set_led1 (.ref l) (E := E) (Q₁ := fun obj s₁ => obj = .ref s.heap.objs.size ∧ s₁ = { s with heap := s.heap.push (setNew w) }) ⟨rfl, rfl⟩) fun r s₁ hr => ?_
  cases r with
  | error e => exact hr
  | ok fl =>
    cases fl with
    | ret obj =>
      obtain ⟨rfl, rfl⟩ := hr
      have gS : (s.heap.push (setNew w)).get? s.heap.objs.size = some (setNew w) := Heap.get?_push_size _ rfl
      have tyS : Shared.TypeIs { s with heap := s.heap.push (setNew w) } (.ref s.heap.objs.size) "set" := ⟨_, gS, rfl⟩
      have c6 := PySem.F.called_set.init.lookup
      have c7 := PySem.F.called_set.init.bind (.ref s.heap.objs.size)
      repeat (any_goals (first | assumption | wp_step))
      refine codeAny_mono (set_init_list (E := E) ns (by exact hh) hl hi hb) fun r2 s2 hr2 => ?_
      cases r2 with
      | error e => exact hr2
      | ok fl2 =>
        cases fl2 with
        | ret r =>
          obtain ⟨rfl, h', tk, c', rfl, hS', hc', hk'⟩ := hr2
          repeat (any_goals (first | assumption | wp_step))
          exact h _ _ _ hS' hc' hk'
        | _ => exact hr2.elim
    | _ => exact hr.elim
end
end Fm

/-! sorted(set(a list of whole numbers)); zip of three lists. -/
namespace Fm
open PySem PySem.Spec PyProof.Rows L2
section
variable {X : Cx}
/-- set(a list of whole numbers) -/
def rSetL (K : PySem.W.Frag) (w : World) : List V → Hp → VK → Prop := fun xs H Q => ∃ (l : Addr) (ns : List Int), xs = [.ref l] ∧ SqL K H l (ns.map V.int) ∧ ns.length ≤ 1000 ∧ ∀ (p : Addr) (c : Nat), c ≤ ns.length → H p = none → Q (.ref p) (upd H p (SetO w p (fun j => decide (j ∈ ns)) c))
theorem cr_setL (hc : X.calm = true) : CallR X (.type "set") (rSetL X.K X.w) := by
  intro pins s σ H xs us Q I r h
  obtain ⟨l, ns, rfl, hs, hz, q⟩ := h
  obtain ⟨its, rv, hpl, _⟩ := I.list hs
  rw [Vals.ref1 r]
  refine call_set_listI ns (I.ok.hd hc) hpl.isList (by simpa using rv.ints) (by unfold scanBound; omega) fun h' tk c hS hc' hk => ?_
  exact ⟨.ref _, upd H s.heap.objs.size (SetO X.w s.heap.objs.size (fun j => decide (j ∈ ns)) c), I.laid (t' := tk) hk (Nat.le_refl _) (setO_new hS), rfl, q _ c hc' (I.hok.fresh (Nat.le_refl _))⟩
end
/-- the lists at a, b and c as they stand at each turn, the items in new triples -/
def Itz3 (K : PySem.W.Frag) (a b c : Addr) : It :=
  ⟨fun i H => ∃ (xs ys zs : List V), SqL K H a xs ∧ SqL K H b ys ∧ SqL K H c zs ∧ i < xs.length ∧ i < ys.length ∧ i < zs.length,
    fun i H v H' => ∃ T x y z, v = .ref T ∧ H T = none ∧ H' = upd H T (.tup [x, y, z]) ∧ (∀ xs, SqL K H a xs → xs[i]? = some x) ∧ (∀ ys, SqL K H b ys → ys[i]? = some y) ∧ ∀ zs, SqL K H c zs → zs[i]? = some z,
    fun i H => ∃ xs ys zs : List V, SqL K H a xs ∧ SqL K H b ys ∧ SqL K H c zs ∧ i = xs.length ∧ ys.length = xs.length ∧ zs.length = xs.length⟩
/-- the cells of zip(a, b, c), from N on -/
abbrev cells3 (N : Nat) : List Addr := [N + 5, N + 3, N + 4, N, N + 1, N + 2]
def St3 (N : Nat) (a b c : Addr) (i : Nat) (h : Heap) : Prop := IsZip h (N + 5) (N + 3) (N + 4) .none ∧ IsTupOf3 h (N + 3) (.ref N) (.ref (N + 1)) (.ref (N + 2)) ∧ (∃ a1 a2 a3, IsTupOf3 h (N + 4) a1 a2 a3) ∧ h.IsListIter N a i ∧ h.IsListIter (N + 1) b i ∧ h.IsListIter (N + 2) c i
theorem St3.keep {N : Nat} {a b c : Addr} {i : Nat} {h h' : Heap} (st : St3 N a b c i h) (k : ∀ d ∈ cells3 N, ∀ o, h.get? d = some o → h'.get? d = some o) : St3 N a b c i h' := by
  obtain ⟨h1, h2, ⟨x, y, z, h3⟩, h4, h5, h6⟩ := st
  exact ⟨k _ (by simp) _ h1, k _ (by simp) _ h2, ⟨x, y, z, k _ (by simp) _ h3⟩, h4.at fun o q => k _ (by simp) o q, h5.at fun o q => k _ (by simp) o q, h6.at fun o q => k _ (by simp) o q⟩
section
variable {P : Program} {w : World} {A : Around} {elts : List Expr} {kk : Nat} {tpos : Pos} {N : Nat} {a b c : Addr} {us vs ws : List Value}
/-- it goes over the lists as they are now -/
theorem goes3 (hh : A.handled = none) (ha : a < N) (hb : b < N) (hc : c < N) :
    GoesN P w A (.Tuple elts kk tpos) (N + 5) ((N + 5) :: (N + 3) :: (N + 4) :: ([N, a] ++ [N + 1, b] ++ [N + 2, c])) [N + 5, N + 4, N, N + 1, N + 2] (min (min us.toArray.size vs.toArray.size) ws.toArray.size)
      (fun i h0 v h => ∃ T x y u, v = .ref T ∧ h0.objs.size ≤ T ∧ us.toArray[i]? = some x ∧ vs.toArray[i]? = some y ∧ ws.toArray[i]? = some u ∧ h.IsTuple T #[x, y, u])
      (fun i h => IsZip h (N + 5) (N + 3) (N + 4) .none ∧ IsTupOf3 h (N + 3) (.ref N) (.ref (N + 1)) (.ref (N + 2)) ∧ (∃ a1 a2 a3, IsTupOf3 h (N + 4) a1 a2 a3) ∧ (h.IsListIter N a i ∧ h.IsList a us.toArray) ∧ (h.IsListIter (N + 1) b i ∧ h.IsList b vs.toArray) ∧ (h.IsListIter (N + 2) c i ∧ h.IsList c ws.toArray)) :=
  GoesN.zip3 (zip_sep3 (N := N) (fp1 := [a]) (fp2 := [b]) (fp3 := [c]) (fun d hd => by rw [List.mem_singleton.mp hd]; exact ha) (fun d hd => by rw [List.mem_singleton.mp hd]; exact hb) (fun d hd => by rw [List.mem_singleton.mp hd]; exact hc))
    (Draws.list (A := A.in1) hh N a (Nat.ne_of_lt ha) us.toArray) (Draws.list (A := A.in1) hh (N + 1) b (Nat.ne_of_lt (Nat.lt_succ_of_lt hb)) vs.toArray) (Draws.list (A := A.in1) hh (N + 2) c (Nat.ne_of_lt (Nat.lt_succ_of_lt (Nat.lt_succ_of_lt hc))) ws.toArray)
theorem turn_zip3 {K : PySem.W.Frag} (ha : a < N) (hb : b < N) (hc : c < N) : Turn P w K (.Tuple elts kk tpos) (Itz3 K a b c) (cells3 N) (N + 5) (St3 N a b c) where
  mem := by simp
  obj := fun i h st d hd => by
    obtain ⟨h1, h2, ⟨x, y, z, h3⟩, ⟨o1, e1, _, d1⟩, ⟨o2, e2, _, d2⟩, ⟨o3, e3, _, d3⟩⟩ := st
    simp only [List.mem_cons, List.not_mem_nil, or_false] at hd
    rcases hd with rfl | rfl | rfl | rfl | rfl | rfl
    · exact ⟨_, h1, fun v q => nomatch q⟩
    · exact ⟨_, h2, fun v q => nomatch q⟩
    · exact ⟨_, h3, fun v q => nomatch q⟩
    · exact ⟨o1, e1, fun v q => by rw [d1] at q; cases q⟩
    · exact ⟨o2, e2, fun v q => by rw [d2] at q; cases q⟩
    · exact ⟨o3, e3, fun v q => by rw [d3] at q; cases q⟩
  keep := fun i h h' st k => st.keep k
  item := by
    intro X hP hw hK hcalm i pins s σ H E I hf st hg
    subst hP hw hK
    obtain ⟨h1, h2, h3, h4, h5, h6⟩ := st
    obtain ⟨xs, ys, zs, q1, q2, q3, l1, l2, l3⟩ := hg
    obtain ⟨us, rv1, p1, _⟩ := I.list q1
    obtain ⟨vs, rv2, p2, _⟩ := I.list q2
    obtain ⟨ws, rv3, p3, _⟩ := I.list q3
    have n1 := rv1.length
    have n2 := rv2.length
    have n3 := rv3.length
    have hi : i < min (min us.toArray.size vs.toArray.size) ws.toArray.size := by
      rw [List.size_toArray, List.size_toArray, List.size_toArray]
      omega
    refine (goes3 (elts := elts) (kk := kk) (tpos := tpos) (us := us) (vs := vs) (ws := ws) (I.ok.hd hcalm) ha hb hc).goes i s _ E hi ⟨h1, h2, h3, ⟨h4, p1.isList⟩, ⟨h5, p2.isList⟩, ⟨h6, p3.isList⟩⟩ fun v h' tk hY st' hk _ => ?_
    obtain ⟨T, u1, u2, u3, rfl, hnew, g1, g2, g3, o, hT, hcl, n, hd⟩ := hY
    obtain ⟨k1, k2, k3, ⟨k4, _⟩, ⟨k5, _⟩, ⟨k6, _⟩⟩ := st'
    have m1 := List.getElem?_eq_getElem (show i < xs.length by omega)
    have m2 := List.getElem?_eq_getElem (show i < ys.length by omega)
    have m3 := List.getElem?_eq_getElem (show i < zs.length by omega)
    obtain ⟨v1, w1, r1⟩ := rv1.get m1
    obtain ⟨v2, w2, r2⟩ := rv2.get m2
    obtain ⟨v3, w3, r3⟩ := rv3.get m3
    have g1 : us[i]? = some u1 := by simpa using g1
    have g2 : vs[i]? = some u2 := by simpa using g2
    have g3 : ws[i]? = some u3 := by simpa using g3
    rw [w1] at g1
    rw [w2] at g2
    rw [w3] at g3
    cases g1
    cases g2
    cases g3
    have sub : ∀ d ∈ [N + 5, N + 4, N, N + 1, N + 2], d ∈ cells3 N := fun d hd => by
      simp only [List.mem_cons, List.not_mem_nil, or_false] at hd ⊢
      rcases hd with rfl | rfl | rfl | rfl | rfl <;> simp
    have new : ObjOk X.prog X.w (upd H T (.tup [xs[i], ys[i], zs[i]])) h' T (.tup [xs[i], ys[i], zs[i]]) := ⟨by show 3 ≤ sizeLine; decide, [u1, u2, u3], .cons r1 (.cons r2 (.cons r3 .nil)), ⟨o, hT, hcl, n, hd⟩⟩
    have J := I.turnedNew (t' := tk) hk (fun d hd => hf d (sub d hd)) hnew new
    have hTn : H T = none := I.hok.fresh hnew
    refine ⟨.ref T, _, J, rfl, ⟨T, xs[i], ys[i], zs[i], rfl, hTn, rfl, fun l hl => by rw [I.list_inj hl q1]; exact m1, fun l hl => by rw [I.list_inj hl q2]; exact m2, fun l hl => by rw [I.list_inj hl q3]; exact m3⟩, ⟨k1, k2, k3, k4, k5, k6⟩, fun d hd => ?_⟩
    have dT : d ≠ T := fun z => by
      have hlt : d < s.heap.objs.size := by
        obtain ⟨x, y, z, h3⟩ := h3
        obtain ⟨o1, e1, _⟩ := h4
        obtain ⟨o2, e2, _⟩ := h5
        obtain ⟨o3, e3, _⟩ := h6
        simp only [List.mem_cons, List.not_mem_nil, or_false] at hd
        rcases hd with rfl | rfl | rfl | rfl | rfl | rfl
        · exact Heap.lt_size h1
        · exact Heap.lt_size h2
        · exact Heap.lt_size h3
        · exact Heap.lt_size e1
        · exact Heap.lt_size e2
        · exact Heap.lt_size e3
      rw [z] at hlt
      exact absurd (Nat.lt_of_lt_of_le hlt hnew) (Nat.lt_irrefl _)
    rw [upd_ne dT]
    exact (hf d hd).1
  done := by
    intro X hP hw hK hcalm i pins s σ H E I hf st hg
    subst hP hw hK
    obtain ⟨h1, h2, h3, h4, h5, h6⟩ := st
    obtain ⟨xs, ys, zs, q1, q2, q3, l1, l2, l3⟩ := hg
    obtain ⟨us, rv1, p1, _⟩ := I.list q1
    obtain ⟨vs, rv2, p2, _⟩ := I.list q2
    obtain ⟨ws, rv3, p3, _⟩ := I.list q3
    have n1 := rv1.length
    have n2 := rv2.length
    have n3 := rv3.length
    have hi : i = min (min us.toArray.size vs.toArray.size) ws.toArray.size := by
      rw [List.size_toArray, List.size_toArray, List.size_toArray]
      omega
    have sub : ∀ d ∈ [N + 5, N + 4, N, N + 1, N + 2], d ∈ cells3 N := fun d hd => by
      simp only [List.mem_cons, List.not_mem_nil, or_false] at hd ⊢
      rcases hd with rfl | rfl | rfl | rfl | rfl <;> simp
    subst hi
    exact (goes3 (elts := elts) (kk := kk) (tpos := tpos) (us := us) (vs := vs) (ws := ws) (I.ok.hd hcalm) ha hb hc).stops s _ E ⟨h1, h2, h3, ⟨h4, p1.isList⟩, ⟨h5, p2.isList⟩, ⟨h6, p3.isList⟩⟩ fun h' tk hk _ => I.turnedL hk fun d hd => hf d (sub d hd)
  self := fun A i s Q E st h => wpAny_pyIter_zip st.1 h
end
def iZip3 (K : PySem.W.Frag) (ta : TA) : TI := fun σ H R => ta σ H fun vs H1 => ∃ (a b c : Addr) (xs ys zs : List V), vs = [.ref a, .ref b, .ref c] ∧ SqL K H1 a xs ∧ SqL K H1 b ys ∧ SqL K H1 c zs ∧ R (Itz3 K a b c) H1
theorem pi_zip3 {X : Cx} {e e2 e3 : Expr} {ta : TA} {p pos tpos : Pos} {elts : List Expr} {kk : Nat} (hg : Gl X "zip") (hm : X.mg "zip" = none) (ha : PA X [e, e2, e3] ta)
    (hs : starEach [e, e2, e3] X.env = (false, eval e X.env) :: starEach [e2, e3] X.env := by rfl) (hpl : (backTo pos (starEach [e2, e3] X.env)).any (·.1) = false := by rfl) :
    PI X (.Tuple elts kk tpos) (.Call (.Name "zip" p) [e, e2, e3] [] pos) (iZip3 X.K ta) := by
  refine ⟨fun pins s σ H R I h => ?_⟩
  refine Call_ (ld_blt I hg hm PyProof.Rows.boot_zip (PyProof.Rows.callWith_type1 (thn (ha.run pos pins s σ H _ I h) fun us s1 ⟨vs, H1, I1, r1, q1⟩ => ?_) hs hpl))
  obtain ⟨a, b, c, xs, ys, zs, rfl, q1, q2, q3, q⟩ := q1
  cases r1 with
  | cons ra rr =>
    cases rr with
    | cons rb rr =>
      cases rr with
      | cons rc rr =>
        cases rr
        cases ra
        cases rb
        cases rc
        obtain ⟨us, rv1, p1, _⟩ := I1.list q1
        obtain ⟨vs, rv2, p2, _⟩ := I1.list q2
        obtain ⟨ws, rv3, p3, _⟩ := I1.list q3
        refine zip_begins3 (begins_list a us.toArray) (begins_list b vs.toArray) (begins_list c ws.toArray) p1.isList p2.isList p3.isList fun h' k1 k2 k3 k4 k5 k6 hsz hk => wpAny_pyIter_zip k1 ?_
        have I2 : Inv X pins σ H1 { s1 with heap := h' } := I1.kept (t' := s1.toks) hk
        refine ⟨s1.heap.objs.size + 5, cells3 s1.heap.objs.size, _, _, H1, rfl, I2, turn_zip3 p1.lt p2.lt p3.lt, ⟨k1, k2, ⟨_, _, _, k3⟩, ⟨_, k4, rfl, rfl⟩, ⟨_, k5, rfl, rfl⟩, ⟨_, k6, rfl, rfl⟩⟩, fun d hd => ?_, q⟩
        have hle : s1.heap.objs.size ≤ d := by
          simp only [List.mem_cons, List.not_mem_nil, or_false] at hd
          rcases hd with rfl | rfl | rfl | rfl | rfl | rfl
          · exact Nat.le_add_right _ _
          · exact Nat.le_add_right _ _
          · exact Nat.le_add_right _ _
          · exact Nat.le_refl _
          · exact Nat.le_add_right _ _
          · exact Nat.le_add_right _ _
        exact I1.fpOk hle (I1.hok.fresh hle)
theorem walk_zip3 {K : PySem.W.Frag} {a b c : Addr} {xs ys zs : List V} (l1 : ys.length = xs.length) (l2 : zs.length = xs.length) :
    Walk (Itz3 K a b c) xs.length (fun H => SqL K H a xs ∧ SqL K H b ys ∧ SqL K H c zs) (fun i H v H' => ∃ T x y z, v = .ref T ∧ H T = none ∧ H' = upd H T (.tup [x, y, z]) ∧ xs[i]? = some x ∧ ys[i]? = some y ∧ zs[i]? = some z) :=
  ⟨fun i _ hi q => ⟨xs, ys, zs, q.1, q.2.1, q.2.2, hi, by omega, by omega⟩, fun _ q => ⟨xs, ys, zs, q.1, q.2.1, q.2.2, rfl, l1, l2⟩, fun i H v H' _ q y => by
    obtain ⟨T, x, y, z, h1, h2, h3, h4, h5, h6⟩ := y
    exact ⟨T, x, y, z, h1, h2, h3, h4 xs q.1, h5 ys q.2.1, h6 zs q.2.2⟩⟩
end Fm

/-! is_between, bounds. -/
namespace Fm
open PySem PySem.Spec PyProof.Rows L2
open Vaskya (Measure Item Sheet)
abbrev sBetween : Stmt := top 82
abbrev sBounds : Stmt := top 83
def inB (t : Int × Int × Int) : Bool := decide (t.2.1 ≤ t.1 ∧ t.1 ≤ t.2.2)
def betweenM (v lo hi : List Int) : Bool := (v.zip (lo.zip hi)).all inB
theorem inB_is (a b c : Int) : inB (a, b, c) = (decide (b ≤ a) && decide (a ≤ c)) := by
  unfold inB
  rw [Bool.eq_iff_iff, Bool.and_eq_true_iff, decide_eq_true_iff, decide_eq_true_iff, decide_eq_true_iff]
theorem zip3_at {v lo hi : List Int} (h1 : lo.length = v.length) (h2 : hi.length = v.length) {i : Nat} (hi' : i < v.length) : (v.zip (lo.zip hi)).getD i (0, 0, 0) = (v.getD i 0, lo.getD i 0, hi.getD i 0) := by
  have e1 := List.getElem?_eq_getElem hi'
  have e2 := List.getElem?_eq_getElem (show i < lo.length by omega)
  have e3 := List.getElem?_eq_getElem (show i < hi.length by omega)
  rw [getD_of e1, getD_of e2, getD_of e3]
  refine getD_of ?_
  rw [List.getElem?_zip_eq_some, List.getElem?_zip_eq_some]
  exact ⟨e1, e2, e3⟩
theorem between_range {v lo hi : List Int} (h1 : lo.length = v.length) (h2 : hi.length = v.length) : ((List.range v.length).map fun i => decide (lo.getD i 0 ≤ v.getD i 0) && decide (v.getD i 0 ≤ hi.getD i 0)).all id = betweenM v lo hi := by
  have hl : (v.zip (lo.zip hi)).length = v.length := by
    rw [List.length_zip, List.length_zip]
    omega
  unfold betweenM
  rw [← all_range (v.zip (lo.zip hi)) (0, 0, 0) inB, hl]
  congr 1
  refine List.map_congr_left fun i hi' => ?_
  rw [zip3_at h1 h2 (List.mem_range.mp hi'), inB_is]
def spBetween (K : PySem.W.Frag) : Sp := fun vs H Q _ => ∃ (r a b : Addr) (v lo hi : List Int), vs = [.ref r, .ref a, .ref b] ∧ SqL K H r (v.map V.int) ∧ SqL K H a (lo.map V.int) ∧ SqL K H b (hi.map V.int) ∧ lo.length = v.length ∧ hi.length = v.length ∧ v.length ≤ 1000 ∧
  ∀ H', Same H H' → Q (.bl (betweenM v lo hi)) H'
section
variable {P : Program} {w : World} {K : PySem.W.Frag} {mg : Str → Option Value} {base : Heap}
theorem scBetween : FnScope ["row", "low", "high", "value", "lowest", "highest"] ["row", "low", "high"] (defScope sBetween) := ⟨rfl, rfl, rfl, by decide +kernel, rfl, by decide +kernel, by decide +kernel⟩
theorem ok_between (D : DefT K mg "is_between" sBetween ["row", "low", "high"]) (ga : mg "all" = none) (gz : mg "zip" = none) : FnOk P w K mg base CX0 1 D.f D.fd ["row", "low", "high"] (spBetween K) := by
  refine D.F.ok scBetween (fun vs H Q E h => ?_) (fun cdv A_ outer s H vs Q E hr h => ?_)
  · obtain ⟨r, a, b, v, lo, hi, rfl, _⟩ := h
    rfl
  · obtain ⟨r, a, b, v, lo, hi, rfl, hr0, ha, hb, l1, l2, hz, q⟩ := h
    refine ⟨_, pss_one (ps_ret (pe_callB (cr_all rfl) (by rfl) ga (by decide +kernel) (pa_cons (pe_lc (own := [("value", 3), ("lowest", 4), ("highest", 5)]) (g := gTup K 3 (gCons (gName 3) (gCons (gName 4) (gCons (gName 5) gNil)))) rfl scBetween.nd (pi_zip3 (by rfl) gz (pa_cons (pv 0) (pa_cons (pv 1) (pa_cons (pv 2) pa_nil))))
        (blkOk_by (own := [("value", 3), ("lowest", 4), ("highest", 5)]) (N := ["row", "low", "high", "value", "lowest", "highest"]) (sc := defScope sBetween) (by decide +kernel))
        (fun _ _ _ _ _ => pg_tup rfl (pgs_cons (pg_name (i := 3) scBetween.nd rfl (Or.inl rfl)) (pgs_cons (pg_name (i := 4) scBetween.nd rfl (Or.inl rfl)) (pgs_cons (pg_name (i := 5) scBetween.nd rfl (Or.inl rfl)) pgs_nil)))) (fun _ _ _ _ _ => pts_nil)
        (fun _ _ _ _ _ => pe_chain op_le op_le (pv 4) (pv 3) (pv 5))) pa_nil))), ?_⟩
    refine ⟨_, rfl, _, rfl, _, rfl, r, a, b, _, _, _, rfl, hr0, ha, hb, fun D1 hD1 => ?_⟩
    refine lc_fun (walk_zip3 (xs := v.map V.int) (ys := lo.map V.int) (zs := hi.map V.int) (by rw [List.length_map, List.length_map]; exact l1) (by rw [List.length_map, List.length_map]; exact l2)) (fun t => V.bl (decide (lo.getD t 0 ≤ v.getD t 0) && decide (v.getD t 0 ≤ hi.getD t 0))) hD1 (by rw [List.length_map]; omega) (fun H' sm => ⟨sm.seq hr0, sm.seq ha, sm.seq hb⟩) ?_ ?_
    · rintro t y H' H2 G ht sm hne ⟨T, x1, x2, x3, rfl, hT, rfl, e1, e2, e3⟩ hg
      rw [List.length_map] at ht
      have f1 := List.getElem?_eq_getElem ht
      have f2 := List.getElem?_eq_getElem (show t < lo.length by omega)
      have f3 := List.getElem?_eq_getElem (show t < hi.length by omega)
      rw [List.getElem?_map, f1] at e1
      rw [List.getElem?_map, f2] at e2
      rw [List.getElem?_map, f3] at e3
      cases Option.some.inj e1
      cases Option.some.inj e2
      cases Option.some.inj e3
      have sT := same_upd (o := .tup [V.int v[t], V.int lo[t], V.int hi[t]]) hT
      have hq := hg _ sT
      rw [getD_of f1, getD_of f2, getD_of f3] at hq
      refine ⟨T, _, rfl, SqT.of upd_same, rfl, _, _, rfl, _, _, rfl, _, _, rfl, rfl, rfl, ?_⟩
      refine ⟨_, rfl, _, rfl, _, _, rfl, rfl, _, rfl, ?_⟩
      refine ite2 (fun c => ?_) (fun c => ?_)
      · rw [c, Bool.true_and] at hq
        exact ⟨_, rfl, _, _, rfl, rfl, hq⟩
      · rw [eq_false_of_ne_true c, Bool.false_and] at hq
        exact hq
    · intro H2 sm2 hD2
      rw [List.length_map, bl_map] at hD2
      refine ⟨D1, _, rfl, SqL.of hD2, ?_⟩
      rw [between_range l1 l2]
      exact q H2 sm2

/-! ### bounds -/
def insideM (s : Sheet) (lo hi : List Int) : List Nat := (everyone s).filter fun i => betweenM ((s.items.map (·.vs)).getD i []) lo hi
def freeIn (s : Sheet) (A : List Nat) : List Nat := A.filter fun i => freeM (Vaskya.rows s) i A (List.range s.ms.length)
def boundsM (s : Sheet) (lo hi : List Int) : List Int := if lo.length = s.ms.length ∧ hi.length = s.ms.length then
  (((insideM s lo hi).length : Nat) : Int) :: ((((freeIn s (insideM s lo hi)).length : Nat) : Int) :: nI (freeIn s (insideM s lo hi))) else [-4]
theorem HeldAt.vals {C : Addr} {H : Hp} {x : HA} {s : Sheet} (h : HeldAt C H x s) : ∃ vr, H x.rs = some (.lst vr) ∧ RL H vr (s.items.map (·.vs)) := by
  obtain ⟨_, _, _, vm, vn, vr, vg, e1, r1, e2, r2, e3, r3, e4, r4, no⟩ := h
  exact ⟨vr, e3, r3⟩
theorem all_lt (s : Sheet) : ∀ j ∈ everyone s, j < (Vaskya.rows s).length := fun j hj => by
  rw [rows_len]
  exact List.mem_range.mp hj
theorem free_len {s : Sheet} (A : List Nat) : (freeIn s A).length ≤ A.length := (List.filter_sublist).length_le
def spBounds (K : PySem.W.Frag) (CH : Addr) : Sp := fun vs H Q _ => ∃ (x : HA) (s : Sheet) (a b : Addr) (lo hi : List Int), vs = [.ref x.a, .ref a, .ref b] ∧ HeldAt CH H x s ∧ SheetOk s ∧ SqL K H a (lo.map V.int) ∧ SqL K H b (hi.map V.int) ∧
  ∀ H' p, Same H H' → H p = none → H' p = some (.lst ((boundsM s lo hi).map V.int)) → Q (.ref p) H'
theorem scBounds : FnScope ["held", "low", "high", "measures", "within", "item", "row"] ["held", "low", "high"] (defScope sBounds) := ⟨rfl, rfl, rfl, by decide +kernel, rfl, by decide +kernel, by decide +kernel⟩
theorem ok_bounds {CH : Addr} (D : DefT K mg "bounds" sBounds ["held", "low", "high"]) (cH : Cls K CH) (NH : HeldT K CH) (MM : MethT K CH "every_measure" "HeldList.every_measure" sEveryM ["self"]) (FE : DefT K mg "is_between" sBetween ["row", "low", "high"])
    (FC : DefT K mg "counted" sCounted ["numbers"]) (FN : DefT K mg "unbeaten" sUnbeaten ["gains", "among", "chosen"]) (FU : DefT K mg "is_unbeaten" sIsUnbeaten ["gains", "item", "among", "chosen"]) (FB : DefT K mg "beats" sBeats ["gains", "one", "other", "chosen"])
    (gl : mg "len" = none) (gr : mg "range" = none) (gi : mg "list" = none) (ga : mg "any" = none) (gb : mg "all" = none) (gz : mg "zip" = none) (ge : mg "enumerate" = none) (gN : GI mg "NO_FIT" (-4)) : FnOk P w K mg base CX0 4 D.f D.fd ["held", "low", "high"] (spBounds K CH) := by
  refine D.F.ok scBounds (fun vs H Q E h => ?_) (fun cdv A_ outer s H vs Q E hr h => ?_)
  · obtain ⟨x, s, a, b, lo, hi, rfl, _⟩ := h
    rfl
  · obtain ⟨x, sh, a, b, lo, hi, rfl, hH, ok, ha, hb, q⟩ := h
    have hr1 : Room 1 _ := hr.mono (by decide)
    refine ⟨_, pss_cons (ps_set (i := 3) scBounds.nd rfl (Or.inl rfl) (pe_meth0 (pv 0) cH MM.m (ok_everyM MM cH NH gl gr gi) hr1 MM.b .nil pass0))
      (pss_cons (ps_if (PW.pt (pw_or (pt_cmpR op_ne (pe_callB call_len_seq (by rfl) gl PySem.boot_len (pa_cons (pv 1) pa_nil)) (pe_callB call_len_seq (by rfl) gl PySem.boot_len (pa_cons (pv 3) pa_nil)) (nomark _))
          (pw_or1 (pt_cmpR op_ne (pe_callB call_len_seq (by rfl) gl PySem.boot_len (pa_cons (pv 2) pa_nil)) (pe_callB call_len_seq (by rfl) gl PySem.boot_len (pa_cons (pv 3) pa_nil)) (nomark _)))))
        (pss_one (ps_ret (pe_lst (pa_cons (pe_gi gN) pa_nil)))) pss_nil)
      (pss_cons (ps_setLc (i := 4) (own := [("item", 5), ("row", 6)]) (g := gTup K 2 (gCons (gName 5) (gCons (gName 6) gNil))) (wi := iEnum K (tCons (tFld K (tVar 0) "rows") tNil)) (tt := tB (tCall (spBetween K) [] E0 (tCons (tVar 6) (tCons (tVar 1) (tCons (tVar 2) tNil))))) (te := tVar 5)
        rfl scBounds.nd rfl rfl (sw_true rfl rfl rfl (by decide +kernel)) (pi_enum (by rfl) ge (pa_cons (pe_fld (pv 0) rfl) pa_nil))
        (blkOk_by (own := [("item", 5), ("row", 6)]) (N := ["held", "low", "high", "measures", "within", "item", "row"]) (sc := defScope sBounds) (by decide +kernel))
        (fun _ _ _ _ _ => pg_tup rfl (pgs_cons (pg_name (i := 5) scBounds.nd rfl (Or.inl rfl)) (pgs_cons (pg_name (i := 6) scBounds.nd rfl (Or.inl rfl)) pgs_nil)))
        (fun _ _ _ _ _ => pts_one (pt_val (pe_def FE (ok_between FE gb gz) hr1 (pa_cons (pv 6) (pa_cons (pv 1) (pa_cons (pv 2) pa_nil)))))) (fun _ _ _ _ _ => pv 5))
      (pss_one (ps_ret (pe_op op_cat (pe_lst (pa_cons (pe_callB call_len_seq (by rfl) gl PySem.boot_len (pa_cons (pv 4) pa_nil)) pa_nil))
        (pe_def FC (ok_counted FC gl) hr1 (pa_cons (pe_def FN (ok_unbeaten FN FU FB ga) hr (pa_cons (pe_fld (pv 0) rfl) (pa_cons (pv 4) (pa_cons (pv 3) pa_nil)))) pa_nil))))))), ?_⟩
    obtain ⟨⟨dx, h1⟩, _⟩ := id hH
    have h16 := ok.i16
    have m4 := ok.m4
    refine ⟨_, rfl, x.a, dx, _, rfl, h1, hF_everyM x, ?_⟩
    dsimp only [tNil]
    refine ⟨x, sh, rfl, hH, ok, fun e he => ?_⟩
    have se := same_upd (o := .lst (nv (List.range sh.ms.length))) he
    have hE : upd H e (.lst (nv (List.range sh.ms.length))) e = some (.lst (nv (List.range sh.ms.length))) := upd_same
    revert se hE
    generalize upd H e (.lst (nv (List.range sh.ms.length))) = H1
    intro se hE
    have en : (nv (List.range sh.ms.length)).length = sh.ms.length := by rw [nv_len, List.length_range]
    have d0 : ∀ i j : Nat, (!decide (V.int (i : Nat) = V.int (j : Nat))) = !decide (i = j) := fun i j => by
      congr 1
      refine decide_eq_decide.mpr ⟨fun z => ?_, fun z => by rw [z]⟩
      have := V.int.inj z
      omega
    refine if_v ((!decide (lo.length = sh.ms.length)) || !decide (hi.length = sh.ms.length)) (fun G g => ?_) (fun c => ?_) (fun c => ?_)
    · refine ⟨_, rfl, a, _, rfl, .inl (se.seq ha), _, rfl, e, _, rfl, .inl (SqL.of hE), rfl, _, rfl, ?_⟩
      rw [List.length_map, en, d0]
      refine ite2 (fun c => ?_) (fun c => ?_)
      · rw [c, Bool.true_or] at g
        exact g
      · rw [eq_false_of_ne_true c, Bool.false_or] at g
        refine ⟨_, rfl, b, _, rfl, .inl (se.seq hb), _, rfl, e, _, rfl, .inl (SqL.of hE), rfl, _, rfl, ?_⟩
        rw [List.length_map, en, d0]
        exact g
    · refine ⟨(by show 1 ≤ sizeLine; decide), fun p hp => ?_⟩
      refine q _ p (se.trans (same_upd hp)) (se.free hp) ?_
      rw [upd_same]
      unfold boundsM
      rw [if_neg]
      · rfl
      · rintro ⟨z1, z2⟩
        rw [z1, z2] at c
        simp at c
    · have hc := Bool.or_eq_false_iff.mp c
      have c1 : lo.length = sh.ms.length := by simpa using hc.1
      have c2 : hi.length = sh.ms.length := by simpa using hc.2
      have hans : boundsM sh lo hi = (((insideM sh lo hi).length : Nat) : Int) :: ((((freeIn sh (insideM sh lo hi)).length : Nat) : Int) :: nI (freeIn sh (insideM sh lo hi))) := if_pos ⟨c1, c2⟩
      rw [hans] at q
      obtain ⟨vr, hvr, hRr⟩ := hH.vals
      have lr := hRr.len
      rw [List.length_map] at lr
      refine ⟨_, rfl, x.a, CH, dx, _, _, rfl, se _ _ h1, cH, NH.nR, hF_rs x, x.rs, vr, rfl, SqL.of (se _ _ hvr), fun D1 hD1 => ?_⟩
      refine lc_keep walk_enum (fun i => betweenM ((sh.items.map (·.vs)).getD i []) lo hi) (fun i => V.int (i : Nat)) hD1 (by omega) (fun H' sm => sm.seq (SqL.of (se _ _ hvr))) ?_ ?_
      · rintro i y H' H3 G N hi' sm hne ⟨T, y1, y2, rfl, hT, rfl, e1, e2⟩ hg hno
        have hi2 : i < sh.items.length := by omega
        have hit := List.getElem?_eq_getElem (show i < (sh.items.map (·.vs)).length by rw [List.length_map]; exact hi2)
        obtain ⟨bk, hk1, hk2⟩ := hRr.get hit
        replace e2 : vr[i]? = some y2 := e2
        rw [hk1] at e2
        cases Option.some.inj e2
        cases Option.some.inj e1
        rw [getD_of hit] at hg hno
        have hw : ∀ v ∈ sh.items.map (fun z : Item => z.vs), v.length = sh.ms.length := fun v hv => by
          obtain ⟨z, hz, rfl⟩ := List.mem_map.mp hv
          exact ok.wide z hz
        replace hw := hw _ (List.mem_of_getElem? hit)
        revert hno hg hk2 hw
        generalize (sh.items.map (fun z : Item => z.vs))[i]'(by rw [List.length_map]; exact hi2) = v
        intro hno hg hk2 hw
        have sT := same_upd (o := .tup [V.int (i : Nat), V.ref bk]) hT
        have s9 := se.trans (sm.trans sT)
        refine ⟨T, _, rfl, SqT.of upd_same, rfl, _, _, rfl, _, _, rfl, rfl, rfl, ?_⟩
        refine ⟨_, rfl, _, rfl, _, rfl, bk, a, b, v, lo, hi, rfl, SqL.of (s9 _ _ hk2), s9.seq ha, s9.seq hb, by omega, by omega, by omega, fun H4 s4 => ⟨_, rfl, ?_⟩⟩
        cases z : betweenM v lo hi with
        | true => exact iteT ⟨_, rfl, hg z H4 (sT.trans s4)⟩
        | false => exact iteF (hno z H4 (sT.trans s4))
      · intro H2 s2 hD2
        have e9 : ((List.range vr.length).filter fun i => betweenM ((sh.items.map (·.vs)).getD i []) lo hi).map (fun i => V.int (i : Nat)) = nv (insideM sh lo hi) := by
          rw [lr]
          rfl
        rw [e9] at hD2
        have hlt2 : ∀ j ∈ insideM sh lo hi, j < (Vaskya.rows sh).length := fun j hj => all_lt sh j (List.mem_filter.mp hj).1
        have cl16 : (insideM sh lo hi).length ≤ 16 := by
          have a1 : (insideM sh lo hi).length ≤ (everyone sh).length := (List.filter_sublist).length_le
          have a2 : (everyone sh).length = sh.items.length := List.length_range
          omega
        have s12 := se.trans s2
        revert q hD2 hlt2 cl16
        generalize insideM sh lo hi = I
        intro q hD2 hlt2 cl16
        refine ⟨_, rfl, D1, _, rfl, .inl (SqL.of hD2), (by show 1 ≤ sizeLine; decide), fun p3 hp3 => ?_⟩
        have s3 := same_upd (o := .lst [V.int (nv I).length]) hp3
        have s13 := s12.trans s3
        refine ⟨_, rfl, x.a, CH, dx, _, _, rfl, s13 _ _ h1, cH, NH.nG, hF_gs x, _, rfl, _, rfl, x.gs, D1, e, Vaskya.rows sh, sh.ms.length, I, List.range sh.ms.length, rfl, (hH.gains).same s13, rows_wide ok, SqL.of (s3 _ _ hD2),
          hlt2, by omega, SqL.of ((s2.trans s3) _ _ hE), (fun m hm => List.mem_range.mp hm), by rw [List.length_range]; omega, fun H4 p s4 hp hp4 => ?_⟩
        have hfl : (freeIn sh I).length ≤ 16 := Nat.le_trans (free_len I) cl16
        change H4 p = some (.lst (nv (freeIn sh I))) at hp4
        revert q hp4 hfl
        generalize freeIn sh I = u
        intro q hfl hp4
        have hul : (nI u).length = u.length := List.length_map ..
        refine ⟨p, nI u, rfl, by rw [← nv_nI]; exact hp4, by omega, fun H5 p5 s5 hp5 e5 => ?_⟩
        have hp35 := s5 _ _ (s4 _ _ (upd_same (H := H2) (a := p3) (o := .lst [V.int (nv I).length])))
        refine ⟨p3, p5, _, _, rfl, rfl, hp35, e5, line10 (by simp only [List.length_map, List.length_cons, List.length_nil]; omega), fun p6 hp6 => ?_⟩
        have s16 := s13.trans (s4.trans s5)
        refine q _ p6 (s16.trans (same_upd hp6)) (s16.free hp6) ?_
        rw [upd_same, nv_len, hul]
        rfl
end
theorem inside_is (s : Sheet) (lo hi : List Int) : Vaskyb.inside s lo hi = insideM s lo hi := by
  unfold Vaskyb.inside insideM everyone
  refine List.filter_congr fun i hi' => ?_
  have h := List.mem_range.mp hi'
  have e := List.getElem?_eq_getElem h
  have e2 : (s.items.map (·.vs)).getD i [] = (s.items[i]).vs := getD_of (by rw [List.getElem?_map, e]; rfl)
  rw [e, e2]
  rfl
theorem free_is {s : Sheet} (ok : SheetOk s) {A : List Nat} (hA : ∀ j ∈ A, j < (Vaskya.rows s).length) : Vaskya.unbeatenIn (Vaskya.rows s) A = freeIn s A := unbeaten_all (rows_wide ok) hA
theorem bounds_is {s : Sheet} (ok : SheetOk s) (lo hi : List Int) : VaskybNeutral.encode (Vaskyb.looked s (.bounds lo hi)) = boundsM s lo hi := by
  unfold boundsM
  show VaskybNeutral.encode (if lo.length ≠ s.ms.length ∨ hi.length ≠ s.ms.length then VaskyBase.one (-4) else ⟨((Vaskyb.inside s lo hi).length : Int), Vaskyb.listRow (Vaskya.unbeatenIn (Vaskya.rows s) (Vaskyb.inside s lo hi))⟩) = _
  by_cases h : lo.length = s.ms.length ∧ hi.length = s.ms.length
  · rw [if_pos h, if_neg (by rw [not_or, Classical.not_not, Classical.not_not]; exact h), inside_is, free_is ok (A := insideM s lo hi) (fun j hj => all_lt s j (List.mem_filter.mp hj).1)]
    rfl
  · rw [if_neg h, if_pos (by rw [← Classical.not_and_iff_not_or_not]; exact h)]
    rfl
end Fm

/-! The mirror and the document: groups. -/
namespace Fm
open Vaskya (Measure Item Sheet)
theorem lt_ext : ∀ {a b : List Int}, a.Pairwise (· < ·) → b.Pairwise (· < ·) → (∀ k, k ∈ a ↔ k ∈ b) → a = b
  | [], [], _, _, _ => rfl
  | [], y :: b, _, _, h => absurd ((h y).mpr List.mem_cons_self) List.not_mem_nil
  | x :: a, [], _, _, h => absurd ((h x).mp List.mem_cons_self) List.not_mem_nil
  | x :: a, y :: b, ha, hb, h => by
    have a1 := List.pairwise_cons.mp ha
    have b1 := List.pairwise_cons.mp hb
    have e : x = y := by
      have h1 : x = y ∨ x ∈ b := List.mem_cons.mp ((h x).mp List.mem_cons_self)
      have h2 : y = x ∨ y ∈ a := List.mem_cons.mp ((h y).mpr List.mem_cons_self)
      rcases h1 with h1 | h1
      · exact h1
      · rcases h2 with h2 | h2
        · exact h2.symm
        · have u := b1.1 x h1
          have v := a1.1 y h2
          omega
    subst e
    congr 1
    refine lt_ext a1.2 b1.2 fun k => ?_
    have hk := h k
    rw [List.mem_cons, List.mem_cons] at hk
    constructor
    · intro m
      rcases hk.mp (.inr m) with z | z
      · exact absurd (a1.1 k m) (by omega)
      · exact z
    · intro m
      rcases hk.mpr (.inr m) with z | z
      · exact absurd (b1.1 k m) (by omega)
      · exact z
def groupOk (l : List Int) (n : Nat) : Bool := decide (l.length = n) && l.all fun z => decide (0 ≤ z) && decide (z ≤ 9)
def gN (l : List Int) : List Nat := l.map Int.toNat
def gG (l : List Int) : List Nat := (List.range 10).filter fun g => (gN l).contains g
def memM (s : Sheet) (l : List Int) (g : Nat) : List Nat := (everyone s).filter fun i => (gN l).getD i 0 == g
def bestM (s : Sheet) (l : List Int) (g : Nat) : List Nat := freeIn s (memM s l g)
def leadM (s : Sheet) (l : List Int) : List Nat := (everyone s).filter fun i => (gG l).any fun g => (bestM s l g).contains i
def groupRow (s : Sheet) (l : List Int) (g : Nat) : List Int := ((g : Nat) : Int) :: ((((bestM s l g).length : Nat) : Int) :: nI (bestM s l g))
def groupsM (s : Sheet) (l : List Int) : List Int := if groupOk l s.items.length = true then
  (((gG l).length : Nat) : Int) :: (((gG l).flatMap (groupRow s l)) ++ ((((freeIn s (leadM s l)).length : Nat) : Int) :: nI (freeIn s (leadM s l)))) else [-4]
theorem mem_lt (s : Sheet) (l : List Int) (g : Nat) : ∀ j ∈ memM s l g, j < (Vaskya.rows s).length := fun j hj => all_lt s j (List.mem_filter.mp hj).1
theorem lead_lt (s : Sheet) (l : List Int) : ∀ j ∈ leadM s l, j < (Vaskya.rows s).length := fun j hj => all_lt s j (List.mem_filter.mp hj).1
theorem groupOk_is (l : List Int) (n : Nat) : groupOk l n = true ↔ ¬ (l.length ≠ n ∨ (l.any fun z => (VaskyBase.index z Vaskyb.GROUPS).isNone) = true) := by
  unfold groupOk
  rw [not_or, Bool.and_eq_true_iff, decide_eq_true_iff, Classical.not_not]
  refine and_congr Iff.rfl ?_
  rw [List.all_eq_true, List.any_eq_true]
  have e : Vaskyb.GROUPS = 10 := rfl
  constructor
  · rintro h ⟨z, hz, hi⟩
    have h1 := Bool.and_eq_true_iff.mp (h z hz)
    have h2 := of_decide_eq_true h1.1
    have h3 := of_decide_eq_true h1.2
    rw [index_none, e, Bool.or_eq_true_iff, decide_eq_true_iff, decide_eq_true_iff] at hi
    omega
  · intro h z hz
    rw [Bool.and_eq_true_iff, decide_eq_true_iff, decide_eq_true_iff]
    have h1 : ¬ (VaskyBase.index z Vaskyb.GROUPS).isNone = true := fun hi => h ⟨z, hz, hi⟩
    rw [index_none, e, Bool.or_eq_true_iff, decide_eq_true_iff, decide_eq_true_iff] at h1
    omega
theorem groupBest_is {s : Sheet} (ok : SheetOk s) (l : List Int) (g : Nat) : Vaskyb.groupBest (Vaskya.rows s) (gN l) g = bestM s l g := by
  unfold Vaskyb.groupBest
  have e : (List.range (Vaskya.rows s).length) = everyone s := by
    rw [rows_len]
    rfl
  rw [e]
  exact free_is ok (mem_lt s l g)
theorem groups_is {s : Sheet} (ok : SheetOk s) (l : List Int) : VaskybNeutral.encode (Vaskyb.looked s (.groups l)) = groupsM s l := by
  unfold groupsM
  have hb : ((List.range Vaskyb.GROUPS).filter fun g => (gN l).contains g).map (fun g => (g, Vaskyb.groupBest (Vaskya.rows s) (gN l) g)) = (gG l).map fun g => (g, bestM s l g) := by
    refine List.map_congr_left fun g _ => ?_
    rw [groupBest_is ok]
  show VaskybNeutral.encode (if l.length ≠ s.items.length ∨ l.any (fun z => (VaskyBase.index z Vaskyb.GROUPS).isNone) = true then VaskyBase.one (-4) else
    let bs := ((List.range Vaskyb.GROUPS).filter fun g => (gN l).contains g).map fun g => (g, Vaskyb.groupBest (Vaskya.rows s) (gN l) g)
    ⟨(bs.length : Int), bs.flatMap (fun x => (x.1 : Int) :: Vaskyb.listRow x.2) ++ Vaskyb.listRow (Vaskya.unbeatenIn (Vaskya.rows s) ((List.range (Vaskya.rows s).length).filter fun i => bs.any fun x => x.2.contains i))⟩) = _
  by_cases h : groupOk l s.items.length = true
  · rw [if_pos h, if_neg ((groupOk_is l _).mp h)]
    simp only [hb]
    have e1 : ((List.range (Vaskya.rows s).length).filter fun i => ((gG l).map fun g => (g, bestM s l g)).any fun x => x.2.contains i) = leadM s l := by
      rw [rows_len]
      unfold leadM everyone
      refine List.filter_congr fun i _ => ?_
      rw [List.any_map]
      rfl
    rw [e1, free_is ok (lead_lt s l), List.flatMap_map, List.length_map]
    rfl
  · rw [if_neg h, if_pos (by rw [groupOk_is, Classical.not_not] at h; exact h)]
    rfl
/-- the groups that are there, in order -/
theorem range_lt (n : Nat) (p : Nat → Bool) : (nI ((List.range n).filter p)).Pairwise (· < ·) := by
  unfold nI
  rw [List.pairwise_map]
  refine (List.pairwise_lt_range.filter p).imp fun {a b} h => ?_
  omega
theorem numbers_is {l : List Int} {n : Nat} (h : groupOk l n = true) {ns : List Int} (h1 : ns.Pairwise (· < ·)) (h2 : ∀ k : Int, k ∈ ns ↔ decide (k ∈ l) = true) : ns = nI (gG l) := by
  have hall := List.all_eq_true.mp (Bool.and_eq_true_iff.mp h).2
  refine lt_ext h1 (range_lt 10 _) fun k => ?_
  rw [h2, decide_eq_true_iff]
  unfold nI
  rw [List.mem_map]
  constructor
  · intro hk
    have := Bool.and_eq_true_iff.mp (hall k hk)
    have h3 := of_decide_eq_true this.1
    have h4 := of_decide_eq_true this.2
    refine ⟨k.toNat, List.mem_filter.mpr ⟨List.mem_range.mpr (by omega), ?_⟩, by omega⟩
    exact List.contains_iff_mem.mpr (List.mem_map.mpr ⟨k, hk, rfl⟩)
  · rintro ⟨g, hg, rfl⟩
    obtain ⟨z, hz, e⟩ := List.mem_map.mp (List.contains_iff_mem.mp (List.mem_filter.mp hg).2)
    have := Bool.and_eq_true_iff.mp (hall z hz)
    have h3 := of_decide_eq_true this.1
    have e2 : ((g : Nat) : Int) = z := by
      rw [← e]
      omega
    rw [e2]
    exact hz
theorem best_nodup (s : Sheet) (l : List Int) (g : Nat) : (bestM s l g).Nodup := (List.nodup_range.filter _).filter _
theorem leads_nodup (s : Sheet) (l : List Int) : ((gG l).flatMap (bestM s l)).Nodup := by
  unfold List.Nodup
  rw [List.pairwise_flatMap]
  refine ⟨fun g _ => best_nodup s l g, ?_⟩
  have hg : (gG l).Nodup := List.nodup_range.filter _
  refine hg.imp fun {a b} hab x hx y hy e => ?_
  subst e
  have e1 := (List.mem_filter.mp (List.mem_filter.mp hx).1).2
  have e2 := (List.mem_filter.mp (List.mem_filter.mp hy).1).2
  rw [beq_iff_eq] at e1 e2
  exact hab (e1.symm.trans e2)
theorem lead_sorted (s : Sheet) (l : List Int) {ns : List Int} (h1 : ns.Perm (nI ((gG l).flatMap (bestM s l)))) (h2 : ns.Pairwise (· ≤ ·)) : ns = nI (leadM s l) := by
  have nd : ns.Nodup := h1.nodup_iff.mpr (by
    unfold nI List.Nodup
    rw [List.pairwise_map]
    exact (leads_nodup s l).imp fun {a b} h z => h (by omega))
  have h3 : ns.Pairwise (· < ·) := by
    have := h2.and nd
    exact this.imp fun {a b} h => by
      have h5 := h.1
      have h6 := h.2
      omega
  refine lt_ext h3 (range_lt _ _) fun k => ?_
  rw [h1.mem_iff]
  unfold nI
  rw [List.mem_map, List.mem_map]
  constructor
  · rintro ⟨i, hi, rfl⟩
    obtain ⟨g, hg, hb⟩ := List.mem_flatMap.mp hi
    refine ⟨i, List.mem_filter.mpr ⟨(List.mem_filter.mp (List.mem_filter.mp hb).1).1, ?_⟩, rfl⟩
    exact List.any_eq_true.mpr ⟨g, hg, List.contains_iff_mem.mpr hb⟩
  · rintro ⟨i, hi, rfl⟩
    obtain ⟨g, hg, hb⟩ := List.any_eq_true.mp (List.mem_filter.mp hi).2
    exact ⟨i, List.mem_flatMap.mpr ⟨g, hg, List.contains_iff_mem.mp hb⟩, rfl⟩
theorem lead_len (s : Sheet) (l : List Int) : ((gG l).flatMap (bestM s l)).length ≤ s.items.length := by
  have h := nodup_len (m := everyone s) (leads_nodup s l) fun i hi => by
    obtain ⟨g, hg, hb⟩ := List.mem_flatMap.mp hi
    exact (List.mem_filter.mp (List.mem_filter.mp hb).1).1
  unfold everyone at h
  rw [List.length_range] at h
  exact h
theorem gG_len (l : List Int) : (gG l).length ≤ 10 := by
  have h : (gG l).length ≤ (List.range 10).length := (List.filter_sublist).length_le
  rw [List.length_range] at h
  exact h
end Fm

/-! are_groups, groups. -/
namespace Fm
open PySem PySem.Spec PyProof.Rows L2
open Vaskya (Measure Item Sheet)
abbrev sAreGroups : Stmt := top 84
abbrev sGroups : Stmt := top 85
def spAreG (K : PySem.W.Frag) : Sp := fun vs H Q _ => ∃ (a : Addr) (l : List Int) (n : Nat), vs = [.ref a, .int n] ∧ SqL K H a (l.map V.int) ∧ l.length ≤ 2000 ∧ ∀ H', Same H H' → Q (.bl (groupOk l n)) H'
theorem flat_le {α : Type} {f : α → List Int} {m : Nat} : ∀ S : List α, (∀ c ∈ S, (f c).length ≤ m) → (S.flatMap f).length ≤ S.length * m
  | [], _ => by simp
  | c :: S, h => by
    have h1 := flat_le S fun d hd => h d (List.mem_cons_of_mem _ hd)
    have h2 := h c List.mem_cons_self
    rw [List.flatMap_cons, List.length_append, List.length_cons, Nat.succ_mul]
    omega
theorem best_len {s : Sheet} (ok : SheetOk s) (l : List Int) (g : Nat) : (bestM s l g).length ≤ 16 := by
  have h16 := ok.i16
  have a0 : (bestM s l g).length ≤ (memM s l g).length := (List.filter_sublist).length_le
  have a1 : (memM s l g).length ≤ (everyone s).length := (List.filter_sublist).length_le
  have a2 : (everyone s).length = s.items.length := List.length_range
  omega
theorem grow_len {s : Sheet} (ok : SheetOk s) (l : List Int) (S : List Nat) (hS : S.length ≤ 10) : (S.flatMap (groupRow s l)).length ≤ 180 := by
  have h := flat_le (f := groupRow s l) (m := 18) S fun g _ => by
    have := best_len ok l g
    unfold groupRow
    rw [List.length_cons, List.length_cons]
    unfold nI
    rw [List.length_map]
    omega
  omega
theorem flatN_take {f : Nat → List Nat} {S : List Nat} {i c : Nat} (h : S[i]? = some c) : (S.take (i + 1)).flatMap f = (S.take i).flatMap f ++ f c := by
  rw [List.take_add_one, h, List.flatMap_append]
  simp
theorem nv_app (a b : List Nat) : nv (a ++ b) = nv a ++ nv b := List.map_append ..
section
variable {P : Program} {w : World} {K : PySem.W.Frag} {mg : Str → Option Value} {base : Heap}
theorem scAreG : FnScope ["told", "count", "group"] ["told", "count"] (defScope sAreGroups) := ⟨rfl, rfl, rfl, by decide +kernel, rfl, by decide +kernel, by decide +kernel⟩
theorem ok_areG (D : DefT K mg "are_groups" sAreGroups ["told", "count"]) (gl : mg "len" = none) (ga : mg "all" = none) (gL : GI mg "LAST_GROUP" 9) : FnOk P w K mg base CX0 1 D.f D.fd ["told", "count"] (spAreG K) := by
  refine D.F.ok scAreG (fun vs H Q E h => ?_) (fun cdv A_ outer s H vs Q E hr h => ?_)
  · obtain ⟨a, l, n, rfl, _⟩ := h
    rfl
  · obtain ⟨a, l, n, rfl, ha, hz, q⟩ := h
    refine ⟨_, pss_one (ps_ret (pe_and (pe_cmpR op_eq (pe_callB call_len_seq (by rfl) gl PySem.boot_len (pa_cons (pv 0) pa_nil)) (pv 1) (nomark _))
      (pe_one (pe_callB (cr_all rfl) (by rfl) ga (by decide +kernel) (pa_cons (pe_lc (own := [("group", 2)]) (g := gName 2) rfl scAreG.nd (pi_list (pv 0))
        (blkOk_by (own := [("group", 2)]) (N := ["told", "count", "group"]) (sc := defScope sAreGroups) (by decide +kernel)) (fun _ _ _ _ _ => pg_name (i := 2) scAreG.nd rfl (Or.inl rfl)) (fun _ _ _ _ _ => pts_nil)
        (fun _ _ _ _ _ => pe_chain op_le op_le pe_int (pv 2) (pe_gi gL))) pa_nil))))), ?_⟩
    refine ⟨_, rfl, a, _, rfl, .inl ha, _, rfl, rfl, _, rfl, ?_⟩
    unfold groupOk at q
    have ec : decide (V.int ((l.map V.int).length : Nat) = V.int (n : Nat)) = decide (l.length = n) := by
      rw [List.length_map]
      refine decide_eq_decide.mpr ⟨fun z => ?_, fun z => by rw [z]⟩
      have := V.int.inj z
      omega
    rw [ec]
    refine ite2 (fun c => ?_) (fun c => ?_)
    · rw [c, Bool.true_and] at q
      refine ⟨_, rfl, a, rfl, ⟨_, ha⟩, fun D1 hD1 => ?_⟩
      refine lc_fun (walk_list (xs := l.map V.int)) (fun t => V.bl (decide (0 ≤ l.getD t 0) && decide (l.getD t 0 ≤ 9))) hD1 (by rw [List.length_map]; omega) (fun H' sm => sm.seq ha) ?_ ?_
      · rintro t x H' H2 G ht sm hne ⟨rfl, hx⟩ hg
        rw [List.length_map] at ht
        have f1 := List.getElem?_eq_getElem ht
        rw [List.getElem?_map, f1] at hx
        cases Option.some.inj hx
        have hq := hg H2 (Same.refl _)
        rw [getD_of f1] at hq
        refine ⟨rfl, ?_⟩
        refine ⟨_, rfl, _, _, rfl, rfl, _, rfl, ?_⟩
        refine ite2 (fun c => ?_) (fun c => ?_)
        · rw [c, Bool.true_and] at hq
          exact ⟨_, _, rfl, rfl, hq⟩
        · rw [eq_false_of_ne_true c, Bool.false_and] at hq
          exact hq
      · intro H2 sm2 hD2
        rw [List.length_map, bl_map] at hD2
        refine ⟨D1, _, rfl, SqL.of hD2, ?_⟩
        rw [all_range l 0 (fun z => decide (0 ≤ z) && decide (z ≤ 9))]
        exact q H2 sm2
    · rw [eq_false_of_ne_true c, Bool.false_and] at q
      exact q H (Same.refl _)

/-! ### groups -/
def spGroups (K : PySem.W.Frag) (CH : Addr) : Sp := fun vs H Q _ => ∃ (x : HA) (s : Sheet) (a : Addr) (l : List Int), vs = [.ref x.a, .ref a] ∧ HeldAt CH H x s ∧ SheetOk s ∧ SqL K H a (l.map V.int) ∧ l.length ≤ 2000 ∧
  ∀ H' p, Same H H' → H p = none → H' p = some (.lst ((groupsM s l).map V.int)) → Q (.ref p) H'
theorem scGroups : FnScope ["held", "group_of", "measures", "numbers", "told", "leaders", "number", "members", "best", "item", "group"] ["held", "group_of"] (defScope sGroups) := ⟨rfl, rfl, rfl, by decide +kernel, rfl, by decide +kernel, by decide +kernel⟩
theorem ok_groups {CH : Addr} (D : DefT K mg "groups" sGroups ["held", "group_of"]) (cH : Cls K CH) (NH : HeldT K CH) (MM : MethT K CH "every_measure" "HeldList.every_measure" sEveryM ["self"]) (FG : DefT K mg "are_groups" sAreGroups ["told", "count"])
    (FC : DefT K mg "counted" sCounted ["numbers"]) (FN : DefT K mg "unbeaten" sUnbeaten ["gains", "among", "chosen"]) (FU : DefT K mg "is_unbeaten" sIsUnbeaten ["gains", "item", "among", "chosen"]) (FB : DefT K mg "beats" sBeats ["gains", "one", "other", "chosen"])
    (gl : mg "len" = none) (gr : mg "range" = none) (gi : mg "list" = none) (ga : mg "any" = none) (gb : mg "all" = none) (gs : mg "set" = none) (gd : mg "sorted" = none) (ge : mg "enumerate" = none) (gF : GI mg "NO_FIT" (-4)) (gL : GI mg "LAST_GROUP" 9) : FnOk P w K mg base CX0 4 D.f D.fd ["held", "group_of"] (spGroups K CH) := by
  refine D.F.ok scGroups (fun vs H Q E h => ?_) (fun cdv A_ outer s H vs Q E hr h => ?_)
  · obtain ⟨x, s, a, l, rfl, _⟩ := h
    rfl
  · obtain ⟨x, sh, a, l, rfl, hH, ok, ha, hz, q⟩ := h
    have hr1 : Room 1 _ := hr.mono (by decide)
    refine ⟨_, pss_cons (ps_if (pt_not (pt_val (pe_def FG (ok_areG FG gl gb gL) hr1 (pa_cons (pv 1) (pa_cons (pe_callB call_len_seq (by rfl) gl PySem.boot_len (pa_cons (pe_fld (pv 0) rfl) pa_nil)) pa_nil)))))
        (pss_one (ps_ret (pe_lst (pa_cons (pe_gi gF) pa_nil)))) pss_nil)
      (pss_cons (ps_set (i := 2) scGroups.nd rfl (Or.inl rfl) (pe_meth0 (pv 0) cH MM.m (ok_everyM MM cH NH gl gr gi) hr1 MM.b .nil pass0))
      (pss_cons (ps_set (i := 3) scGroups.nd rfl (Or.inl rfl) (pe_callB (cr_sortedSet rfl) (by rfl) gd (by decide +kernel) (pa_cons (pe_callTy (cr_setL rfl) (by rfl) gs (by decide +kernel) (pa_cons (pv 1) pa_nil)) pa_nil)))
      (pss_cons (ps_set (i := 4) scGroups.nd rfl (Or.inl rfl) (pe_lst (pa_cons (pe_callB call_len_seq (by rfl) gl PySem.boot_len (pa_cons (pv 3) pa_nil)) pa_nil)))
      (pss_cons (ps_set (i := 5) scGroups.nd rfl (Or.inl rfl) (pe_lst pa_nil))
      (pss_cons (ps_for PassesOwn.never rfl (pi_list (pv 3)) (pg_name (i := 6) scGroups.nd rfl (Or.inr rfl))
        (pss_cons (ps_setLc (i := 7) (own := [("item", 9), ("group", 10)]) (g := gTup K 2 (gCons (gName 9) (gCons (gName 10) gNil))) (wi := iEnum K (tCons (tVar 1) tNil)) (tt := tB (tOp rEq (tVar 10) (tVar 6))) (te := tVar 9)
            rfl scGroups.nd rfl rfl (sw_true rfl rfl rfl (by decide +kernel)) (pi_enum (by rfl) ge (pa_cons (pv 1) pa_nil))
            (blkOk_by (own := [("item", 9), ("group", 10)]) (N := ["held", "group_of", "measures", "numbers", "told", "leaders", "number", "members", "best", "item", "group"]) (sc := defScope sGroups) (by decide +kernel))
            (fun _ _ _ _ _ => pg_tup rfl (pgs_cons (pg_name (i := 9) scGroups.nd rfl (Or.inl rfl)) (pgs_cons (pg_name (i := 10) scGroups.nd rfl (Or.inl rfl)) pgs_nil)))
            (fun _ _ _ _ _ => pts_one (pt_cmpR op_eq (pv 10) (pv 6) (nomark _))) (fun _ _ _ _ _ => pv 9))
        (pss_cons (ps_set (i := 8) scGroups.nd rfl (Or.inl rfl) (pe_def FN (ok_unbeaten FN FU FB ga) hr (pa_cons (pe_fld (pv 0) rfl) (pa_cons (pv 7) (pa_cons (pv 2) pa_nil)))))
        (pss_cons (ps_expr (pe_bm PySem.F.plainAttrs_list PySem.F.slot_list_append PySem.F.type_list_append mt_append (pv 4) (pa_cons (pv 6) pa_nil)))
        (pss_cons (ps_expr (pe_bm PySem.F.plainAttrs_list PySem.F.slot_list_extend PySem.F.type_list_extend mt_extend (pv 4) (pa_cons (pe_def FC (ok_counted FC gl) hr1 (pa_cons (pv 8) pa_nil)) pa_nil)))
        (pss_one (ps_expr (pe_bm PySem.F.plainAttrs_list PySem.F.slot_list_extend PySem.F.type_list_extend mt_extend (pv 5) (pa_cons (pv 8) pa_nil)))))))))
      (pss_one (ps_ret (pe_op op_cat (pv 4) (pe_def FC (ok_counted FC gl) hr1 (pa_cons (pe_def FN (ok_unbeaten FN FU FB ga) hr (pa_cons (pe_fld (pv 0) rfl)
        (pa_cons (pe_callB cr_sorted (by rfl) gd (by decide +kernel) (pa_cons (pv 5) pa_nil)) (pa_cons (pv 2) pa_nil)))) pa_nil)))))))))), ?_⟩
    obtain ⟨⟨dx, h1⟩, _⟩ := id hH
    obtain ⟨vn, hn, ln⟩ := hH.names
    have h16 := ok.i16
    have m4 := ok.m4
    refine ⟨_, rfl, _, rfl, x.a, CH, dx, _, _, rfl, h1, cH, NH.nN, hF_ns x, x.ns, vn, rfl, .inl (SqL.of hn), a, l, sh.items.length, by rw [ln]; rfl, ha, hz, fun H0 s0 => ⟨_, rfl, ?_⟩⟩
    cases hc : groupOk l sh.items.length with
    | false =>
      refine iteT ⟨(by show 1 ≤ sizeLine; decide), fun p hp => ?_⟩
      refine q _ p (s0.trans (same_upd hp)) (s0.free hp) ?_
      rw [upd_same]
      unfold groupsM
      rw [if_neg (by rw [hc]; exact Bool.false_ne_true)]
      rfl
    | true =>
      refine iteF ?_
      have hans : groupsM sh l = (((gG l).length : Nat) : Int) :: (((gG l).flatMap (groupRow sh l)) ++ ((((freeIn sh (leadM sh l)).length : Nat) : Int) :: nI (freeIn sh (leadM sh l)))) := if_pos hc
      rw [hans] at q
      have hlen : l.length = sh.items.length := of_decide_eq_true (Bool.and_eq_true_iff.mp hc).1
      refine ⟨_, rfl, x.a, dx, _, rfl, s0 _ _ h1, hF_everyM x, ?_⟩
      dsimp only [tNil]
      refine ⟨x, sh, rfl, hH.same s0, ok, fun e he => ?_⟩
      have se := s0.trans (same_upd (o := .lst (nv (List.range sh.ms.length))) he)
      have hE : upd H0 e (.lst (nv (List.range sh.ms.length))) e = some (.lst (nv (List.range sh.ms.length))) := upd_same
      revert se hE
      generalize upd H0 e (.lst (nv (List.range sh.ms.length))) = H1
      intro se hE
      refine ⟨_, rfl, a, l, rfl, se.seq ha, by omega, fun ps cs hcs hps => ?_⟩
      have s1 := same_upd (o := SetO w ps (fun j => decide (j ∈ l)) cs) hps
      refine ⟨ps, _, cs, rfl, upd_same, by omega, fun ns nu hn1 hn2 hn3 hnu => ?_⟩
      have hns := numbers_is hc hn1 hn2
      subst hns
      show tSeq _ _ _ _ (upd (upd H1 ps (SetO w ps (fun j => decide (j ∈ l)) cs)) nu (.lst ((nI (gG l)).map V.int)))
      have s2 := s1.trans (same_upd (o := .lst ((nI (gG l)).map V.int)) hnu)
      have hNu : upd (upd H1 ps (SetO w ps (fun j => decide (j ∈ l)) cs)) nu (.lst ((nI (gG l)).map V.int)) nu = some (.lst ((nI (gG l)).map V.int)) := upd_same
      revert s2 hNu
      generalize upd (upd H1 ps (SetO w ps (fun j => decide (j ∈ l)) cs)) nu (.lst ((nI (gG l)).map V.int)) = H2
      intro s2 hNu
      have hE2 := s2 _ _ hE
      have se2 := se.trans s2
      refine ⟨_, rfl, nu, _, rfl, .inl (SqL.of hNu), (by show 1 ≤ sizeLine; decide), fun t ht => ?_⟩
      have st := same_upd (o := .lst [V.int ((nI (gG l)).map V.int).length]) ht
      have eT : ([V.int ((nI (gG l)).map V.int).length] : List V) = ([(((gG l).length : Nat) : Int)] : List Int).map V.int := by
        rw [List.length_map]
        unfold nI
        rw [List.length_map]
        rfl
      rw [eT] at st
      refine ⟨Nat.zero_le _, fun L hL => ?_⟩
      replace hL : upd H2 t (.lst [V.int ((nI (gG l)).map V.int).length]) L = none := hL
      rw [eT] at hL
      have sL := st.trans (same_upd (o := .lst []) hL)
      have ntL : t ≠ L := fun z => by
        rw [← z, upd_same] at hL
        cases hL
      have hLn : H2 L = none := st.free hL
      have gl10 := gG_len l
      show tSeq _ _ _ _ (upd (upd H2 t (.lst [V.int ((nI (gG l)).map V.int).length])) L (.lst []))
      rw [eT]
      refine ⟨_, rfl, nu, rfl, ⟨_, SqL.of (sL _ _ hNu)⟩, for_list (K := K) (a := nu) (xs := (nI (gG l)).map V.int) (fun j σ H' => ∃ v6 v7 v8 : Option V, σ = [some (.ref x.a), some (.ref a), some (.ref e), some (.ref nu), some (.ref t), some (.ref L), v6, v7, v8, none, none] ∧ Same H2 H' ∧
          H' t = some (.lst (((((gG l).length : Nat) : Int) :: ((gG l).take j).flatMap (groupRow sh l)).map V.int)) ∧ H' L = some (.lst (nv (((gG l).take j).flatMap (bestM sh l)))))
        ⟨none, none, none, rfl, sL, by rw [upd_ne ntL, upd_same]; rfl, by rw [upd_same]; rfl⟩ (fun j σ H' _ ⟨_, _, _, _, z, _⟩ => z.seq (SqL.of hNu)) ?_ ?_⟩
      · rintro j y σ H6 hj ⟨v6, v7, v8, rfl, s6, ht6, hL6⟩
        have hjl : j < (gG l).length := by
          have := (List.getElem?_eq_some_iff.mp hj).1
          rw [List.length_map] at this
          unfold nI at this
          rw [List.length_map] at this
          exact this
        have hgj := List.getElem?_eq_getElem hjl
        have ey : y = V.int ((gG l)[j] : Nat) := by
          unfold nI at hj
          rw [List.getElem?_map, List.getElem?_map, hgj] at hj
          exact (Option.some.inj hj).symm
        subst ey
        have hf1 := flat_take (groupRow sh l) hgj
        have hf2 := flatN_take (f := bestM sh l) hgj
        have bA := grow_len ok l ((gG l).take j) (by rw [List.length_take]; omega)
        have bL : (((gG l).take j).flatMap (bestM sh l)).length ≤ 160 := by
          have hq : ∀ S : List Nat, (S.flatMap (bestM sh l)).length ≤ S.length * 16 := fun S => by
            induction S with
            | nil => simp
            | cons c S ih =>
              have := best_len ok l c
              rw [List.flatMap_cons, List.length_append, List.length_cons, Nat.succ_mul]
              omega
          have := hq ((gG l).take j)
          have l2 : ((gG l).take j).length ≤ 10 := by rw [List.length_take]; omega
          omega
        have hgr : groupRow sh l (gG l)[j] = (((gG l)[j] : Nat) : Int) :: ((((bestM sh l (gG l)[j]).length : Nat) : Int) :: nI (bestM sh l (gG l)[j])) := rfl
        have bB := best_len ok l (gG l)[j]
        have hbm : bestM sh l (gG l)[j] = freeIn sh (memM sh l (gG l)[j]) := rfl
        have hmlt := mem_lt sh l (gG l)[j]
        have hmm : memM sh l (gG l)[j] = (everyone sh).filter fun i => (gN l).getD i 0 == (gG l)[j] := rfl
        rw [hgr] at hf1
        rw [hf1, hf2]
        revert bB hbm hmlt hmm
        generalize bestM sh l (gG l)[j] = B
        generalize hM : memM sh l (gG l)[j] = M
        generalize (gG l)[j] = g
        intro bB hbm hmlt hmm
        revert ht6 hL6 bA bL
        generalize ((gG l).take j).flatMap (groupRow sh l) = A0
        generalize ((gG l).take j).flatMap (bestM sh l) = L0
        intro ht6 hL6 bA bL
        clear hf1 hf2 hgr
        have s06 := se2.trans s6
        have ha6 := s06.seq ha
        -- members
        refine ⟨_, rfl, a, _, rfl, ha6, fun D6 hD6 => ?_⟩
        refine lc_keep walk_enum (fun i => (gN l).getD i 0 == g) (fun i => V.int (i : Nat)) hD6 (by rw [List.length_map]; omega) (fun H' sm => sm.seq ha6) ?_ ?_
        · rintro i y H' H3 G N hi sm hne ⟨T, y1, y2, rfl, hT, rfl, e1, e2⟩ hg hno
          rw [List.length_map] at hi
          have f1 := List.getElem?_eq_getElem hi
          replace e2 : (l.map V.int)[i]? = some y2 := e2
          rw [List.getElem?_map, f1] at e2
          cases Option.some.inj e2
          cases Option.some.inj e1
          have hz0 := Bool.and_eq_true_iff.mp (List.all_eq_true.mp (Bool.and_eq_true_iff.mp hc).2 l[i] (List.getElem_mem hi))
          have z0 := of_decide_eq_true hz0.1
          have egn : (gN l).getD i 0 = (l[i]).toNat := getD_of (by unfold gN; rw [List.getElem?_map, f1]; rfl)
          rw [egn] at hg hno
          have ed : decide (V.int l[i] = V.int (g : Nat)) = ((l[i]).toNat == g) := by
            rw [Bool.eq_iff_iff, decide_eq_true_iff, beq_iff_eq]
            constructor
            · intro z
              have := V.int.inj z
              omega
            · intro z
              have : l[i] = ((g : Nat) : Int) := by omega
              rw [this]
          have sT := same_upd (o := .tup [V.int (i : Nat), V.int l[i]]) hT
          refine ⟨T, _, rfl, SqT.of upd_same, rfl, _, _, rfl, _, _, rfl, rfl, rfl, ?_⟩
          refine ⟨_, rfl, _, rfl, rfl, _, rfl, ?_⟩
          rw [ed]
          cases z : (l[i]).toNat == g with
          | true => exact iteT ⟨_, rfl, hg z _ sT⟩
          | false => exact iteF (hno z _ sT)
        intro H7 s7 hD7
        have e9 : ((List.range (l.map V.int).length).filter fun i => (gN l).getD i 0 == g).map (fun i => V.int (i : Nat)) = nv M := by
          rw [List.length_map, hlen, hmm]
          rfl
        rw [e9] at hD7
        have lM : M.length ≤ 16 := by
          have a1 : M.length ≤ (everyone sh).length := by
            rw [hmm]
            exact (List.filter_sublist).length_le
          have a2 : (everyone sh).length = sh.items.length := List.length_range
          omega
        have s07 := s06.trans s7
        -- best
        refine ⟨_, rfl, x.a, CH, dx, _, _, rfl, s07 _ _ h1, cH, NH.nG, hF_gs x, _, rfl, _, rfl, x.gs, D6, e, Vaskya.rows sh, sh.ms.length, M, List.range sh.ms.length, rfl, (hH.gains).same s07, rows_wide ok, SqL.of hD7,
          hmlt, by omega, SqL.of ((s6.trans s7) _ _ hE2), (fun m hm => List.mem_range.mp hm), by rw [List.length_range]; omega, fun H8 b s8 hb hb8 => ?_⟩
        change H8 b = some (.lst (nv (freeIn sh M))) at hb8
        rw [← hbm] at hb8
        have ht8 := s8 _ _ (s7 _ _ ht6)
        have hL8 := s8 _ _ (s7 _ _ hL6)
        have nbt : b ≠ t := fun z => by
          rw [z, s7 _ _ ht6] at hb
          cases hb
        have nbL : b ≠ L := fun z => by
          rw [z, s7 _ _ hL6] at hb
          cases hb
        have s28 := s6.trans (s7.trans s8)
        have nBl : (nI B).length = B.length := List.length_map ..
        -- told.append
        refine ⟨_, rfl, .inl ⟨rfl, _, SqL.of ht8⟩, _, rfl, t, _, _, rfl, rfl, ht8, small_line (by simp only [List.length_map, List.length_cons]; omega), ?_⟩
        have hA1 : ((((gG l).length : Nat) : Int) :: A0).map V.int ++ [V.int (g : Nat)] = ((((gG l).length : Nat) : Int) :: (A0 ++ [((g : Nat) : Int)])).map V.int := by
          rw [List.map_cons, List.map_cons, List.map_append]
          rfl
        show tSeq _ _ _ _ (upd H8 t (.lst (((((gG l).length : Nat) : Int) :: A0).map V.int ++ [V.int (g : Nat)])))
        rw [hA1]
        have k9 : ∀ z o, z ≠ t → H8 z = some o → upd H8 t (.lst (((((gG l).length : Nat) : Int) :: (A0 ++ [((g : Nat) : Int)])).map V.int)) z = some o := fun z o ne e => by
          rw [upd_ne ne]
          exact e
        have ht9 : upd H8 t (.lst (((((gG l).length : Nat) : Int) :: (A0 ++ [((g : Nat) : Int)])).map V.int)) t = some (.lst (((((gG l).length : Nat) : Int) :: (A0 ++ [((g : Nat) : Int)])).map V.int)) := upd_same
        revert k9 ht9
        generalize upd H8 t (.lst (((((gG l).length : Nat) : Int) :: (A0 ++ [((g : Nat) : Int)])).map V.int)) = H9
        intro k9 ht9
        have hL9 := k9 _ _ (Ne.symm ntL) hL8
        -- told.extend(counted(best))
        refine ⟨_, rfl, .inl ⟨rfl, _, SqL.of ht9⟩, _, rfl, b, nI B, rfl, by rw [← nv_nI]; exact k9 _ _ nbt hb8, by omega, fun H10 p10 s10 hp10 e10 => ?_⟩
        have ht10 := s10 _ _ ht9
        have hL10 := s10 _ _ hL9
        refine ⟨t, p10, _, _, rfl, rfl, ht10, e10, line10 (by simp only [List.length_map, List.length_cons, List.length_append, List.length_nil]; omega), ?_⟩
        have hA2 : ((((gG l).length : Nat) : Int) :: (A0 ++ [((g : Nat) : Int)])).map V.int ++ ((((nI B).length : Nat) : Int) :: nI B).map V.int = ((((gG l).length : Nat) : Int) :: (A0 ++ (((g : Nat) : Int) :: (((B.length : Nat) : Int) :: nI B)))).map V.int := by
          rw [← List.map_append, nBl, List.cons_append, List.append_assoc]
          rfl
        rw [hA2]
        have k11 : ∀ z o, z ≠ t → H10 z = some o → upd H10 t (.lst (((((gG l).length : Nat) : Int) :: (A0 ++ (((g : Nat) : Int) :: (((B.length : Nat) : Int) :: nI B)))).map V.int)) z = some o := fun z o ne e => by
          rw [upd_ne ne]
          exact e
        have ht11 : upd H10 t (.lst (((((gG l).length : Nat) : Int) :: (A0 ++ (((g : Nat) : Int) :: (((B.length : Nat) : Int) :: nI B)))).map V.int)) t = some (.lst (((((gG l).length : Nat) : Int) :: (A0 ++ (((g : Nat) : Int) :: (((B.length : Nat) : Int) :: nI B)))).map V.int)) := upd_same
        revert k11 ht11
        generalize upd H10 t (.lst (((((gG l).length : Nat) : Int) :: (A0 ++ (((g : Nat) : Int) :: (((B.length : Nat) : Int) :: nI B)))).map V.int)) = H11
        intro k11 ht11
        have hL11 := k11 _ _ (Ne.symm ntL) hL10
        have hb11 := k11 _ _ nbt (s10 _ _ (k9 _ _ nbt hb8))
        -- leaders.extend(best)
        refine ⟨_, rfl, .inl ⟨rfl, _, SqL.of hL11⟩, _, rfl, L, b, _, _, rfl, rfl, hL11, hb11, line10 (by rw [nv_len, nv_len]; omega), ?_⟩
        refine ⟨_, _, _, rfl, fun z o e => ?_, ?_, ?_⟩
        · have z1 : z ≠ L := ne_of_none e hLn
          have z2 : z ≠ t := ne_of_none e ht
          rw [upd_ne z1]
          exact k11 _ _ z2 (s10 _ _ (k9 _ _ z2 (s28 _ _ e)))
        · rw [upd_ne ntL]
          exact ht11
        · rw [upd_same, nv_app]
      · rintro σ H6 ⟨v6, v7, v8, rfl, s6, ht6, hL6⟩
        have lg : ((nI (gG l)).map V.int).length = (gG l).length := by
          rw [List.length_map]
          exact List.length_map ..
        rw [lg, List.take_length] at ht6 hL6
        have s06 := se2.trans s6
        have bL := lead_len sh l
        have bA := grow_len ok l (gG l) gl10
        refine ⟨_, rfl, _, rfl, x.a, CH, dx, _, _, rfl, s06 _ _ h1, cH, NH.nG, hF_gs x, _, rfl, L, nI ((gG l).flatMap (bestM sh l)), rfl, SqL.of (by rw [← nv_nI]; exact hL6), by unfold nI; rw [List.length_map]; omega, fun ns2 p2 hperm hsort hp2 => ?_⟩
        have e2 := lead_sorted sh l hperm hsort
        subst e2
        have s7 := same_upd (o := .lst ((nI (leadM sh l)).map V.int)) hp2
        have s07 := s06.trans s7
        have hllt := lead_lt sh l
        have l16 : (leadM sh l).length ≤ 16 := by
          have a1 : (leadM sh l).length ≤ (everyone sh).length := (List.filter_sublist).length_le
          have a2 : (everyone sh).length = sh.items.length := List.length_range
          omega
        revert q s7 s07 hllt l16
        generalize leadM sh l = M
        intro q s7 s07 hllt l16
        refine ⟨_, rfl, x.gs, p2, e, Vaskya.rows sh, sh.ms.length, M, List.range sh.ms.length, rfl, (hH.gains).same s07, rows_wide ok, SqL.of (by rw [nv_nI]; exact upd_same),
          hllt, by omega, SqL.of ((s6.trans s7) _ _ hE2), (fun m hm => List.mem_range.mp hm), by rw [List.length_range]; omega, fun H8 b s8 hb hb8 => ?_⟩
        change H8 b = some (.lst (nv (freeIn sh M))) at hb8
        have hfl : (freeIn sh M).length ≤ 16 := Nat.le_trans (free_len M) l16
        revert q hfl hb8
        generalize freeIn sh M = u
        intro q hb8 hfl
        have hul : (nI u).length = u.length := List.length_map ..
        refine ⟨b, nI u, rfl, by rw [← nv_nI]; exact hb8, by omega, fun H9 p9 s9 hp9 e9 => ?_⟩
        have ht9 := s9 _ _ (s8 _ _ (s7 _ _ ht6))
        refine ⟨t, p9, _, _, rfl, rfl, ht9, e9, line10 (by simp only [List.length_map, List.length_cons, List.length_append]; omega), fun p10 hp10 => ?_⟩
        have s09 := s07.trans (s8.trans s9)
        refine q _ p10 (s09.trans (same_upd hp10)) (s09.free hp10) ?_
        rw [upd_same, ← List.map_append, hul]
        rfl
end
end Fm

/-! The mirror and the document: together. -/
namespace Fm
open Vaskya (Measure Item Sheet)
theorem met_mem (f : Nat → Int) : ∀ n, (PyProof.Rows.firstMet f n).Nodup ∧ ∀ x, x ∈ PyProof.Rows.firstMet f n ↔ ∃ i, i < n ∧ f i = x
  | 0 => by simp [PyProof.Rows.firstMet]
  | n + 1 => by
    obtain ⟨h1, h2⟩ := met_mem f n
    have e : PyProof.Rows.firstMet f (n + 1) = if (PyProof.Rows.firstMet f n).any (· == f n) then PyProof.Rows.firstMet f n else PyProof.Rows.firstMet f n ++ [f n] := PyProof.Rows.firstMet_succ f n
    have key : ∀ x, (∃ i, i < n + 1 ∧ f i = x) ↔ x ∈ PyProof.Rows.firstMet f n ∨ x = f n := fun x => by
      rw [h2]
      constructor
      · rintro ⟨i, hi, ei⟩
        by_cases hin : i < n
        · exact .inl ⟨i, hin, ei⟩
        · have z : i = n := by omega
          rw [z] at ei
          exact .inr ei.symm
      · rintro (⟨i, hi, ei⟩ | ei)
        · exact ⟨i, by omega, ei⟩
        · exact ⟨n, by omega, ei.symm⟩
    by_cases hm : (PyProof.Rows.firstMet f n).any (· == f n) = true
    · rw [e, if_pos hm]
      refine ⟨h1, fun x => ?_⟩
      rw [key]
      obtain ⟨y, hy, ey⟩ := List.any_eq_true.mp hm
      rw [beq_iff_eq.mp ey] at hy
      constructor
      · exact .inl
      · rintro (z | z)
        · exact z
        · rw [z]
          exact hy
    · rw [e, if_neg hm]
      refine ⟨?_, fun x => ?_⟩
      · rw [List.nodup_append]
        refine ⟨h1, by simp, fun a ha b hb z => ?_⟩
        rw [List.mem_singleton.mp hb] at z
        exact hm (List.any_eq_true.mpr ⟨a, ha, by rw [z]; exact beq_self_eq_true _⟩)
      · rw [key, List.mem_append, List.mem_singleton]
theorem metLen_eq {l : List Int} {F : List Nat} (hF : F.Nodup) (h : ∀ j : Nat, (j : Int) ∈ l ↔ j ∈ F) (hp : ∀ z ∈ l, 0 ≤ z) : metLen l = F.length := by
  unfold metLen
  obtain ⟨h1, h2⟩ := met_mem (fun i => l.getD i 0) l.length
  have h3 : ∀ x, x ∈ PyProof.Rows.firstMet (fun i => l.getD i 0) l.length ↔ x ∈ nI F := fun x => by
    rw [h2]
    unfold nI
    rw [List.mem_map]
    constructor
    · rintro ⟨i, hi, e⟩
      have e2 : l.getD i 0 = l[i] := getD_of (List.getElem?_eq_getElem hi)
      have hx : x ∈ l := by
        rw [← e, e2]
        exact List.getElem_mem hi
      have h0 := hp x hx
      have e3 : ((x.toNat : Nat) : Int) = x := by omega
      exact ⟨x.toNat, (h _).mp (by rw [e3]; exact hx), e3⟩
    · rintro ⟨j, hj, rfl⟩
      obtain ⟨i, hi, e⟩ := List.getElem_of_mem ((h j).mpr hj)
      exact ⟨i, hi, by rw [getD_of (List.getElem?_eq_getElem hi)]; exact e⟩
  have nd : (nI F).Nodup := by
    unfold nI List.Nodup
    rw [List.pairwise_map]
    exact hF.imp fun {a b} h z => h (by omega)
  have hperm := (List.perm_ext_iff_of_nodup h1 nd).mpr h3
  rw [hperm.length_eq]
  exact List.length_map ..
/-- whom an item beats -/
def bRow (s : Sheet) (i : Nat) : List Nat := (everyone s).filter fun j => beatsM (Vaskya.rows s) i j (List.range s.ms.length)
def bRows (s : Sheet) : List (List Nat) := (everyone s).map (bRow s)
/-- how many are beaten by some -/
def covF (R : List (List Nat)) (S : List Nat) : Nat := metLen (nI (S.flatMap fun i => R.getD i []))
theorem bRows_len (s : Sheet) : (bRows s).length = s.items.length := by
  unfold bRows everyone
  rw [List.length_map, List.length_range]
theorem bRows_at {s : Sheet} {i : Nat} (hi : i < s.items.length) : (bRows s).getD i [] = bRow s i := by
  refine getD_of ?_
  unfold bRows everyone
  rw [List.getElem?_map, List.getElem?_range hi]
  rfl
theorem bRow_len {s : Sheet} (ok : SheetOk s) (i : Nat) : (bRow s i).length ≤ 16 := by
  have h16 := ok.i16
  have a1 : (bRow s i).length ≤ (everyone s).length := (List.filter_sublist).length_le
  have a2 : (everyone s).length = s.items.length := List.length_range
  omega
theorem cov_is {s : Sheet} (ok : SheetOk s) {S : List Nat} (hS : ∀ i ∈ S, i < s.items.length) : covF (bRows s) S = Vaskyb.covers (Vaskya.rows s) S := by
  unfold covF Vaskyb.covers
  refine metLen_eq (List.nodup_range.filter _) (fun j => ?_) (fun z hz => ?_)
  · unfold nI
    rw [List.mem_map, List.mem_filter, List.mem_range, List.any_eq_true, rows_len]
    constructor
    · rintro ⟨k, hk, e⟩
      have ek : k = j := by omega
      subst ek
      obtain ⟨i, hi, hb⟩ := List.mem_flatMap.mp hk
      rw [bRows_at (hS i hi)] at hb
      have h1 := List.mem_filter.mp hb
      have hk1 := List.mem_range.mp h1.1
      refine ⟨hk1, i, hi, ?_⟩
      rw [beats_all (rows_wide ok) (by rw [rows_len]; exact hS i hi) (by rw [rows_len]; exact hk1)]
      exact h1.2
    · rintro ⟨hj, i, hi, hb⟩
      rw [beats_all (rows_wide ok) (by rw [rows_len]; exact hS i hi) (by rw [rows_len]; exact hj)] at hb
      refine ⟨j, List.mem_flatMap.mpr ⟨i, hi, ?_⟩, rfl⟩
      rw [bRows_at (hS i hi)]
      exact List.mem_filter.mpr ⟨List.mem_range.mpr hj, hb⟩
  · unfold nI at hz
    obtain ⟨k, _, rfl⟩ := List.mem_map.mp hz
    omega
/-! ### the first of the best -/
/-- at place i: none has more, none before has as many -/
def FirstBest {α : Type} (c : α → Nat) (L : List α) (i : Nat) (x : α) : Prop := L[i]? = some x ∧ ∀ j y, L[j]? = some y → c y ≤ c x ∧ (j < i → c y < c x)
theorem FirstBest.split {α : Type} {c : α → Nat} {L : List α} {i : Nat} {x : α} (h : FirstBest c L i x) : ∃ L1 L2, L = L1 ++ x :: L2 ∧ (∀ y ∈ L1, c y < c x) ∧ ∀ y ∈ L2, c y ≤ c x := by
  obtain ⟨h1, h2⟩ := h
  obtain ⟨hi, e⟩ := List.getElem?_eq_some_iff.mp h1
  refine ⟨L.take i, L.drop (i + 1), ?_, fun y hy => ?_, fun y hy => ?_⟩
  · have e3 : L.drop i = x :: L.drop (i + 1) := by
      rw [← e]
      exact List.drop_eq_getElem_cons hi
    rw [← e3, List.take_append_drop]
  · obtain ⟨j, hj, e2⟩ := List.getElem_of_mem hy
    rw [List.length_take] at hj
    rw [List.getElem_take] at e2
    exact (h2 j y (by rw [← e2]; exact List.getElem?_eq_getElem (by omega))).2 (by omega)
  · obtain ⟨j, hj, e2⟩ := List.getElem_of_mem hy
    rw [List.length_drop] at hj
    rw [List.getElem_drop] at e2
    exact (h2 (i + 1 + j) y (by rw [← e2]; exact List.getElem?_eq_getElem (by omega))).1
def bestStep (c : List Nat → Nat) (b : Nat × List Nat) (s : List Nat) : Nat × List Nat := let n := c s; if b.2.isEmpty = true ∨ b.1 < n then (n, s) else b
theorem bestStep_keep (c : List Nat → Nat) {x : List Nat} (hx : x ≠ []) : ∀ L : List (List Nat), (∀ y ∈ L, c y ≤ c x) → L.foldl (bestStep c) (c x, x) = (c x, x)
  | [], _ => rfl
  | y :: L, h => by
    have hy := h y List.mem_cons_self
    have e : bestStep c (c x, x) y = (c x, x) := by
      unfold bestStep
      refine if_neg ?_
      rintro (z | z)
      · exact hx (List.isEmpty_iff.mp z)
      · exact absurd z (by show ¬ c x < c y; omega)
    rw [List.foldl_cons, e]
    exact bestStep_keep c hx L fun z hz => h z (List.mem_cons_of_mem _ hz)
theorem bestStep_pre (c : List Nat → Nat) (m : Nat) : ∀ (L : List (List Nat)) (b : Nat × List Nat), (b.2 = [] ∨ b.1 < m) → (∀ y ∈ L, c y < m) → ((L.foldl (bestStep c) b).2 = [] ∨ (L.foldl (bestStep c) b).1 < m)
  | [], _, h, _ => h
  | y :: L, b, h, hL => by
    rw [List.foldl_cons]
    refine bestStep_pre c m L _ ?_ fun z hz => hL z (List.mem_cons_of_mem _ hz)
    unfold bestStep
    by_cases hc : b.2.isEmpty = true ∨ b.1 < c y
    · have e : (let n := c y; if b.2.isEmpty = true ∨ b.1 < n then (n, y) else b) = (c y, y) := if_pos hc
      rw [e]
      exact .inr (hL y List.mem_cons_self)
    · have e : (let n := c y; if b.2.isEmpty = true ∨ b.1 < n then (n, y) else b) = b := if_neg hc
      rw [e]
      exact h
theorem best_first {c : List Nat → Nat} {L : List (List Nat)} {i : Nat} {x : List Nat} (h : FirstBest c L i x) (hx : x ≠ []) : L.foldl (bestStep c) (0, []) = (c x, x) := by
  obtain ⟨L1, L2, rfl, h1, h2⟩ := h.split
  rw [List.foldl_append, List.foldl_cons]
  have hp := bestStep_pre c (c x) L1 (0, []) (.inl rfl) h1
  have e : bestStep c (L1.foldl (bestStep c) (0, [])) x = (c x, x) := by
    unfold bestStep
    refine if_pos ?_
    rcases hp with z | z
    · exact .inl (List.isEmpty_iff.mpr z)
    · exact .inr z
  rw [e]
  exact bestStep_keep c hx L2 h2
def nextStep (c : Nat → Nat) (b : Option (Nat × Nat)) (i : Nat) : Option (Nat × Nat) := let n := c i; match b with
  | none => some (n, i)
  | some x => if x.1 < n then some (n, i) else some x
theorem nextStep_keep (c : Nat → Nat) {x : Nat} : ∀ L : List Nat, (∀ y ∈ L, c y ≤ c x) → L.foldl (nextStep c) (some (c x, x)) = some (c x, x)
  | [], _ => rfl
  | y :: L, h => by
    have hy := h y List.mem_cons_self
    have e : nextStep c (some (c x, x)) y = some (c x, x) := if_neg (by show ¬ c x < c y; omega)
    rw [List.foldl_cons, e]
    exact nextStep_keep c L fun z hz => h z (List.mem_cons_of_mem _ hz)
theorem nextStep_pre (c : Nat → Nat) (m : Nat) : ∀ (L : List Nat) (b : Option (Nat × Nat)), (∀ x, b = some x → x.1 < m) → (∀ y ∈ L, c y < m) → ∀ x, L.foldl (nextStep c) b = some x → x.1 < m
  | [], _, h, _ => h
  | y :: L, b, h, hL => by
    rw [List.foldl_cons]
    refine nextStep_pre c m L _ ?_ fun z hz => hL z (List.mem_cons_of_mem _ hz)
    have hy := hL y List.mem_cons_self
    intro x hx
    cases b with
    | none =>
      have e : nextStep c none y = some (c y, y) := rfl
      rw [e] at hx
      cases hx
      exact hy
    | some z =>
      have hz := h z rfl
      by_cases hc : z.1 < c y
      · have e : nextStep c (some z) y = some (c y, y) := if_pos hc
        rw [e] at hx
        cases hx
        exact hy
      · have e : nextStep c (some z) y = some z := if_neg hc
        rw [e] at hx
        cases hx
        exact hz
theorem next_first {c : Nat → Nat} {L : List Nat} {i : Nat} {x : Nat} (h : FirstBest c L i x) : (L.foldl (nextStep c) none).map (fun z => z.2) = some x := by
  obtain ⟨L1, L2, rfl, h1, h2⟩ := h.split
  rw [List.foldl_append, List.foldl_cons]
  have hp := nextStep_pre c (c x) L1 none (fun _ z => nomatch z) h1
  have e : nextStep c (L1.foldl (nextStep c) none) x = some (c x, x) := by
    cases hb : L1.foldl (nextStep c) none with
    | none => rfl
    | some z => exact if_pos (hp z hb)
  rw [e, nextStep_keep c L2 h2]
  rfl
theorem bestCover_is {l : List (List Int)} {k i : Nat} {x : List Nat} (h : FirstBest (Vaskyb.covers l) (Vaskyb.choose k (List.range l.length)) i x) (hx : x ≠ []) : Vaskyb.bestCover l k = (Vaskyb.covers l x, x) := best_first h hx
theorem nextOf_is {l : List (List Int)} {T : List Nat} {i x : Nat} (h : FirstBest (fun j => Vaskyb.covers l (T ++ [j])) ((List.range l.length).filter fun j => !T.contains j) i x) : Vaskyb.nextOf l T = some x := next_first h
def coverM (s : Sheet) (k : Int) : List Int := if 1 ≤ k ∧ k ≤ 4 ∧ k ≤ s.items.length then
  (((Vaskyb.bestCover (Vaskya.rows s) k.toNat).1 : Nat) : Int) :: (nI (Vaskyb.bestCover (Vaskya.rows s) k.toNat).2 ++ (((Vaskyb.covers (Vaskya.rows s) (Vaskyb.greedy (Vaskya.rows s) k.toNat) : Nat) : Int) :: nI (Vaskyb.greedy (Vaskya.rows s) k.toNat))) else [-5]
theorem cover_is (s : Sheet) (k : Int) : VaskybNeutral.encode (Vaskyb.looked s (.cover k)) = coverM s k := by
  unfold coverM
  show VaskybNeutral.encode (if k < 1 ∨ (Vaskyb.FEW : Int) < k ∨ (s.items.length : Int) < k then VaskyBase.one (-5) else _) = _
  have e4 : (Vaskyb.FEW : Int) = 4 := rfl
  by_cases h : 1 ≤ k ∧ k ≤ 4 ∧ k ≤ s.items.length
  · rw [if_pos h, if_neg (by rw [e4]; omega)]
    rfl
  · rw [if_neg h, if_pos (by rw [e4]; omega)]
    rfl
end Fm

/-! beaten_rows, beaten_together. -/
namespace Fm
open PySem PySem.Spec PyProof.Rows L2
open Vaskya (Measure Item Sheet)
abbrev sBeatenRows : Stmt := top 64
abbrev sBT : Stmt := top 65
def spBeatenRows (CH : Addr) : Sp := fun vs H Q _ => ∃ (x : HA) (s : Sheet), vs = [.ref x.a] ∧ HeldAt CH H x s ∧ SheetOk s ∧ ∀ H' p, Same H H' → H p = none → RowsAt H H' p ((bRows s).map nI) → Q (.ref p) H'
theorem rows_take {s : Sheet} {i : Nat} (hi : i < s.items.length) : ((List.range (i + 1)).map (bRow s)).map nI = ((List.range i).map (bRow s)).map nI ++ [nI (bRow s i)] := by
  rw [List.range_succ, List.map_append, List.map_append]
  rfl
section
variable {P : Program} {w : World} {K : PySem.W.Frag} {mg : Str → Option Value} {base : Heap}
theorem scBeatenRows : FnScope ["held", "everyone", "measures", "rows", "one", "other"] ["held"] (defScope sBeatenRows) := ⟨rfl, rfl, rfl, by decide +kernel, rfl, by decide +kernel, by decide +kernel⟩
theorem ok_beatenRows {CH : Addr} (D : DefT K mg "beaten_rows" sBeatenRows ["held"]) (cH : Cls K CH) (NH : HeldT K CH) (MI : MethT K CH "every_item" "HeldList.every_item" sEveryI ["self"]) (MM : MethT K CH "every_measure" "HeldList.every_measure" sEveryM ["self"])
    (FB : DefT K mg "beats" sBeats ["gains", "one", "other", "chosen"]) (gl : mg "len" = none) (gr : mg "range" = none) (gi : mg "list" = none) (ga : mg "any" = none) : FnOk P w K mg base CX0 2 D.f D.fd ["held"] (spBeatenRows CH) := by
  refine D.F.ok scBeatenRows (fun vs H Q E h => ?_) (fun cdv A_ outer s H vs Q E hr h => ?_)
  · obtain ⟨x, s, rfl, _⟩ := h
    rfl
  · obtain ⟨x, sh, rfl, hH, ok, q⟩ := h
    refine ⟨_, pss_cons (ps_set (i := 1) scBeatenRows.nd rfl (Or.inl rfl) (pe_meth0 (pv 0) cH MI.m (ok_everyI MI cH NH gl gr gi) hr MI.b .nil pass0))
      (pss_cons (ps_set (i := 2) scBeatenRows.nd rfl (Or.inr rfl) (pe_meth0 (pv 0) cH MM.m (ok_everyM MM cH NH gl gr gi) hr MM.b .nil pass0))
      (pss_cons (ps_set (i := 3) scBeatenRows.nd rfl (Or.inl rfl) (pe_lst pa_nil))
      (pss_cons (ps_for PassesOwn.never rfl (pi_list (pv 1)) (pg_name (i := 4) scBeatenRows.nd rfl (Or.inr rfl))
        (pss_one (ps_expr (pe_bm PySem.F.plainAttrs_list PySem.F.slot_list_append PySem.F.type_list_append mt_append (pv 3) (pa_cons (pe_lc (own := [("other", 5)]) (g := gName 5)
          (tt := tB (tCall (spBeats K) [] E0 (tCons (tFld K (tVar 0) "gains") (tCons (tVar 4) (tCons (tVar 5) (tCons (tVar 2) tNil)))))) (te := tVar 5) rfl scBeatenRows.nd (pi_list (pv 1))
          (blkOk_by (own := [("other", 5)]) (N := ["held", "everyone", "measures", "rows", "one", "other"]) (sc := defScope sBeatenRows) (by decide +kernel)) (fun _ _ _ _ _ => pg_name (i := 5) scBeatenRows.nd rfl (Or.inl rfl))
          (fun _ _ _ _ _ => pts_one (pt_val (pe_def FB (ok_beats FB ga) hr (pa_cons (pe_fld (pv 0) rfl) (pa_cons (pv 4) (pa_cons (pv 5) (pa_cons (pv 2) pa_nil))))))) (fun _ _ _ _ _ => pv 5)) pa_nil)))))
      (pss_one (ps_ret (pv 3)))))), ?_⟩
    obtain ⟨⟨dx, h1⟩, _⟩ := id hH
    have h16 := ok.i16
    have m4 := ok.m4
    refine ⟨_, rfl, x.a, dx, _, rfl, h1, hF_everyI x, ?_⟩
    dsimp only [tNil]
    refine ⟨x, sh, rfl, hH, ok, fun e he => ?_⟩
    have s1 := same_upd (o := .lst (nv (List.range sh.items.length))) he
    have hE : upd H e (.lst (nv (List.range sh.items.length))) e = some (.lst (nv (List.range sh.items.length))) := upd_same
    revert s1 hE
    generalize upd H e (.lst (nv (List.range sh.items.length))) = H1
    intro s1 hE
    refine ⟨_, rfl, x.a, dx, _, rfl, s1 _ _ h1, hF_everyM x, ?_⟩
    dsimp only [tNil]
    refine ⟨x, sh, rfl, hH.same s1, ok, fun m hm => ?_⟩
    have s2 := s1.trans (same_upd (o := .lst (nv (List.range sh.ms.length))) hm)
    have hM : upd H1 m (.lst (nv (List.range sh.ms.length))) m = some (.lst (nv (List.range sh.ms.length))) := upd_same
    have hE2 := (same_upd (o := .lst (nv (List.range sh.ms.length))) hm) _ _ hE
    revert s2 hM hE2
    generalize upd H1 m (.lst (nv (List.range sh.ms.length))) = H2
    intro s2 hM hE2
    refine ⟨Nat.zero_le _, fun r0 hr0 => ?_⟩
    have s3 := same_upd (o := .lst []) hr0
    have hr0H : H r0 = none := s2.free hr0
    refine ⟨_, rfl, e, rfl, ⟨_, SqL.of (s3 _ _ hE2)⟩, for_list (K := K) (a := e) (xs := nv (List.range sh.items.length)) (fun j σ H' => ∃ (v : Option V) (zs : List V), σ = [some (.ref x.a), some (.ref e), some (.ref m), some (.ref r0), v, none] ∧ Same H2 H' ∧ H' r0 = some (.lst zs) ∧ RL H' zs (((List.range j).map (bRow sh)).map nI) ∧ New H zs ∧ V.ref r0 ∉ zs)
      ⟨none, [], rfl, s3, upd_same, .nil, New.nil _, List.not_mem_nil⟩ (fun j σ H' _ ⟨_, _, _, z, _⟩ => z.seq (SqL.of hE2)) ?_ ?_⟩
    · rintro j y σ H6 hj ⟨v, zs, rfl, s6, hr6, hR6, hN6, n6⟩
      obtain ⟨i, hi, rfl⟩ := nv_at hj
      have hjl : j < sh.items.length := by
        have := (List.getElem?_eq_some_iff.mp hi).1
        rw [List.length_range] at this
        exact this
      rw [List.getElem?_range hjl] at hi
      cases hi
      have s06 := s2.trans s6
      have lz := hR6.len
      rw [List.length_map, List.length_map, List.length_range] at lz
      refine ⟨_, rfl, .inl ⟨rfl, _, SqL.of hr6⟩, _, rfl, e, rfl, ⟨_, SqL.of (s6 _ _ hE2)⟩, fun D hD => ?_⟩
      refine lc_keep (walk_list (xs := nv (List.range sh.items.length))) (fun t => beatsM (Vaskya.rows sh) j t (List.range sh.ms.length)) (fun t => V.int (t : Nat)) hD (by rw [nv_len, List.length_range]; omega) (fun H' sm => sm.seq (SqL.of (s6 _ _ hE2))) ?_ ?_
      · rintro t y H' H3 G N ht sm hne ⟨rfl, hy⟩ hg hno
        obtain ⟨i, hi, rfl⟩ := nv_at hy
        rw [nv_len, List.length_range] at ht
        rw [List.getElem?_range ht] at hi
        cases hi
        have s07 := s06.trans sm
        refine ⟨rfl, ?_⟩
        refine ⟨_, rfl, x.a, CH, dx, _, _, rfl, s07 _ _ h1, cH, NH.nG, hF_gs x, _, rfl, _, rfl, _, rfl, x.gs, m, Vaskya.rows sh, sh.ms.length, j, t, List.range sh.ms.length, rfl, (hH.gains).same s07, rows_wide ok, by rw [rows_len]; exact hjl, by rw [rows_len]; exact ht,
          SqL.of ((s6.trans sm) _ _ hM), (fun m hm => List.mem_range.mp hm), by rw [List.length_range]; omega, fun H4 s4 => ⟨_, rfl, ?_⟩⟩
        cases z : beatsM (Vaskya.rows sh) j t (List.range sh.ms.length) with
        | true => exact iteT ⟨_, rfl, hg z H4 s4⟩
        | false => exact iteF (hno z H4 s4)
      · intro H7 s7 hD7
        have e9 : ((List.range (nv (List.range sh.items.length)).length).filter fun t => beatsM (Vaskya.rows sh) j t (List.range sh.ms.length)).map (fun t => V.int (t : Nat)) = (nI (bRow sh j)).map V.int := by
          rw [nv_len, List.length_range, ← nv_nI]
          rfl
        rw [e9] at hD7
        have hr7 := s7 _ _ hr6
        refine ⟨r0, _, _, rfl, rfl, hr7, small_line (by omega), ?_⟩
        have nDr : D ≠ r0 := fun z => by
          rw [z, hr6] at hD
          cases hD
        have kp : ∀ {us : List V} {ls : List (List Int)}, RL H7 us ls → V.ref r0 ∉ us → RL (upd H7 r0 (.lst (zs ++ [V.ref D]))) us ls := fun {us ls} r nn => r.keep fun b o hb e => by
          rw [upd_ne (fun z => nn (by rw [← z]; exact hb))]
          exact e
        refine ⟨_, zs ++ [V.ref D], rfl, fun b o e => ?_, upd_same, ?_, hN6.app (New.one (s06.free hD)), fun z => ?_⟩
        · rw [upd_ne (ne_of_none e hr0)]
          exact s7 _ _ (s6 b o e)
        · rw [rows_take hjl]
          refine rl_app (kp (hR6.same s7) n6) (.cons ?_ .nil)
          rw [upd_ne nDr]
          exact hD7
        · rcases List.mem_append.mp z with z | z
          · exact n6 z
          · exact nDr (V.ref.inj (List.mem_singleton.mp z)).symm
    · rintro σ H6 ⟨v, zs, rfl, s6, hr6, hR6, hN6, n6⟩
      rw [nv_len, List.length_range] at hR6
      exact ⟨_, rfl, q H6 r0 (s2.trans s6) hr0H ⟨zs, hr6, hR6, hN6⟩⟩

/-! ### beaten_together -/
def spBT : Sp := fun vs H Q _ => ∃ (b c : Addr) (ws : List V) (R : List (List Nat)) (S : List Nat) (xs : List V), vs = [.ref b, .ref c] ∧ H b = some (.lst ws) ∧ RL H ws (R.map nI) ∧ H c = some (.lst (nv S)) ∧ (∀ i ∈ S, i < R.length) ∧ (∀ r ∈ R, r.length ≤ 16) ∧ S.length ≤ 16 ∧ ∀ H', Same H H' → Q (.int (covF R S : Nat)) H'
theorem scBT : FnScope ["beaten", "some", "all_beaten", "item"] ["beaten", "some"] (defScope sBT) := ⟨rfl, rfl, rfl, by decide +kernel, rfl, by decide +kernel, by decide +kernel⟩
theorem catR_len {R : List (List Nat)} (hR : ∀ r ∈ R, r.length ≤ 16) : ∀ S : List Nat, (S.flatMap fun i => R.getD i []).length ≤ S.length * 16
  | [] => by simp
  | i :: S => by
    have ih := catR_len hR S
    have h1 : (R.getD i []).length ≤ 16 := by
      rw [List.getD_eq_getElem?_getD]
      cases e : R[i]? with
      | none => exact Nat.zero_le _
      | some r => exact hR r (List.mem_of_getElem? e)
    rw [List.flatMap_cons, List.length_append, List.length_cons, Nat.succ_mul]
    omega
theorem ok_BT (D : DefT K mg "beaten_together" sBT ["beaten", "some"]) (gl : mg "len" = none) (gs : mg "set" = none) : FnOk P w K mg base CX0 1 D.f D.fd ["beaten", "some"] spBT := by
  refine D.F.ok scBT (fun vs H Q E h => ?_) (fun cdv A_ outer s H vs Q E hr h => ?_)
  · obtain ⟨b, c, ws, R, S, xs, rfl, _⟩ := h
    rfl
  · obtain ⟨b, c, ws, R, S, xs, rfl, hb, hR, hc, hS, hr16, hz, q⟩ := h
    refine ⟨_, pss_cons (ps_set (i := 2) scBT.nd rfl (Or.inl rfl) (pe_lst pa_nil))
      (pss_cons (ps_for PassesOwn.never rfl (pi_list (pv 1)) (pg_name (i := 3) scBT.nd rfl (Or.inl rfl))
        (pss_one (ps_expr (pe_bm PySem.F.plainAttrs_list PySem.F.slot_list_extend PySem.F.type_list_extend mt_extend (pv 2) (pa_cons (pe_ix ix_list (pv 0) (pv 3) (fun _ _ => rfl)) pa_nil)))))
      (pss_one (ps_ret (pe_lenSetN gl gs (pv 2))))), ?_⟩
    refine ⟨Nat.zero_le _, fun a0 ha0 => ?_⟩
    have s1 := same_upd (o := .lst []) ha0
    refine ⟨_, rfl, c, rfl, ⟨_, SqL.of (s1 _ _ hc)⟩, for_list (K := K) (a := c) (xs := nv S) (fun j σ H' => ∃ v : Option V, σ = [some (.ref b), some (.ref c), some (.ref a0), v] ∧ Same H H' ∧ H' a0 = some (.lst (nv ((S.take j).flatMap fun i => R.getD i []))))
      ⟨none, rfl, s1, by rw [upd_same]; rfl⟩ (fun j σ H' _ ⟨_, _, z, _⟩ => z.seq (SqL.of hc)) ?_ ?_⟩
    · rintro j y σ H6 hj ⟨v, rfl, s6, ha6⟩
      obtain ⟨i, hi, rfl⟩ := nv_at hj
      have hil := hS i (List.mem_of_getElem? hi)
      have hri := List.getElem?_eq_getElem hil
      obtain ⟨a, h1, h2⟩ := hR.get (i := i) (l := nI R[i]) (by rw [List.getElem?_map, hri]; rfl)
      have hf := flatN_take (f := fun i => R.getD i []) hi
      have hl := catR_len hr16 (S.take j)
      have hl2 : (S.take j).length ≤ 16 := by rw [List.length_take]; omega
      have hl3 := hr16 _ (List.getElem_mem hil)
      rw [hf]
      have eR : R.getD i [] = R[i] := getD_of hri
      rw [eR]
      refine ⟨_, rfl, .inl ⟨rfl, _, SqL.of ha6⟩, _, rfl, _, rfl, b, ws, _, .ref a, rfl, rfl, SqL.of (s6 _ _ hb), atI_nat h1, a0, a, _, _, rfl, rfl, ha6, s6 _ _ h2, line10 (by rw [nv_len, List.length_map]; unfold nI; rw [List.length_map]; omega), ?_⟩
      refine ⟨_, rfl, fun z o e => ?_, ?_⟩
      · rw [upd_ne (ne_of_none e ha0)]
        exact s6 _ _ e
      · rw [upd_same, nv_app, nv_nI R[i]]
    · rintro σ H6 ⟨v, rfl, s6, ha6⟩
      rw [nv_len, List.take_length] at ha6
      have hl := catR_len hr16 S
      refine ⟨_, rfl, a0, nI (S.flatMap fun i => R.getD i []), rfl, SqL.of (by rw [← nv_nI]; exact ha6), by unfold nI; rw [List.length_map]; omega, q H6 s6⟩
end
end Fm

/-! max(a list, key=a lambda of one parameter that captures names of the def). -/
namespace Fm
open PySem PySem.Spec PyProof.Rows L2 LamX NdefX
def Keeps (H H' : Hp) : Prop := ∀ b o, H b = some o → H' b = some o
theorem Keeps.trans {H H1 H2 : Hp} (a : Keeps H H1) (b : Keeps H1 H2) : Keeps H H2 := fun c o h => b c o (a c o h)
theorem Keeps.seq {K : PySem.W.Frag} {H H' : Hp} {l : Addr} {xs : List V} (k : Keeps H H') (h : SqL K H l xs) : SqL K H' l xs := by
  rcases h with (h | ⟨o, h⟩) | h
  · exact .inl (.inl (k _ _ h))
  · exact .inl (.inr ⟨o, k _ _ h⟩)
  · exact .inr h
/-- the best of the first j items -/
def Best (kf : Nat → Int) (xs : List V) (j : Nat) (old : List Value) : Prop :=
  (j = 0 ∧ old = []) ∨ ∃ (i : Nat) (x : V) (u : Value) (t : Tok), old = [u, .int (kf i) t] ∧ xs[i]? = some x ∧ RelV x u ∧ i < j ∧ ∀ j', j' < j → kf j' ≤ kf i ∧ (j' < i → kf j' < kf i)
section
variable {X : Cx} {pins : List (Addr × Obj)} {σ : L2.St} {l f IA SA : Addr} {fo : Obj} {xs : List V} {kf : Nat → Int} {H0 : Hp}
theorem max_loop {R : Result → Shared → Prop} (hh : X.A.handled = none) (hlI : l ≠ IA) (hSI : SA ≠ IA) (hl : SqL X.K H0 l xs) (hne : 0 < xs.length)
    (turn : ∀ (i : Nat) (x : V) (u : Value) (H : Hp) (s : Shared) (pl : List (Addr × Obj)), xs[i]? = some x → RelV x u → Keeps H0 H → (f, fo) ∈ pl → Inv X pl σ H s →
      wpAny (model X.prog X.w) X.A.in1 (call (.ref f) [u]) (EP X pl σ fun v H' => v = .int (kf i) ∧ Keeps H H') (fun _ _ => False) s)
    (hR : ∀ (i : Nat) (x : V) (u : Value) (H : Hp) (s : Shared), xs[i]? = some x → RelV x u → (∀ j, j < xs.length → kf j ≤ kf i ∧ (j < i → kf j < kf i)) → Keeps H0 H → Inv X pins σ H s → R (.ok (.ret u)) s) :
    ∀ (r j : Nat) (H : Hp) (s : Shared) (old : List Value) (c : Nat) (oI : Obj), xs.length - j = r → j ≤ xs.length → Keeps H0 H → Inv X (pins ++ [(f, fo), (SA, seqObj "list" old.toArray c), (IA, oI)]) σ H s →
      FpOk X (pins ++ [(f, fo)]) H SA → FpOk X (pins ++ [(f, fo)]) H IA → (∀ h : Heap, h.get? IA = some oI → h.IsListIter IA l j) → (∀ v, oI.data ≠ .cell v) → Best kf xs j old →
      codeAny (model X.prog X.w) X.A (.builtin "max.loop" ⟨[.ref IA, .ref f, .ref SA], []⟩) R s := by
  have hname : (toString "max" ++ toString ".loop" : String) = "max.loop" := by decide
  have dS : ∀ (old : List Value) (c : Nat) v, (seqObj "list" old.toArray c).data ≠ .cell v := fun old c v z => nomatch z
  have sub : ∀ {oS oI : Obj} {p : Addr × Obj}, p ∈ pins ++ [(f, fo)] → p ∈ pins ++ [(f, fo), (SA, oS), (IA, oI)] := fun {oS oI p} h => by
    rcases List.mem_append.mp h with h | h
    · exact List.mem_append_left _ h
    · rw [List.mem_singleton.mp h]
      exact List.mem_append_right _ (.head _)
  -- the pins together from those of the outside and the two of the loop
  have glue : ∀ {H : Hp} {s : Shared} {oS oI : Obj}, Inv X (pins ++ [(f, fo)]) σ H s → FpOk X (pins ++ [(f, fo)]) H SA → FpOk X (pins ++ [(f, fo)]) H IA → s.heap.get? SA = some oS → s.heap.get? IA = some oI → (∀ v, oS.data ≠ .cell v) → (∀ v, oI.data ≠ .cell v) →
      Inv X (pins ++ [(f, fo), (SA, oS), (IA, oI)]) σ H s := fun {H s oS oI} I f1 f2 e1 e2 d1 d2 => I.pins_of fun p hp => by
    rcases List.mem_append.mp hp with hp | hp
    · exact I.pin p (List.mem_append_right _ (List.mem_append_left _ hp))
    · rcases List.mem_cons.mp hp with rfl | hp
      · exact I.pin _ (List.mem_append_right _ (List.mem_append_right _ (.head _)))
      · rcases List.mem_cons.mp hp with rfl | hp
        · exact ⟨e1, f1.1, f1.2.1, f1.2.2.1, d1⟩
        · rw [List.mem_singleton.mp hp]
          exact ⟨e2, f2.1, f2.2.1, f2.2.2.1, d2⟩
  have part : ∀ {H : Hp} {s : Shared} {oS oI : Obj}, Inv X (pins ++ [(f, fo), (SA, oS), (IA, oI)]) σ H s → Inv X (pins ++ [(f, fo)]) σ H s ∧ s.heap.get? SA = some oS ∧ H SA = none ∧ s.heap.get? IA = some oI ∧ H IA = none := fun {H s oS oI} I => by
    have hS := I.pin (SA, oS) (List.mem_append_right _ (List.mem_append_right _ (.tail _ (.head _))))
    have hI := I.pin (IA, oI) (List.mem_append_right _ (List.mem_append_right _ (.tail _ (.tail _ (.head _)))))
    exact ⟨I.pins_of fun p hp => I.pin p (List.mem_append_right _ (sub hp)), hS.1, hS.2.1, hI.1, hI.2.1⟩
  have at' : ∀ {H H' : Hp} {b : Addr}, FpOk X (pins ++ [(f, fo)]) H b → H' b = none → FpOk X (pins ++ [(f, fo)]) H' b := fun a n => ⟨n, a.2⟩
  have turned : ∀ {H : Hp} {s : Shared} {b : Addr} {h' : Heap} {t' : Nat}, Inv X (pins ++ [(f, fo)]) σ H s → FpOk X (pins ++ [(f, fo)]) H b → (∀ c o, c ≠ b → s.heap.get? c = some o → h'.get? c = some o) → Inv X (pins ++ [(f, fo)]) σ H { s with heap := h', toks := t' } :=
    fun {H s b h' t'} I a k => I.turned k a.1 a.2.1 a.2.2.2.1 a.2.2.2.2.1 a.2.2.2.2.2
  intro r
  induction r with
  | zero =>
    intro j H s old c oI hr hj sm I fS fI hit hd hb
    obtain ⟨J, hS, nS, hI, nI⟩ := part I
    obtain ⟨its, rv, hpl, hz⟩ := J.list (sm.seq hl)
    have hsz : its.toArray.size = xs.length := by rw [List.size_toArray, rv.length]
    have W := Walks.list (prog := X.prog) (w := X.w) (A := X.A.in1) hh IA l hlI its.toArray
    refine codeAny_builtin PySem.F.entry_max_loop ?_
    rw [Around.under_plainId PySem.F.plain_max_loop _]
    show wpAny _ X.A.in1 (seqItems? (.ref SA) >>= _) _ _ _
    refine wpAny_bind (wpAny_seqItems hS rfl ?_)
    show wpAny _ X.A.in1 (tryCatch (pyNext (.ref IA)) _ >>= _) _ _ _
    have hjx : j = its.toArray.size := by rw [hsz]; omega
    refine wpAny_bind (wpAny_tryCatch (W.done _ _ _ ⟨by rw [← hjx]; exact hit _ hI, hpl.isList⟩ fun h' tk' hk' => ?_))
    rcases hb with ⟨rfl, _⟩ | ⟨i, x, u, t, rfl, hx, rx, hij, hbest⟩
    · omega
    · have J1 : Inv X (pins ++ [(f, fo)]) σ H { s with heap := h', toks := tk' } := turned J fI fun b o hb e => hk' b o (fun q => hb (List.mem_singleton.mp q)) e
      have hS' := hk' SA _ (by simpa using hSI) hS
      have s1 := Heap.SameBut.update h' SA (Obj.mapSeq fun _ => (#[] : Array Value))
      show wpAny _ X.A.in1 (updateSeq SA (fun _ => #[]) >>= _) _ _ _
      refine wpAny_bind ?_
      refine wpAny_updateSeq hS' rfl (wpAny_bind (wpAny_letGo (wpAny_pure ?_)))
      refine hR i x u H _ hx rx (fun j' hj' => hbest j' (by omega)) sm ?_
      exact (turned (t' := tk') J1 fS fun b o hb e => (s1.2 b hb).trans e).pins_of fun p hp => (turned (t' := tk') J1 fS fun b o hb e => (s1.2 b hb).trans e).pin p (List.mem_append_right _ (List.mem_append_left _ hp))
  | succ r ih =>
    intro j H s old c oI hr hj sm I fS fI hit hd hb
    obtain ⟨J, hS, nS, hI, nI⟩ := part I
    obtain ⟨its, rv, hpl, hz⟩ := J.list (sm.seq hl)
    have hsz : its.toArray.size = xs.length := by rw [List.size_toArray, rv.length]
    have W := Walks.list (prog := X.prog) (w := X.w) (A := X.A.in1) hh IA l hlI its.toArray
    have hlt : j < xs.length := by omega
    refine codeAny_builtin PySem.F.entry_max_loop ?_
    rw [Around.under_plainId PySem.F.plain_max_loop _]
    show wpAny _ X.A.in1 (seqItems? (.ref SA) >>= _) _ _ _
    refine wpAny_bind (wpAny_seqItems hS rfl ?_)
    show wpAny _ X.A.in1 (tryCatch (pyNext (.ref IA)) _ >>= _) _ _ _
    refine wpAny_bind (wpAny_tryCatch (W.item j _ _ _ (by rw [hsz]; exact hlt) ⟨hit _ hI, hpl.isList⟩ fun v h' tk' hP hst' hk' => ?_))
    have hv : its[j]? = some v := by simpa using hP
    obtain ⟨x, hx⟩ : ∃ x, xs[j]? = some x := ⟨_, List.getElem?_eq_getElem hlt⟩
    obtain ⟨v', hv', rx⟩ := rv.get hx
    rw [hv] at hv'
    cases hv'
    obtain ⟨oI', hoI', hoc, hod⟩ := id hst'.1
    have J1 : Inv X (pins ++ [(f, fo)]) σ H { s with heap := h', toks := tk' } := turned J fI fun b o hb e => hk' b o (fun q => hb (List.mem_singleton.mp q)) e
    have hS' := hk' SA _ (by simpa using hSI) hS
    have dI' : ∀ v, oI'.data ≠ .cell v := fun v z => by rw [hod] at z; cases z
    have I1 := glue J1 fS fI hS' hoI' (dS old c) dI'
    show wpAny _ X.A.in1 (tryCatch (holding [v] (call (.ref f) [v])) _ >>= _) _ _ _
    refine wpAny_bind (wpAny_tryCatch (wpAny_holding (wpAny_mono (turn j x v H _ _ hx rx sm (List.mem_append_right _ (.head _)) I1) (fun y s2 he => ?_) fun _ _ hF => hF.elim)))
    obtain ⟨vy, H2, I2, ry, rfl, sm2⟩ := he
    obtain ⟨t2, rfl⟩ := ry
    obtain ⟨J2, hS2, nS2, hI2, nI2⟩ := part I2
    have sm02 := sm.trans sm2
    have fS2 := at' fS nS2
    have fI2 := at' fI nI2
    have hit2 : ∀ h : Heap, h.get? IA = some oI' → h.IsListIter IA l (j + 1) := fun h e => ⟨oI', e, hoc, hod⟩
    rcases hb with ⟨rfl, rfl⟩ | ⟨i, xi, u, t, rfl, hxi, rxi, hij, hbest⟩
    · -- the first
      have s1 := Heap.SameBut.update s2.heap SA (Obj.mapSeq fun _ => #[v, .int (kf 0) t2])
      obtain ⟨c2, hc2⟩ : ∃ c2, (s2.heap.update SA (Obj.mapSeq fun _ => #[v, .int (kf 0) t2])).get? SA = some (seqObj "list" #[v, .int (kf 0) t2] c2) := ⟨_, get?_update_seq hS2 fun _ => #[v, .int (kf 0) t2]⟩
      show wpAny _ X.A.in1 (updateSeq SA (fun _ => #[v, .int (kf 0) t2]) >>= _) _ _ _
      refine wpAny_bind ?_
      refine wpAny_updateSeq hS2 rfl ?_
      rw [hname]
      refine wpAny_pure ⟨plainId_quiet PySem.F.plain_max_loop _, ih 1 H2 _ [v, .int (kf 0) t2] c2 oI' (by omega) hlt sm02 ?_ fS2 fI2 hit2 dI' (.inr ⟨0, x, v, t2, rfl, hx, rx, Nat.zero_lt_one, fun j' hj' => ?_⟩)⟩
      · exact glue (turned (t' := s2.toks) J2 fS2 fun b o hb e => (s1.2 b hb).trans e) fS2 fI2 hc2 ((s1.2 IA hSI.symm).trans hI2) (dS _ c2) dI'
      · have e0 : j' = 0 := by omega
        subst e0
        exact ⟨Int.le_refl _, fun z => absurd z (Nat.lt_irrefl _)⟩
    · show wpAny _ X.A.in1 (tryCatch (holding [v, .int (kf j) t2] (richCompare .Gt (.int (kf j) t2) (.int (kf i) t) >>= _)) _ >>= _) _ _ _
      refine wpAny_bind (wpAny_tryCatch (wpAny_holding (wpAny_bind (CmpOf.ints_gt (prog := X.prog) (w := X.w) (A := X.A.in1) (P := fun i v => ∃ t, v = .int (kf i) t) kf (fun i v h => h) j i _ _ _ _ _ ⟨t2, rfl⟩ ⟨t, rfl⟩ ?_))))
      refine wpAny_bind (wpAny_holding (wpAny_truthy_bool ?_))
      refine wpAny_bind (wpAny_letGo (wpAny_pure ?_))
      by_cases hb' : kf j > kf i
      · have s1 := Heap.SameBut.update s2.heap SA (Obj.mapSeq fun _ => #[v, .int (kf j) t2])
        obtain ⟨c2, hc2⟩ : ∃ c2, (s2.heap.update SA (Obj.mapSeq fun _ => #[v, .int (kf j) t2])).get? SA = some (seqObj "list" #[v, .int (kf j) t2] c2) := ⟨_, get?_update_seq hS2 fun _ => #[v, .int (kf j) t2]⟩
        simp only [hb', decide_true, if_true]
        refine wpAny_bind ?_
        refine wpAny_updateSeq hS2 rfl (wpAny_bind (wpAny_letGo ?_))
        rw [hname]
        refine wpAny_pure ⟨plainId_quiet PySem.F.plain_max_loop _, ih (j + 1) H2 _ [v, .int (kf j) t2] c2 oI' (by omega) hlt sm02 ?_ fS2 fI2 hit2 dI' (.inr ⟨j, x, v, t2, rfl, hx, rx, Nat.lt_succ_self _, fun j' hj' => ?_⟩)⟩
        · exact glue (turned (t' := s2.toks) J2 fS2 fun b o hb e => (s1.2 b hb).trans e) fS2 fI2 hc2 ((s1.2 IA hSI.symm).trans hI2) (dS _ c2) dI'
        · by_cases e : j' = j
          · subst e
            exact ⟨by omega, fun _ => by omega⟩
          · have hb1 := (hbest j' (by omega)).1
            exact ⟨by omega, fun _ => by omega⟩
      · simp only [hb', decide_false, Bool.false_eq_true, if_false]
        refine wpAny_bind (wpAny_letGo ?_)
        rw [hname]
        refine wpAny_pure ⟨plainId_quiet PySem.F.plain_max_loop _, ih (j + 1) H2 _ [u, .int (kf i) t] c oI' (by omega) hlt sm02 I2 fS2 fI2 hit2 dI' (.inr ⟨i, xi, u, t, rfl, hxi, rxi, by omega, fun j' hj' => ?_⟩)⟩
        by_cases e : j' = j
        · subst e
          exact ⟨by omega, fun _ => by omega⟩
        · exact hbest j' (by omega)

theorem max_run {s : Shared} {H : Hp} {Q : Value → Shared → Prop} {E : Value → Shared → Prop} (hh : X.A.handled = none) (I : Inv X (pins ++ [(f, fo)]) σ H s) (hl : SqL X.K H l xs) (hne : 0 < xs.length)
    (turn : ∀ (i : Nat) (x : V) (u : Value) (H1 : Hp) (s : Shared) (pl : List (Addr × Obj)), xs[i]? = some x → RelV x u → Keeps H H1 → (f, fo) ∈ pl → Inv X pl σ H1 s →
      wpAny (model X.prog X.w) X.A.in1 (call (.ref f) [u]) (EP X pl σ fun v H' => v = .int (kf i) ∧ Keeps H1 H') (fun _ _ => False) s)
    (hQ : ∀ (i : Nat) (x : V) (u : Value) (H1 : Hp) (s : Shared), xs[i]? = some x → RelV x u → (∀ j, j < xs.length → kf j ≤ kf i ∧ (j < i → kf j < kf i)) → Keeps H H1 → Inv X pins σ H1 s → Q u s) :
    wpAny (model X.prog X.w) X.A (call (.builtin "max") [.ref l] [(Str.ofString "key", .ref f)]) Q E s := by
  have hname : (toString "max" ++ toString ".loop" : String) = "max.loop" := by decide
  obtain ⟨its, rv, hpl, hz⟩ := I.list hl
  have hls := hpl.isList
  obtain ⟨ol, hol, _⟩ := id hls
  have hll : l < s.heap.objs.size := Heap.lt_size hol
  refine kmk_tree PySem.F.kind_max PySem.F.plain_max PySem.F.entry_max (kmk_max_key _ _) ?_
  show wpAny _ X.A.in1 (Builtin.Builtins.bindParams "max" ["key", "default"] 0 ⟨[], [(Str.ofString "key", .ref f)]⟩ >>= _) _ _ s
  refine wpAny_bind (wpAny_of_eq (show Builtin.Builtins.bindParams "max" ["key", "default"] 0 ⟨[], [(Str.ofString "key", .ref f)]⟩ = pure [some (.ref f), none] from rfl) ?_)
  refine wpAny_bind (wpAny_pure ?_)
  refine wpAny_bind (wpAny_pyIter_list hls ?_)
  refine wpAny_bind (wpAny_newList ?_ (Nat.zero_le _))
  rw [hname]
  have z1 : (s.heap.push { cls := .type "list_iterator", data := .fields #[.ref l, .int 0 0] }).objs.size = s.heap.objs.size + 1 := size_push' ..
  have gI : ((s.heap.push { cls := .type "list_iterator", data := .fields #[.ref l, .int 0 0] }).push (seqObj "list" #[] 0)).get? s.heap.objs.size = some { cls := .type "list_iterator", data := .fields #[.ref l, .int 0 0] } :=
    Heap.get?_push_of_some _ (Heap.get?_push_size _ rfl)
  have gS : ((s.heap.push { cls := .type "list_iterator", data := .fields #[.ref l, .int 0 0] }).push (seqObj "list" #[] 0)).get? (s.heap.push { cls := .type "list_iterator", data := .fields #[.ref l, .int 0 0] }).objs.size = some (seqObj "list" #[] 0) := Heap.get?_push_size _ rfl
  have J : Inv X (pins ++ [(f, fo)]) σ H { s with heap := (s.heap.push { cls := .type "list_iterator", data := .fields #[.ref l, .int 0 0] }).push (seqObj "list" #[] 0), toks := s.toks } := I.kept fun b u e => Heap.get?_push_of_some _ (Heap.get?_push_of_some _ e)
  have fI : FpOk X (pins ++ [(f, fo)]) H s.heap.objs.size := I.fpOk (Nat.le_refl _) (I.hok.fresh (Nat.le_refl _))
  have fS : FpOk X (pins ++ [(f, fo)]) H (s.heap.push { cls := .type "list_iterator", data := .fields #[.ref l, .int 0 0] }).objs.size := I.fpOk (by rw [z1]; exact Nat.le_succ _) (I.hok.fresh (by rw [z1]; exact Nat.le_succ _))
  refine wpAny_pure ⟨plainId_quiet PySem.F.plain_max_loop _, max_loop (IA := s.heap.objs.size) (xs := xs) (kf := kf) (H0 := H) (pins := pins) (fo := fo) hh (Nat.ne_of_lt hll) (by rw [z1]; exact Nat.ne_of_gt (Nat.lt_succ_self _)) hl hne turn ?_ _ 0 H _ [] 0 { cls := .type "list_iterator", data := .fields #[.ref l, .int 0 0] } rfl (Nat.zero_le _) (fun _ _ e => e) ?_ fS fI (fun h e => ⟨_, e, rfl, rfl⟩) (fun v z => nomatch z) (.inl ⟨rfl, rfl⟩)⟩
  · intro i x u H1 s1 hx rx hb sm I1
    exact hQ i x u H1 s1 hx rx hb sm I1
  · refine J.pins_of fun p hp => ?_
    rcases List.mem_append.mp hp with hp | hp
    · exact J.pin p (List.mem_append_right _ (List.mem_append_left _ hp))
    · rcases List.mem_cons.mp hp with rfl | hp
      · exact J.pin _ (List.mem_append_right _ (List.mem_append_right _ (.head _)))
      · rcases List.mem_cons.mp hp with rfl | hp
        · exact ⟨gS, fS.1, fS.2.1, fS.2.2.1, fun v z => nomatch z⟩
        · rw [List.mem_singleton.mp hp]
          exact ⟨gI, fI.1, fI.2.1, fI.2.2.1, fun v z => nomatch z⟩
end
/-! ### the lambda -/
abbrev lamF (X : Cx) (params : Arguments) (scope : Scope) (c' : Addr) : NF := ⟨"<lambda>", X.env.qual ++ "<lambda>", params, [], scope, cloFrom X.env.cells scope.names [], c'⟩
abbrev lamO (X : Cx) (params : Arguments) (body : Expr) (scope : Scope) (c' : Addr) (pm ctv : Value) : Obj := PySem.W.kla_obj "<lambda>" (X.env.qual ++ "<lambda>") params body scope (cloFrom X.env.cells scope.names []) pm c' ctv
section
variable {X : Cx} {pins : List (Addr × Obj)} {σ : L2.St} {H : Hp} {s : Shared} {params : Arguments} {body : Expr} {scope : Scope} {x : Str} {N fr : List Str} {js : List Nat} {k : Nat} {tb : TE}
/-- it is called with one argument -/
theorem lam_call {f c' : Addr} {pm ctv : Value} {v : V} {u : Value} {Q : VK} (I : Inv X pins σ H s) (S : NScope N [x] fr scope) (cp : Caps X (cloFrom X.env.cells scope.names []) fr js) (hf : s.heap.get? f = some (lamO X params body scope c' pm ctv)) (hc : H c' = some (CodeO c' (X.env.qual ++ "<lambda>")))
    (hbind : ∀ (q : Str) (cl : List (Str × Addr)) (pm cv ctv : Value) (u : Value), bindArgs (PySem.W.kla_fn "<lambda>" q params body scope cl pm cv ctv) ⟨[u], []⟩ = pure [(x, u)]) (hr : Room (k + 1) X.A.in1)
    (hbody : ∀ (s : Shared) (H : Hp), Room k (X.A.in1.deeper (envF (lamF X params scope c') f s.heap.objs.size)) → PE (ncx C8.CX0 X.prog X.w X.K X.mg X.base N (lamF X params scope c') f X.A.in1 X.stack s H C8.E0) body tb)
    (rv : RelV v u) (h : tb (startF N [v] (js.map (slotAt σ))) H Q) : wpAny (model X.prog X.w) X.A.in1 (call (.ref f) [u]) (EP X pins σ Q) (fun _ _ => False) s := by
  have e0 := I.env0.in1
  have lim : s.heap.NoLimit := I.nolimit
  have C := cells_of I cp
  have rc : codeAny (model X.prog X.w) X.A.in1 (.call (.ref f) ⟨[u], []⟩) (CR C8.CX0 X.stack X.prog X.w H s Q C8.E0) s := by
    refine PySem.W.kla_callFunE hr.depth hf rfl S.co S.gen rfl (codeO_at I.hok hc) ?_
    rw [hbind]
    refine wpAny_pure (wpAny_newFunctionEnv S.nocell (fun y hy => ?_) (fun h₁ hns hsb => ⟨lim.fresh _ hsb, ?_⟩) S.kind)
    · rw [List.mem_singleton.mp hy]
      exact S.par x (.head _)
    · show codeAny _ _ (.expr body (envF (lamF X params scope c') f s.heap.objs.size)) _ _
      have kp : ∀ b o, s.heap.get? b = some o → h₁.get? b = some o := fun b o e => hsb.extBut b o (Nat.ne_of_lt (Heap.lt_size e)) (Heap.get?_push_of_some _ e)
      have J : Inv (ncx C8.CX0 X.prog X.w X.K X.mg X.base N (lamF X params scope c') f X.A.in1 X.stack s H C8.E0) [] (startF N [v] (js.map (slotAt σ))) H { s with heap := h₁, toks := s.toks + ([(x, u)] : List (Str × Value)).length } :=
        inv_startN (ps := [x]) (us := [u]) (vs := [v]) S hr.hd e0 rfl (.cons rv .nil) C hns kp
      refine PySem.W.kla_codeExpr (wpAny_mono ((hbody s H (hr.deeper _)).run [] _ _ H Q J h) (fun v' s' hq => ?_) fun e s' hq => hq)
      obtain ⟨w', H', J', rv', q⟩ := hq
      exact ⟨w', H', J'.os, J'.bare, J'.base, J'.hok, rv', q⟩
  refine wpAny_call (codeAny_mono rc fun r s' hq => ?_)
  cases r with
  | error e => exact (show False from hq).elim
  | ok fl =>
    cases fl with
    | ret u => exact I.after hq
    | next => exact False.elim hq
    | brk => exact False.elim hq
    | cont => exact False.elim hq
theorem SqL.extN {K : PySem.W.Frag} {H H' : Hp} {l : Addr} {xs : List V} (k : ExtN H H') (h : SqL K H l xs) : SqL K H' l xs := by
  rcases h with (h | ⟨o, h⟩) | h
  · exact .inl (.inl (k _ _ h (fun _ z => nomatch z)))
  · exact .inl (.inr ⟨o, k _ _ h (fun _ z => nomatch z)⟩)
  · exact .inr h
def maxB (K : PySem.W.Frag) (T : List (Addr × Str)) (N : List Str) (js : List Nat) (tb : TE) (σ : L2.St) (Q : VK) (v : V) (H1 : Hp) : Prop := ∃ (l : Addr) (xs : List V) (kf : Nat → Int), v = .ref l ∧ SqL K H1 l xs ∧ 0 < xs.length ∧ Tabs T H1 ∧
  ∀ H2, ExtN H1 H2 → Tabs T H2 → (∀ (i : Nat) (x : V) (H3 : Hp), xs[i]? = some x → Keeps H2 H3 → tb (startF N [x] (js.map (slotAt σ))) H3 fun u H4 => u = .int (kf i) ∧ Keeps H3 H4) ∧
    ∀ (i : Nat) (x : V) (H3 : Hp), xs[i]? = some x → (∀ j, j < xs.length → kf j ≤ kf i ∧ (j < i → kf j < kf i)) → Keeps H2 H3 → Q x H3
def maxL (K : PySem.W.Frag) (T : List (Addr × Str)) (N : List Str) (js : List Nat) (tb : TE) (σ : L2.St) (Q : VK) : List V → Hp → Prop
  | [v], H1 => maxB K T N js tb σ Q v H1
  | _, _ => False
def tMaxK (K : PySem.W.Frag) (T : List (Addr × Str)) (N : List Str) (js : List Nat) (tb te : TE) : TE := fun σ H Q => te σ H fun v H1 => maxL K T N js tb σ Q [v] H1
/-- max(e, key=lambda x: body) -/
theorem pe_maxkey {T : List (Addr × Str)} {c P : Addr} {e : Expr} {te : TE} {lpos kpos p pos : Pos} (hg : Gl X "max") (hm : X.mg "max" = none) (hcalm : X.calm = true) (TB : TabB X.base X.mg c P) (hcode : X.env.code = .ref c) (hmT : (P, X.env.qual ++ "<lambda>") ∈ T)
    (hu : ∀ p ∈ T, p.1 = P → p.2 = X.env.qual ++ "<lambda>") (hr : Room (k + 2) X.A) (S : NScope N [x] fr scope) (hfree : ∀ y ∈ scope.names, y.2 = .free → X.env.scope.names.lookup y.1 = some .cell ∨ X.env.scope.names.lookup y.1 = some .free)
    (hfr : ∀ y ∈ fr, (y, NameKind.free) ∈ scope.names) (hjs : js.map (fun j => X.N[j]?) = fr.map some) (hdef : defaultsOf params X.env = ([], []))
    (hbind : ∀ (q : Str) (cl : List (Str × Addr)) (pm cv ctv : Value) (u : Value), bindArgs (PySem.W.kla_fn "<lambda>" q params body scope cl pm cv ctv) ⟨[u], []⟩ = pure [(x, u)]) (he : PE X e te)
    (hbody : ∀ (s : Shared) (H : Hp) (f c' : Addr), Room k (X.A.in1.deeper (envF (lamF X params scope c') f s.heap.objs.size)) → PE (ncx C8.CX0 X.prog X.w X.K X.mg X.base N (lamF X params scope c') f X.A.in1 X.stack s H C8.E0) body tb)
    (hs : starEach [e] X.env = (false, eval e X.env) :: starEach [] X.env := by rfl) (h1 : backTo pos (starEach [e] X.env) = (false, eval e X.env) :: backTo pos (starEach [] X.env) := by rfl) (h2 : (backTo pos (starEach [e] X.env)).any (·.1) = false := by rfl) :
    PE X (.Call (.Name "max" p) [e] [⟨some "key", .Lambda params body scope lpos, kpos⟩] pos) (tMaxK X.K T N js tb te) := by
  refine ⟨fun pins s σ H Q I h => ?_⟩
  have hd : X.A.handled = none := I.ok.hd hcalm
  refine wpAny_Call_Name_kw (ld_blt I hg hm (hv := show bootBuiltins "max" = some (.builtin "max") by rfl) ?_ (by decide) (by decide))
  refine PyProof.Rows.callWith_kw (thn ((pa_cons he pa_nil hs).run pos pins s σ H (maxL X.K T N js tb σ Q) I h) fun us s1 ⟨vs, H1, I1, r1, q1⟩ => ?_) h1 h2 (by rfl) (by rfl)
  match vs, q1 with
  | [v], q1 =>
    obtain ⟨l, xs, kf, rfl, hl, hne, hT, q⟩ := q1
    obtain rfl := Vals.ref1 r1
    refine wpAny_evalAll_cons (wpAny_bind (lam_make2 I1 TB hcode hmT hu hT hdef (fun y hy e => (hfree y hy e).elim (fun z => I1.ok.has _ (.inl z)) fun z => I1.ok.has _ (.inr z)) fun f c' pm ctv H2 s2 I2 eN T2 hf hfn hfr' hco => wpAny_bind (wpAny_standAt (wpAny_pure ?_))))
    refine wpAny_evalAll_nil ?_
    obtain ⟨qk, qm⟩ := q H2 eN T2
    have cp : Caps X (cloFrom X.env.cells scope.names []) fr js := Caps.made I2.ok hfree hfr hjs
    have Ip : Inv X (pins ++ [(f, lamO X params body scope c' pm ctv)]) σ H2 s2 := I2.pins_of fun p hp => by
      rcases List.mem_append.mp hp with hp | hp
      · exact I2.pin p (List.mem_append_right _ hp)
      · rw [List.mem_singleton.mp hp]
        refine ⟨hf, hfn, fun z => ?_, fun z => hfr' ?_, fun v z => nomatch z⟩
        · obtain ⟨m, ⟨o, es, ep, ho, hd', _⟩, _⟩ := I2.loc
          have z' : f = X.env.locals := z
          rw [← z', hf] at ho
          cases ho
          cases hd'
        · rcases I2.ok.stk with e | ⟨e, e'⟩
          · rw [e]
            exact z
          · rw [e]
            unfold frs
            rw [List.filterMap_cons_some e']
            exact List.mem_cons_of_mem _ z
    show wpAny _ X.A (call (.builtin "max") [.ref l] [(Str.ofString "key", .ref f)]) _ _ _
    refine max_run (pins := pins) (xs := xs) (kf := kf) (fo := lamO X params body scope c' pm ctv) hd Ip (SqL.extN eN hl) hne (fun i x u H3 s3 pl hx rx sm hpl I3 => ?_) fun i x u H3 s3 hx rx hb sm I3 => ⟨x, H3, I3, rx, qm i x H3 hx hb sm⟩
    refine lam_call (k := k) I3 S cp (I3.pin _ (List.mem_append_right _ hpl)).1 (sm _ _ hco) hbind hr.in1 (fun s H => hbody s H f c') rx (qk i x H3 hx sm)
  | [], q1 => exact q1.elim
  | _ :: _ :: _, q1 => exact q1.elim
end
end Fm

/-! best_together, next_step: max by a lambda. -/
namespace Fm
open PySem PySem.Spec PyProof.Rows L2 LamX NdefX
open Vaskya (Measure Item Sheet)
abbrev sBest : Stmt := top 66
abbrev sNext : Stmt := top 67
/-- a def whose code object is known -/
theorem fun_okC {P : Program} {w : World} {K : PySem.W.Frag} {mg : Str → Option Value} {base : Heap} {x qual : Str} {st : Stmt} {f c : Addr} {fd : FuncData} {N ps : List Str} {k : Nat} {sp : Sp} (F : Fun K x qual st f fd) (hc : fd.code = .ref c) (S : FnScope N ps (defScope st)) (len : ∀ vs H Q E, sp vs H Q E → vs.length = ps.length)
    (hbody : ∀ (A : Around) (outer : List Env) (s : Shared) (H : Hp) (vs : List V) (Q : VK) (E : XK), Room k (A.deeper (envOfC qual (defScope st) s.heap.objs.size f (.ref c))) → sp vs H Q E →
      ∃ t, PSs (cxOf CX0 P w K mg base N qual (defScope st) f (.ref c) A outer s H E).nox (defBody st) t ∧ t { nx := fun _ H' => Q .non H', rt := Q } (start N vs) H) : FnOk P w K mg base CX0 (k + 1) f fd ps sp := by
  obtain ⟨oc, od, kV, doc, pm, an, cdv, ct, osl, rfl, lk, hcd⟩ := F.ex
  have e : cdv = .ref c := hc
  subst e
  refine fn_of lk hcd S len fun A outer s H vs Q E hr hsp => ?_
  obtain ⟨t, h, q⟩ := hbody A outer s H vs Q E hr hsp
  exact ⟨t, h.nox, q⟩
theorem extN_lst {H H' : Hp} {a : Addr} {xs : List V} (k : ExtN H H') (h : H a = some (.lst xs)) : H' a = some (.lst xs) := k _ _ h (fun _ z => nomatch z)
theorem RL.extN {H H' : Hp} {ws : List V} {ls : List (List Int)} (h : RL H ws ls) (k : ExtN H H') : RL H' ws ls := by
  induction h with
  | nil => exact .nil
  | cons e _ ih => exact .cons (extN_lst k e) ih
theorem extN_same {H H' : Hp} (s : Same H H') : ExtN H H' := fun b o e _ => s b o e
theorem lv_more : ∀ k < 17, ∀ j < 5, (∀ c ∈ lv k j, c.length = j ∧ ∀ m ∈ c, m < k) ∧ (j ≤ k → 0 < (lv k j).length) := by decide +kernel
theorem first_of {α : Type} {c : α → Nat} {d : α} {L : List α} {i : Nat} {x : α} (h : L[i]? = some x) (hb : ∀ j, j < L.length → ((c (L.getD j d) : Nat) : Int) ≤ ((c (L.getD i d) : Nat) : Int) ∧ (j < i → ((c (L.getD j d) : Nat) : Int) < ((c (L.getD i d) : Nat) : Int))) : FirstBest c L i x := by
  refine ⟨h, fun j y hy => ?_⟩
  have hj := (List.getElem?_eq_some_iff.mp hy).1
  have b := hb j hj
  rw [getD_of hy, getD_of h] at b
  exact ⟨by omega, fun z => by have := b.2 z; omega⟩
/-- the rows of who is beaten by whom -/
def BeatAt (H : Hp) (b : Addr) (R : List (List Nat)) : Prop := ∃ ws, H b = some (.lst ws) ∧ RL H ws (R.map nI)
theorem BeatAt.extN {H H' : Hp} {b : Addr} {R : List (List Nat)} (h : BeatAt H b R) (k : ExtN H H') : BeatAt H' b R := by
  obtain ⟨ws, h1, h2⟩ := h
  exact ⟨ws, extN_lst k h1, h2.extN k⟩
structure SmallR (R : List (List Nat)) : Prop where
  n16 : R.length ≤ 16
  r16 : ∀ r ∈ R, r.length ≤ 16
def lamName (x : Str) : Str := (x ++ ".<locals>.") ++ "<lambda>"
def spBest (T : List (Addr × Str)) : Sp := fun vs H Q _ => ∃ (b : Addr) (R : List (List Nat)) (k : Nat), vs = [.ref b, .int k] ∧ BeatAt H b R ∧ SmallR R ∧ k ≤ 4 ∧ k ≤ R.length ∧ Tabs T H ∧
  ∀ H' p i S, ExtN H H' → Tabs T H' → H p = none → FirstBest (covF R) (lv R.length k) i S → H' p = some (.lst (nv S)) → Q (.ref p) H'
section
variable {P : Program} {w : World} {K : PySem.W.Frag} {mg : Str → Option Value} {base : Heap} {T : List (Addr × Str)} {c Pt : Addr}
theorem scBest : FnScope ["beaten", "size"] ["beaten", "size"] (defScope sBest) := ⟨rfl, rfl, rfl, by decide +kernel, rfl, by decide +kernel, by decide +kernel⟩
theorem ok_best (D : DefT K mg "best_together" sBest ["beaten", "size"]) (hc : D.fd.code = .ref c) (TB : TabB base mg c Pt) (hT : (Pt, lamName "best_together") ∈ T) (hu : ∀ p ∈ T, p.1 = Pt → p.2 = lamName "best_together")
    (FZ : DefT K mg "sets_of_size" sSetsSize ["size", "count"]) (FL : DefT K mg "longer_sets" sLonger ["sets", "count"]) (FT : DefT K mg "beaten_together" sBT ["beaten", "some"]) (gl : mg "len" = none) (gs : mg "set" = none) (gr : mg "range" = none) (gm : mg "max" = none) :
    FnOk P w K mg base CX0 4 D.f D.fd ["beaten", "size"] (spBest T) := by
  refine fun_okC D.F hc scBest (fun vs H Q E h => ?_) (fun A_ outer s H vs Q E hr h => ?_)
  · obtain ⟨b, R, k, rfl, _⟩ := h
    rfl
  · obtain ⟨b, R, k, rfl, hb, sR, hk4, hkn, hTb, q⟩ := h
    have hr2 : Room 2 _ := hr.mono (by decide)
    refine ⟨_, pss_one (ps_ret (pe_maxkey (T := T) (c := c) (P := Pt) (x := "some") (N := ["some", "beaten"]) (fr := ["beaten"]) (js := [0]) (k := 1) (by rfl) gm rfl TB rfl hT hu hr (nscope_by (by decide +kernel)) (ndef_free (sc := defScope sBest) (fr := ["beaten"]) (by decide +kernel)) (ndef_fr (sc := defScope sBest) (by decide +kernel)) rfl rfl (fun _ _ _ _ _ _ => rfl)
      (pe_def FZ (ok_setsSize FZ FL gr) hr2 (pa_cons (pv 1) (pa_cons (pe_callB call_len_seq (by rfl) gl PySem.boot_len (pa_cons (pv 0) pa_nil)) pa_nil)))
      (fun s' H' f' c' hr' => pe_def FT (ok_BT FT gl gs) hr' (pa_cons (pv 1) (pa_cons (pv 0) pa_nil))))), ?_⟩
    obtain ⟨ws, hbw, hRw⟩ := hb
    have lw := hRw.len
    rw [List.length_map] at lw
    have n16 := sR.n16
    have lf := lv_facts R.length (by omega) k (by omega)
    have lm := lv_more R.length (by omega) k (by omega)
    refine ⟨_, rfl, _, rfl, b, _, rfl, .inl (SqL.of hbw), k, R.length, (by rw [lw]; rfl), hk4, n16, fun H1 p s1 hp hrow => ?_⟩
    obtain ⟨us, g1, g2, g3⟩ := hrow
    have lu := g2.len
    rw [List.length_map] at lu
    refine ⟨p, us, fun i => ((covF R ((lv R.length k).getD i []) : Nat) : Int), rfl, SqL.of g1, by rw [lu]; exact lm.2 hkn, hTb.ext s1, fun H2 eN T2 => ⟨fun i x H3 hx s3 => ?_, fun i x H3 hx hbest s3 => ?_⟩⟩
    · have hi : i < (lv R.length k).length := by
        have := (List.getElem?_eq_some_iff.mp hx).1
        omega
      have hS := List.getElem?_eq_getElem hi
      obtain ⟨a, h1, h2⟩ := g2.get (i := i) (l := nI (lv R.length k)[i]) (by rw [List.getElem?_map, hS]; rfl)
      rw [hx] at h1
      cases Option.some.inj h1
      have hm := lm.1 _ (List.getElem_mem hi)
      have z3 : ExtN H1 H3 := eN.trans (extN_same s3)
      refine ⟨_, rfl, _, rfl, b, a, ws, R, (lv R.length k)[i], [], rfl, extN_lst z3 (s1 _ _ hbw), (hRw.same s1).extN z3, by rw [nv_nI]; exact extN_lst z3 h2, hm.2, sR.r16, by omega, fun H4 s4 => ⟨?_, s4⟩⟩
      show _ = V.int ((covF R ((lv R.length k).getD i []) : Nat) : Int)
      rw [getD_of hS]
    · have hi : i < (lv R.length k).length := by
        have := (List.getElem?_eq_some_iff.mp hx).1
        omega
      have hS := List.getElem?_eq_getElem hi
      obtain ⟨a, h1, h2⟩ := g2.get (i := i) (l := nI (lv R.length k)[i]) (by rw [List.getElem?_map, hS]; rfl)
      rw [hx] at h1
      cases Option.some.inj h1
      have z3 : ExtN H1 H3 := eN.trans (extN_same s3)
      rw [lu] at hbest
      exact q H3 a i _ ((extN_same s1).trans z3) (T2.ext s3) (g3 a (List.mem_of_getElem? hx)) (first_of hS hbest) (by rw [nv_nI]; exact extN_lst z3 h2)
/-! ### next_step -/
def leftM (n : Nat) (T : List Nat) : List Nat := (List.range n).filter fun j => !T.contains j
def spNext (T : List (Addr × Str)) : Sp := fun vs H Q _ => ∃ (b t : Addr) (R : List (List Nat)) (Tk : List Nat), vs = [.ref b, .ref t] ∧ BeatAt H b R ∧ SmallR R ∧ H t = some (.lst (nv Tk)) ∧ (∀ i ∈ Tk, i < R.length) ∧ Tk.length < R.length ∧ Tk.length < 4 ∧ Tabs T H ∧
  ∀ H' i x, ExtN H H' → Tabs T H' → FirstBest (fun j => covF R (Tk ++ [j])) (leftM R.length Tk) i x → Q (.int (x : Nat)) H'
theorem scNext : FnScope ["beaten", "taken", "left", "item"] ["beaten", "taken"] (defScope sNext) := ⟨rfl, rfl, rfl, by decide +kernel, rfl, by decide +kernel, by decide +kernel⟩
theorem left_some {n : Nat} {Tk : List Nat} (h : Tk.length < n) : 0 < (leftM n Tk).length := by
  apply Classical.byContradiction
  intro z
  have e : leftM n Tk = [] := List.eq_nil_of_length_eq_zero (by omega)
  have hs : List.range n ⊆ Tk := fun j hj => by
    apply Classical.byContradiction
    intro hn
    have : j ∈ leftM n Tk := List.mem_filter.mpr ⟨hj, by
      have : Tk.contains j = false := by
        rw [← Bool.not_eq_true]
        exact fun c => hn (List.contains_iff_mem.mp c)
      rw [this]
      rfl⟩
    rw [e] at this
    exact nomatch this
  have := nodup_len List.nodup_range hs
  rw [List.length_range] at this
  omega
theorem ok_next (D : DefT K mg "next_step" sNext ["beaten", "taken"]) (hc : D.fd.code = .ref c) (TB : TabB base mg c Pt) (hT : (Pt, lamName "next_step") ∈ T) (hu : ∀ p ∈ T, p.1 = Pt → p.2 = lamName "next_step")
    (FT : DefT K mg "beaten_together" sBT ["beaten", "some"]) (gl : mg "len" = none) (gs : mg "set" = none) (gr : mg "range" = none) (gm : mg "max" = none) :
    FnOk P w K mg base CX0 4 D.f D.fd ["beaten", "taken"] (spNext T) := by
  refine fun_okC D.F hc scNext (fun vs H Q E h => ?_) (fun A_ outer s H vs Q E hr h => ?_)
  · obtain ⟨b, t, R, Tk, rfl, _⟩ := h
    rfl
  · obtain ⟨b, t, R, Tk, rfl, hb, sR, ht, hlt, hln, hl4, hTb, q⟩ := h
    refine ⟨_, pss_cons (ps_setLc (i := 2) (own := [("item", 3)]) (g := gName 3) (tt := tB (tOp (rIn K true) (tVar 3) (tVar 1))) (te := tVar 3) rfl scNext.nd rfl rfl (sw_true rfl rfl rfl (by decide +kernel)) (pi_range1 (by rfl) gr (pa_cons (pe_callB call_len_seq (by rfl) gl PySem.boot_len (pa_cons (pv 0) pa_nil)) pa_nil))
        (blkOk_by (own := [("item", 3)]) (N := ["beaten", "taken", "left", "item"]) (sc := defScope sNext) (by decide +kernel)) (fun _ _ _ _ _ => pg_name (i := 3) scNext.nd rfl (Or.inl rfl))
        (fun _ _ _ _ _ => pts_one (pt_cmpR op_notIn_seq (pv 3) (pv 1) rfl)) (fun _ _ _ _ _ => pv 3))
      (pss_one (ps_ret (pe_maxkey (T := T) (c := c) (P := Pt) (x := "item") (N := ["item", "beaten", "taken"]) (fr := ["beaten", "taken"]) (js := [0, 1]) (k := 1) (by rfl) gm rfl TB rfl hT hu (hr.mono (by decide)) (nscope_by (by decide +kernel)) (ndef_free (sc := defScope sNext) (fr := ["beaten", "taken"]) (by decide +kernel)) (ndef_fr (sc := defScope sNext) (by decide +kernel)) rfl rfl (fun _ _ _ _ _ _ => rfl)
        (pv 2)
        (fun s' H' f' c' hr' => pe_def FT (ok_BT FT gl gs) hr' (pa_cons (pv 1) (pa_cons (pe_op op_cat (pv 2) (pe_lst (pa_cons (pv 0) pa_nil))) pa_nil)))))), ?_⟩
    obtain ⟨ws, hbw, hRw⟩ := hb
    have lw := hRw.len
    rw [List.length_map] at lw
    have n16 := sR.n16
    have hR16 : ∀ j, ([V.int (j : Nat)] : List V).length ≤ sizeLine := fun j => (by show 1 ≤ sizeLine; decide)
    refine ⟨_, rfl, b, _, rfl, .inl (SqL.of hbw), (R.length : Int), (by rw [lw]), by omega, by omega, fun D1 hD1 => ?_⟩
    rw [Int.toNat_natCast]
    refine lc_keep walk_range (fun j => !Tk.contains j) (fun j => V.int (j : Nat)) hD1 (by omega) (fun _ _ => trivial) ?_ ?_
    · rintro j y H' H2 G N hj sm hne ⟨rfl, rfl⟩ hg hno
      refine ⟨rfl, ?_⟩
      have ez : V.int ((0 : Int) + (j : Nat)) = V.int (j : Nat) := by rw [Int.zero_add]
      refine ⟨_, rfl, _, rfl, t, nv Tk, rfl, .inl (SqL.of (sm _ _ ht)), rfl, flat_nat Tk, _, rfl, ?_⟩
      have ei : (if true = true then !inV (V.int ((0 : Int) + (j : Nat))) (nv Tk) else inV (V.int ((0 : Int) + (j : Nat))) (nv Tk)) = !Tk.contains j := by
        rw [if_pos rfl, ez, inV_nat]
      rw [ei]
      cases z : Tk.contains j with
      | true => exact iteF (hno (by rw [z]; rfl) _ (Same.refl _))
      | false =>
        refine iteT ⟨_, rfl, ?_⟩
        show G (V.int ((0 : Int) + (j : Nat))) H2
        rw [ez]
        exact hg (by rw [z]; rfl) _ (Same.refl _)
    · intro H1 s1 hD
      have e9 : ((List.range R.length).filter fun j => !Tk.contains j).map (fun j => V.int (j : Nat)) = nv (leftM R.length Tk) := rfl
      rw [e9] at hD
      have lf := left_some hln
      have lml : ∀ j ∈ leftM R.length Tk, j < R.length := fun j hj => List.mem_range.mp (List.mem_filter.mp hj).1
      refine ⟨_, rfl, D1, nv (leftM R.length Tk), fun i => ((covF R (Tk ++ [(leftM R.length Tk).getD i 0]) : Nat) : Int), rfl, SqL.of hD, by rw [nv_len]; exact lf, hTb.ext s1, fun H2 eN T2 => ⟨fun i x H3 hx s3 => ?_, fun i x H3 hx hbest s3 => ?_⟩⟩
      · obtain ⟨j, hj, rfl⟩ := nv_at hx
        have z3 : ExtN H1 H3 := eN.trans (extN_same s3)
        have ht3 := extN_lst z3 (s1 _ _ ht)
        refine ⟨_, rfl, _, rfl, _, rfl, hR16 j, fun p1 hp1 => ?_⟩
        have u1 := same_upd (o := .lst [V.int (j : Nat)]) hp1
        refine ⟨t, p1, _, _, rfl, rfl, u1 _ _ ht3, upd_same, line10 (by rw [nv_len]; simp only [List.length_cons, List.length_nil]; omega), fun p2 hp2 => ?_⟩
        have u2 := u1.trans (same_upd (o := .lst (nv Tk ++ [V.int (j : Nat)])) hp2)
        have e2 : nv Tk ++ [V.int (j : Nat)] = nv (Tk ++ [j]) := by
          rw [nv_app]
          rfl
        refine ⟨b, p2, ws, R, Tk ++ [j], [], rfl, u2 _ _ (extN_lst z3 (s1 _ _ hbw)), ((hRw.same s1).extN z3).same u2, by rw [upd_same, e2], fun i hi => ?_, sR.r16, by rw [List.length_append, List.length_singleton]; omega, fun H4 s4 => ⟨?_, u2.trans s4⟩⟩
        · rcases List.mem_append.mp hi with z | z
          · exact hlt i z
          · rw [List.mem_singleton.mp z]
            exact lml j (List.mem_of_getElem? hj)
        · show _ = V.int ((covF R (Tk ++ [(leftM R.length Tk).getD i 0]) : Nat) : Int)
          rw [getD_of hj]
      · obtain ⟨j, hj, rfl⟩ := nv_at hx
        have z3 : ExtN H1 H3 := eN.trans (extN_same s3)
        rw [nv_len] at hbest
        exact q H3 i j ((extN_same s1).trans z3) (T2.ext s3) (first_of (d := 0) hj hbest)
end
end Fm

/-! step_by_step, cover. -/
namespace Fm
open PySem PySem.Spec PyProof.Rows L2 LamX NdefX
open Vaskya (Measure Item Sheet)
abbrev sStep : Stmt := top 68
abbrev sCover : Stmt := top 86
/-- taken step by step -/
inductive Greedy (R : List (List Nat)) : List Nat → Prop
  | nil : Greedy R []
  | snoc {T : List Nat} {i x : Nat} : Greedy R T → FirstBest (fun j => covF R (T ++ [j])) (leftM R.length T) i x → Greedy R (T ++ [x])
theorem Greedy.lt {R : List (List Nat)} {T : List Nat} (g : Greedy R T) : ∀ i ∈ T, i < R.length := by
  induction g with
  | nil => exact fun i h => nomatch h
  | snoc g h ih =>
    intro i hi
    rcases List.mem_append.mp hi with z | z
    · exact ih i z
    · rw [List.mem_singleton.mp z]
      exact List.mem_range.mp (List.mem_filter.mp (List.mem_of_getElem? h.1)).1
theorem FirstBest.congr {α : Type} {c c' : α → Nat} {L : List α} {i : Nat} {x : α} (h : FirstBest c L i x) (e : ∀ y ∈ L, c y = c' y) : FirstBest c' L i x := by
  refine ⟨h.1, fun j y hy => ?_⟩
  rw [← e y (List.mem_of_getElem? hy), ← e x (List.mem_of_getElem? h.1)]
  exact h.2 j y hy
theorem greedy_is {s : Sheet} (ok : SheetOk s) {G : List Nat} (g : Greedy (bRows s) G) : ∀ m, Vaskyb.greedyBy (Vaskya.rows s) (G.length + m) [] = Vaskyb.greedyBy (Vaskya.rows s) m G := by
  induction g with
  | nil =>
    intro m
    rw [List.length_nil, Nat.zero_add]
  | @snoc T i x g h ih =>
    intro m
    have hlt := g.lt
    rw [bRows_len] at hlt
    have e1 : (T ++ [x]).length + m = T.length + (m + 1) := by
      rw [List.length_append, List.length_singleton]
      omega
    rw [e1, ih (m + 1)]
    have hn : Vaskyb.nextOf (Vaskya.rows s) T = some x := by
      refine nextOf_is (i := i) ?_
      rw [rows_len]
      rw [bRows_len] at h
      refine FirstBest.congr h fun j hj => ?_
      refine cov_is ok fun k hk => ?_
      rcases List.mem_append.mp hk with z | z
      · exact hlt k z
      · rw [List.mem_singleton.mp z]
        exact List.mem_range.mp (List.mem_filter.mp hj).1
    show (match Vaskyb.nextOf (Vaskya.rows s) T with
      | none => T
      | some i => Vaskyb.greedyBy (Vaskya.rows s) m (T ++ [i])) = _
    rw [hn]
theorem greedy_end {s : Sheet} (ok : SheetOk s) {G : List Nat} (g : Greedy (bRows s) G) : Vaskyb.greedy (Vaskya.rows s) G.length = G := greedy_is ok g 0
def spStep (T : List (Addr × Str)) : Sp := fun vs H Q _ => ∃ (b : Addr) (R : List (List Nat)) (k : Nat), vs = [.ref b, .int k] ∧ BeatAt H b R ∧ SmallR R ∧ k ≤ 4 ∧ k ≤ R.length ∧ Tabs T H ∧
  ∀ H' p G, ExtN H H' → Tabs T H' → H p = none → Greedy R G → G.length = k → H' p = some (.lst (nv G)) → Q (.ref p) H'
/-- a list of the caller's own is written; the tables stay -/
theorem tabs_put {T : List (Addr × Str)} {H : Hp} {t : Addr} {xs ys : List V} (h : Tabs T H) (ht : H t = some (.lst xs)) : Tabs T (upd H t (.lst ys)) := fun p hp => by
  obtain ⟨ps, h1, h2, h3⟩ := h p hp
  refine ⟨ps, ?_, h2, fun pos cv hc => ?_⟩
  · rw [upd_ne (fun z => by rw [z, ht] at h1; cases h1)]
    exact h1
  · obtain ⟨c, e1, e2⟩ := h3 pos cv hc
    refine ⟨c, e1, ?_⟩
    rw [upd_ne (fun z => by rw [z, ht] at e2; unfold CodeO at e2; cases e2)]
    exact e2
section
variable {P : Program} {w : World} {K : PySem.W.Frag} {mg : Str → Option Value} {base : Heap} {T : List (Addr × Str)} {c Pt : Addr}
theorem scStep : FnScope ["beaten", "size", "taken", "turn"] ["beaten", "size"] (defScope sStep) := ⟨rfl, rfl, rfl, by decide +kernel, rfl, by decide +kernel, by decide +kernel⟩
theorem ok_step (D : DefT K mg "step_by_step" sStep ["beaten", "size"]) (FN : DefT K mg "next_step" sNext ["beaten", "taken"]) (GN : FnOk P w K mg base CX0 4 FN.f FN.fd ["beaten", "taken"] (spNext T)) (gr : mg "range" = none) : FnOk P w K mg base CX0 5 D.f D.fd ["beaten", "size"] (spStep T) := by
  refine D.F.ok scStep (fun vs H Q E h => ?_) (fun cdv A_ outer s H vs Q E hr h => ?_)
  · obtain ⟨b, R, k, rfl, _⟩ := h
    rfl
  · obtain ⟨b, R, k, rfl, hb, sR, hk4, hkn, hTb, q⟩ := h
    refine ⟨_, pss_cons (ps_set (i := 2) scStep.nd rfl (Or.inl rfl) (pe_lst pa_nil))
      (pss_cons (ps_for PassesOwn.never rfl (pi_range1 (by rfl) gr (pa_cons (pv 1) pa_nil)) (pg_name (i := 3) scStep.nd rfl (Or.inl rfl))
        (pss_one (ps_expr (pe_bm PySem.F.plainAttrs_list PySem.F.slot_list_append PySem.F.type_list_append mt_append (pv 2) (pa_cons (pe_def FN GN hr (pa_cons (pv 0) (pa_cons (pv 2) pa_nil))) pa_nil)))))
      (pss_one (ps_ret (pv 2)))), ?_⟩
    have n16 := sR.n16
    refine ⟨Nat.zero_le _, fun t ht => ?_⟩
    have s1 := same_upd (o := .lst []) ht
    have hn' : ((k : Nat) : Int).toNat = k := Int.toNat_natCast k
    refine ⟨_, rfl, (k : Int), rfl, by omega, by omega, ?_⟩
    refine for_it walk_range (fun i σ H' => ∃ (v : Option V) (G : List Nat), σ = [some (.ref b), some (.int k), some (.ref t), v] ∧ ExtN H H' ∧ Tabs T H' ∧ Greedy R G ∧ G.length = i ∧ H' t = some (.lst (nv G)))
      ⟨none, [], rfl, extN_same s1, hTb.ext s1, .nil, rfl, by rw [upd_same]; rfl⟩ (fun _ _ _ _ _ => trivial) ?_ ?_
    · rintro i x σ H1 H2 hi ⟨v, G, rfl, eN, hT1, hG, hl, ht1⟩ ⟨rfl, rfl⟩
      rw [hn'] at hi
      refine ⟨_, rfl, .inl ⟨rfl, _, SqL.of ht1⟩, _, rfl, _, rfl, b, t, R, G, rfl, hb.extN eN, sR, ht1, hG.lt, by omega, by omega, hT1, fun H3 j x e3 T3 hx => ?_⟩
      have ht3 := extN_lst e3 ht1
      refine ⟨t, _, _, rfl, rfl, ht3, small_line (by rw [nv_len]; omega), ?_⟩
      refine ⟨_, G ++ [x], rfl, fun z o e n => ?_, tabs_put T3 ht3, hG.snoc hx, by rw [List.length_append, List.length_singleton]; omega, ?_⟩
      · rw [upd_ne (ne_of_none e ht)]
        exact e3 _ _ (eN _ _ e n) n
      · rw [upd_same, nv_app]
        rfl
    · rintro σ H1 ⟨v, G, rfl, eN, hT1, hG, hl, ht1⟩
      rw [hn'] at hl
      exact ⟨_, rfl, q H1 t G eN hT1 ht hG hl ht1⟩

/-! ### cover -/
theorem bRows_small {s : Sheet} (ok : SheetOk s) : SmallR (bRows s) := ⟨by rw [bRows_len]; exact ok.i16, fun r hr => by
  unfold bRows at hr
  obtain ⟨i, _, rfl⟩ := List.mem_map.mp hr
  exact bRow_len ok i⟩
theorem best_end {s : Sheet} (ok : SheetOk s) {k i : Nat} {S : List Nat} (h0 : 0 < k) (h4 : k ≤ 4) (h : FirstBest (covF (bRows s)) (lv (bRows s).length k) i S) : Vaskyb.bestCover (Vaskya.rows s) k = (Vaskyb.covers (Vaskya.rows s) S, S) ∧ ∀ j ∈ S, j < (bRows s).length := by
  have h16 := ok.i16
  have n16 : (bRows s).length < 17 := by
    rw [bRows_len]
    omega
  have lf := (lv_facts _ n16 k (by omega)).2.2
  have lm := (lv_more _ n16 k (by omega)).1
  have hS := lm S (List.mem_of_getElem? h.1)
  refine ⟨bestCover_is (i := i) ?_ (fun z => ?_), hS.2⟩
  · rw [rows_len, ← bRows_len, ← lf]
    refine FirstBest.congr h fun C hC => cov_is ok fun j hj => ?_
    have := (lm C hC).2 j hj
    rw [bRows_len] at this
    exact this
  · have := hS.1
    rw [z] at this
    exact absurd this (by show ¬ 0 = k; omega)
def spCover (T : List (Addr × Str)) (CH : Addr) : Sp := fun vs H Q _ => ∃ (x : HA) (s : Sheet) (k : Int), vs = [.ref x.a, .int k] ∧ HeldAt CH H x s ∧ SheetOk s ∧ Tabs T H ∧ ∀ H' p, ExtN H H' → Tabs T H' → H' p = some (.lst ((coverM s k).map V.int)) → Q (.ref p) H'
theorem scCover : FnScope ["held", "size", "beaten", "told", "some"] ["held", "size"] (defScope sCover) := ⟨rfl, rfl, rfl, by decide +kernel, rfl, by decide +kernel, by decide +kernel⟩
theorem ok_cover {CH : Addr} (D : DefT K mg "cover" sCover ["held", "size"]) (cH : Cls K CH) (NH : HeldT K CH) (FR : DefT K mg "beaten_rows" sBeatenRows ["held"]) (GR : FnOk P w K mg base CX0 2 FR.f FR.fd ["held"] (spBeatenRows CH)) (FB : DefT K mg "best_together" sBest ["beaten", "size"]) (GB : FnOk P w K mg base CX0 4 FB.f FB.fd ["beaten", "size"] (spBest T))
    (FS : DefT K mg "step_by_step" sStep ["beaten", "size"]) (GS : FnOk P w K mg base CX0 5 FS.f FS.fd ["beaten", "size"] (spStep T)) (FT : DefT K mg "beaten_together" sBT ["beaten", "some"]) (gl : mg "len" = none) (gs : mg "set" = none) (gM : GI mg "MOST_TOGETHER" 4) (gF : GI mg "NO_SIZE" (-5)) :
    FnOk P w K mg base CX0 6 D.f D.fd ["held", "size"] (spCover T CH) := by
  refine D.F.ok scCover (fun vs H Q E h => ?_) (fun cdv A_ outer s H vs Q E hr h => ?_)
  · obtain ⟨x, s, k, rfl, _⟩ := h
    rfl
  · obtain ⟨x, sh, k, rfl, hH, ok, hTb, q⟩ := h
    have hr1 : Room 1 _ := hr.mono (by decide)
    have hr2 : Room 2 _ := hr.mono (by decide)
    have hr4 : Room 4 _ := hr.mono (by decide)
    refine ⟨_, pss_cons (ps_if (PW.pt (pw_or (pt_cmpR op_lt (pv 1) pe_int (nomark _)) (pw_or (pt_cmpR op_gt (pv 1) (pe_gi gM) (nomark _)) (pw_or1 (pt_cmpR op_gt (pv 1) (pe_callB call_len_seq (by rfl) gl PySem.boot_len (pa_cons (pe_fld (pv 0) rfl) pa_nil)) (nomark _))))))
        (pss_one (ps_ret (pe_lst (pa_cons (pe_gi gF) pa_nil)))) pss_nil)
      (pss_cons (ps_set (i := 2) scCover.nd rfl (Or.inl rfl) (pe_def FR GR hr2 (pa_cons (pv 0) pa_nil)))
      (pss_cons (ps_set (i := 3) scCover.nd rfl (Or.inl rfl) (pe_lst pa_nil))
      (pss_cons (ps_for PassesOwn.never rfl (pi_tup (pe_tup (pa_cons (pe_def FB GB hr4 (pa_cons (pv 2) (pa_cons (pv 1) pa_nil))) (pa_cons (pe_def FS GS hr (pa_cons (pv 2) (pa_cons (pv 1) pa_nil))) pa_nil)))) (pg_name (i := 4) scCover.nd rfl (Or.inl rfl))
        (pss_cons (ps_expr (pe_bm PySem.F.plainAttrs_list PySem.F.slot_list_append PySem.F.type_list_append mt_append (pv 3) (pa_cons (pe_def FT (ok_BT FT gl gs) hr1 (pa_cons (pv 2) (pa_cons (pv 4) pa_nil))) pa_nil)))
        (pss_one (ps_expr (pe_bm PySem.F.plainAttrs_list PySem.F.slot_list_extend PySem.F.type_list_extend mt_extend (pv 3) (pa_cons (pv 4) pa_nil))))))
      (pss_one (ps_ret (pv 3)))))), ?_⟩
    obtain ⟨⟨dx, h1⟩, _⟩ := id hH
    obtain ⟨vn, hn, ln⟩ := hH.names
    have h16 := ok.i16
    refine if_v (decide (k < 1) || (decide (4 < k) || decide ((sh.items.length : Int) < k))) (fun G g => ?_) (fun c => ?_) (fun c => ?_)
    · refine ⟨_, rfl, _, _, rfl, rfl, _, rfl, ?_⟩
      refine ite2 (fun c => ?_) (fun c => ?_)
      · rw [c, Bool.true_or] at g
        exact g
      · rw [eq_false_of_ne_true c, Bool.false_or] at g
        refine ⟨_, rfl, _, _, rfl, rfl, _, rfl, ?_⟩
        refine ite2 (fun c => ?_) (fun c => ?_)
        · rw [c, Bool.true_or] at g
          exact g
        · rw [eq_false_of_ne_true c, Bool.false_or] at g
          refine ⟨_, rfl, _, rfl, x.a, CH, dx, _, _, rfl, h1, cH, NH.nN, hF_ns x, x.ns, vn, rfl, .inl (SqL.of hn), _, _, rfl, rfl, _, rfl, ?_⟩
          rw [ln]
          exact g
    · refine ⟨(by show 1 ≤ sizeLine; decide), fun p hp => ?_⟩
      have sp := same_upd (o := .lst [V.int (-5)]) hp
      refine q _ p (extN_same sp) (hTb.ext sp) ?_
      rw [upd_same]
      unfold coverM
      rw [if_neg]
      · rfl
      · intro z
        rcases Bool.or_eq_true_iff.mp c with c | c
        · have := of_decide_eq_true c
          omega
        · rcases Bool.or_eq_true_iff.mp c with c | c
          · have := of_decide_eq_true c
            omega
          · have := of_decide_eq_true c
            omega
    · have c1 := Bool.or_eq_false_iff.mp c
      have c2 := Bool.or_eq_false_iff.mp c1.2
      have k1 := of_decide_eq_false c1.1
      have k2 := of_decide_eq_false c2.1
      have k3 := of_decide_eq_false c2.2
      obtain ⟨n, rfl⟩ : ∃ n : Nat, k = n := ⟨k.toNat, by omega⟩
      have hans : coverM sh (n : Int) = (((Vaskyb.bestCover (Vaskya.rows sh) n).1 : Nat) : Int) :: (nI (Vaskyb.bestCover (Vaskya.rows sh) n).2 ++ (((Vaskyb.covers (Vaskya.rows sh) (Vaskyb.greedy (Vaskya.rows sh) n) : Nat) : Int) :: nI (Vaskyb.greedy (Vaskya.rows sh) n))) := if_pos ⟨by omega, by omega, by omega⟩
      rw [hans] at q
      have sR := bRows_small ok
      have nR := bRows_len sh
      refine ⟨_, rfl, x, sh, rfl, hH, ok, fun H1 b s1 hb hrow => ?_⟩
      obtain ⟨ws, w1, w2, _⟩ := hrow
      refine ⟨Nat.zero_le _, fun t ht => ?_⟩
      have nws : V.ref t ∉ ws := fun z => by
        obtain ⟨u, l, hul, hu⟩ := w2.mem _ z
        cases hul
        rw [ht] at hu
        cases hu
      have hb2 := (same_upd (o := .lst []) ht) _ _ w1
      have hR2 := w2.same (same_upd (o := .lst []) ht)
      have s2 := s1.trans (same_upd (o := .lst []) ht)
      have htn : H t = none := s1.free ht
      have ht2 : upd H1 t (.lst []) t = some (.lst []) := upd_same
      revert hb2 hR2 s2 ht2
      generalize upd H1 t (.lst []) = H2
      intro hb2 hR2 s2 ht2
      have hbeat2 : BeatAt H2 b (bRows sh) := ⟨ws, hb2, hR2⟩
      refine ⟨_, rfl, _, rfl, b, bRows sh, n, rfl, hbeat2, sR, by omega, by omega, hTb.ext s2, fun H3 p1 i S e3 T3 np1 hbest hp1 => ?_⟩
      refine ⟨_, rfl, _, rfl, b, bRows sh, n, rfl, hbeat2.extN e3, sR, by omega, by omega, T3, fun H4 p2 G e4 T4 np2 hG hGl hp2 => ?_⟩
      refine ⟨(by show 2 ≤ sizeLine; decide), fun tu htu => ?_⟩
      have su := same_upd (o := .tup [V.ref p1, V.ref p2]) htu
      have hTu : upd H4 tu (.tup [V.ref p1, V.ref p2]) tu = some (.tup [V.ref p1, V.ref p2]) := upd_same
      have e5 : ExtN H2 (upd H4 tu (.tup [V.ref p1, V.ref p2])) := (e3.trans e4).trans (extN_same su)
      have T5 := T4.ext su
      have f1 := su _ _ (extN_lst e4 hp1)
      have f2 := su _ _ hp2
      show ∃ a : Addr, V.ref tu = V.ref a ∧ (∃ xs, SqT K (upd H4 tu (.tup [V.ref p1, V.ref p2])) a xs) ∧ _
      revert hTu e5 T5 f1 f2
      generalize upd H4 tu (.tup [V.ref p1, V.ref p2]) = H5
      intro hTu e5 T5 f1 f2
      obtain ⟨hbc, hSlt⟩ := best_end ok (by omega) (by omega) hbest
      have hSl : S.length ≤ 16 := by
        have := ((lv_more (bRows sh).length (by omega) n (by omega)).1 S (List.mem_of_getElem? hbest.1)).1
        omega
      have hgr := greedy_end ok hG
      rw [hGl] at hgr
      rw [hbc, hgr] at q
      have cS : covF (bRows sh) S = Vaskyb.covers (Vaskya.rows sh) S := cov_is ok fun j hj => by rw [← nR]; exact hSlt j hj
      have cG : covF (bRows sh) G = Vaskyb.covers (Vaskya.rows sh) G := cov_is ok fun j hj => by rw [← nR]; exact hG.lt j hj
      have pre : ∃ pre : Nat → List Int, pre 0 = [] ∧ pre 1 = pre 0 ++ (((covF (bRows sh) S : Nat) : Int) :: nI S) ∧ pre 2 = pre 1 ++ (((covF (bRows sh) G : Nat) : Int) :: nI G) :=
        ⟨fun i => match i with
          | 0 => []
          | 1 => (((covF (bRows sh) S : Nat) : Int) :: nI S)
          | _ => (((covF (bRows sh) S : Nat) : Int) :: nI S) ++ (((covF (bRows sh) G : Nat) : Int) :: nI G), rfl, rfl, rfl⟩
      obtain ⟨pre, q0, q1, q2⟩ := pre
      have nIl : ∀ l : List Nat, (nI l).length = l.length := fun l => List.length_map ..
      have l1 : (pre 1).length ≤ 17 := by
        rw [q1, q0, List.nil_append, List.length_cons, nIl]
        omega
      have l2 : (pre 2).length ≤ 34 := by
        rw [q2, List.length_append, List.length_cons, nIl]
        omega
      have hbw := extN_lst e5 hb2
      have hRw := hR2.extN e5
      refine ⟨tu, rfl, ⟨_, SqT.of hTu⟩, for_it (walk_tup (xs := [V.ref p1, V.ref p2])) (fun i σ H' => ∃ v : Option V, σ = [some (.ref x.a), some (.int n), some (.ref b), some (.ref t), v] ∧ (∀ z o, z ≠ t → H5 z = some o → (∀ ps, o ≠ .tbl ps) → H' z = some o) ∧ Tabs T H' ∧ H' t = some (.lst ((pre i).map V.int)))
        ⟨none, rfl, fun _ _ _ e _ => e, T5, by rw [q0]; exact extN_lst e5 ht2⟩ (fun i σ H' _ ⟨_, _, k, _, g⟩ => SqT.of (k _ _ (fun z => by rw [z, extN_lst e5 ht2] at hTu; cases hTu) hTu (fun _ z => nomatch z))) ?_ ?_⟩
      · rintro i y σ Hx H6 hi ⟨v, rfl, k6, T6, ht6⟩ ⟨rfl, hy⟩
        have hx : ∃ (pS : Addr) (C : List Nat), y = V.ref pS ∧ H5 pS = some (.lst (nv C)) ∧ (∀ j ∈ C, j < (bRows sh).length) ∧ C.length ≤ 16 ∧ pre (i + 1) = pre i ++ (((covF (bRows sh) C : Nat) : Int) :: nI C) ∧ (pre i).length ≤ 34 ∧ pS ≠ t := by
          match i, hi, hy with
          | 0, _, hy =>
            refine ⟨p1, S, (Option.some.inj hy).symm, f1, hSlt, hSl, q1, by rw [q0]; exact Nat.zero_le _, fun z => ?_⟩
            rw [z, ht2] at np1
            cases np1
          | 1, _, hy =>
            refine ⟨p2, G, (Option.some.inj hy).symm, f2, hG.lt, by omega, q2, by omega, fun z => ?_⟩
            rw [z, extN_lst e3 ht2] at np2
            cases np2
        obtain ⟨pS, C, rfl, g1, g2, g3, g4, g5, g6⟩ := hx
        have nbt : b ≠ t := fun z => by
          rw [z, ht] at w1
          cases w1
        have kl : ∀ {z : Addr} {us : List V}, z ≠ t → H5 z = some (.lst us) → H6 z = some (.lst us) := fun {z us} ne e => k6 _ _ ne e (fun _ z => nomatch z)
        have hRw6 : RL H6 ws ((bRows sh).map nI) := hRw.keep fun z o hz e => k6 z o (fun y => nws (by rw [← y]; exact hz)) e (fun ps y => by
          obtain ⟨u, l, hul, hu⟩ := hRw.mem _ hz
          cases hul
          rw [hu, y] at e
          cases e)
        have hb6 := kl nbt hbw
        have hp6 := kl g6 g1
        -- told.append
        refine ⟨_, rfl, .inl ⟨rfl, _, SqL.of ht6⟩, _, rfl, _, rfl, b, pS, ws, bRows sh, C, [], rfl, hb6, hRw6, hp6, g2, sR.r16, g3, fun H7 s7 => ?_⟩
        have ht7 := s7 _ _ ht6
        have hp7 := s7 _ _ hp6
        refine ⟨t, _, _, rfl, rfl, ht7, small_line (by rw [List.length_map]; omega), ?_⟩
        have hA : (pre i).map V.int ++ [V.int (covF (bRows sh) C : Nat)] = (pre i ++ [((covF (bRows sh) C : Nat) : Int)]).map V.int := by
          rw [List.map_append]
          rfl
        rw [hA]
        refine ⟨_, rfl, .inl ⟨rfl, _, SqL.of upd_same⟩, _, rfl, t, pS, _, _, rfl, rfl, upd_same, by rw [upd_ne g6]; exact hp7, line10 (by rw [List.length_map, List.length_append, List.length_singleton, nv_len]; omega), ?_⟩
        refine ⟨_, rfl, fun z o ne e n => ?_, tabs_put (tabs_put (T6.ext s7) ht7) upd_same, ?_⟩
        · rw [upd_ne ne, upd_ne ne]
          exact s7 _ _ (k6 z o ne e n)
        · rw [upd_same, g4, nv_nI, ← List.map_append, List.append_assoc]
          rfl
      · rintro σ H6 ⟨v, rfl, k6, T6, ht6⟩
        have e2 : pre 2 = (((Vaskyb.covers (Vaskya.rows sh) S : Nat) : Int)) :: (nI S ++ (((Vaskyb.covers (Vaskya.rows sh) G : Nat) : Int) :: nI G)) := by
          rw [q2, q1, q0, List.nil_append, cS, cG]
          rfl
        replace ht6 : H6 t = some (.lst ((pre 2).map V.int)) := ht6
        rw [e2] at ht6
        refine ⟨_, rfl, q H6 t (fun z o e n => ?_) T6 ht6⟩
        have zt : z ≠ t := ne_of_none e htn
        exact k6 z o zt (e5 _ _ (s2 _ _ e) n) n
end
end Fm

/-! CallReader. -/
namespace Fm
open PySem PySem.Spec PyProof.Rows L2
abbrev sCrInit : Stmt := inClass (top 100) 0
abbrev sIsDone : Stmt := inClass (top 100) 1
abbrev sTakeNumber : Stmt := inClass (top 100) 2
abbrev sTakeRow : Stmt := inClass (top 100) 3
abbrev sTakeArgs : Stmt := inClass (top 100) 4
def cF (c : Addr) (i : Nat) : List (Str × V) := [("calls", .ref c), ("at", .int i)]
theorem cF_c (c : Addr) (i : Nat) : (cF c i).lookup ("calls" : Str) = some (.ref c) := lk_here
theorem cF_at (c : Addr) (i : Nat) : (cF c i).lookup ("at" : Str) = some (.int i) := (lk_past (by decide +kernel)).trans lk_here
theorem cF_none (c : Addr) (i : Nat) {m : Str} (h1 : (m == ("calls" : Str)) = false) (h2 : (m == ("at" : Str)) = false) : (cF c i).lookup m = none := (lk_past h1).trans ((lk_past h2).trans rfl)
/-- a reader at r of the numbers l at c, of which rest is still to come -/
structure CrAt (K : PySem.W.Frag) (CR : Addr) (H : Hp) (r c : Addr) (l rest : List Int) : Prop where
  ex : ∃ (i : Nat) (dx : Addr), l.drop i = rest ∧ i ≤ l.length ∧ H r = some (.ins CR dx (cF c i))
  nums : SqL K H c (l.map V.int)
theorem CrAt.same {K : PySem.W.Frag} {CR : Addr} {H H' : Hp} {r c : Addr} {l rest : List Int} (h : CrAt K CR H r c l rest) (m : Same H H') : CrAt K CR H' r c l rest := by
  obtain ⟨⟨i, dx, h1, h2, h3⟩, h4⟩ := h
  exact ⟨⟨i, dx, h1, h2, m _ _ h3⟩, m.seq h4⟩
/-- what the top has written of CallReader -/
structure CrT (K : PySem.W.Frag) (C : Addr) : Prop where
  nC : NoAttr K C "calls"
  nA : NoAttr K C "at"
def spCrInit (C : Addr) : Sp := fun vs H Q _ => ∃ (p dx c : Addr), vs = [.ref p, .ref c] ∧ H p = some (.ins C dx []) ∧ Q .non (upd H p (.ins C dx (cF c 0)))
def spIsDone (K : PySem.W.Frag) (CR : Addr) : Sp := fun vs H Q _ => ∃ (r c : Addr) (l rest : List Int), vs = [.ref r] ∧ CrAt K CR H r c l rest ∧ Q (.bl rest.isEmpty) H
def spTakeNumber (K : PySem.W.Frag) (CR : Addr) : Sp := fun vs H Q _ => ∃ (r c : Addr) (l rest : List Int) (z : Int), vs = [.ref r] ∧ CrAt K CR H r c l (z :: rest) ∧ ∀ H', CrAt K CR H' r c l rest → But [r] H H' → Q (.int z) H'
section
variable {P : Program} {w : World} {K : PySem.W.Frag} {mg : Str → Option Value} {base : Heap}
theorem scCrInit : FnScope ["self", "calls"] ["self", "calls"] (defScope sCrInit) := ⟨rfl, rfl, rfl, by decide +kernel, rfl, by decide +kernel, by decide +kernel⟩
abbrev CrC (K : PySem.W.Frag) (mg : Str → Option Value) := ClsT K mg "CallReader" "CallReader.__init__" sCrInit ["self", "calls"]
theorem ok_crInit (R : CrC K mg) (N : CrT K R.C) : FnOk P w K mg base CX0 1 R.f R.fd ["self", "calls"] (spCrInit R.C) := by
  refine R.F.ok scCrInit (fun vs H Q E h => ?_) (fun cdv A outer s H vs Q E hr h => ?_)
  · obtain ⟨p, dx, T, rfl, _⟩ := h
    rfl
  · obtain ⟨p, dx, T, rfl, hp, q⟩ := h
    refine ⟨_, pss_cons (ps_fld (pv 0) (pv 1) rfl) (pss_one (ps_fld (pv 0) pe_int rfl)), ?_⟩
    refine ⟨_, rfl, _, rfl, p, R.C, dx, [], rfl, hp, R.cl, N.nC, (by show 0 < 1000; decide), ?_⟩
    refine ⟨_, rfl, p, R.C, dx, _, rfl, upd_same, R.cl, N.nA, (by show 1 < 1000; decide), ?_⟩
    rw [upd_upd]
    have e : putF "at" (V.int 0) (putF "calls" (V.ref T) []) = cF T 0 := by
      show putF "at" (V.int 0) ([("calls", V.ref T)] : List (Str × V)) = _
      rw [put_past (by decide +kernel)]
      rfl
    rw [e]
    exact q
theorem scIsDone : FnScope ["self"] ["self"] (defScope sIsDone) := ⟨rfl, rfl, rfl, by decide +kernel, rfl, by decide +kernel, by decide +kernel⟩
theorem ok_isDone {CR : Addr} (M : MethT K CR "is_done" "CallReader.is_done" sIsDone ["self"]) (cR : Cls K CR) (NR : CrT K CR) (gl : mg "len" = none) : FnOk P w K mg base CX0 1 M.f M.fd ["self"] (spIsDone K CR) := by
  refine M.F.ok scIsDone (fun vs H Q E h => ?_) (fun cdv A outer s H vs Q E hr h => ?_)
  · obtain ⟨r, c, l, rest, rfl, _⟩ := h
    rfl
  · obtain ⟨r, c, l, rest, rfl, ⟨⟨i, dx, hd, hi, h1⟩, hc⟩, q⟩ := h
    refine ⟨_, pss_one (ps_ret (pe_cmpR op_eq (pe_fld (pv 0) rfl) (pe_callB call_len_seq (by rfl) gl PySem.boot_len (pa_cons (pe_fld (pv 0) rfl) pa_nil)) (nomark _))), ?_⟩
    refine ⟨_, rfl, r, CR, dx, _, _, rfl, h1, cR, NR.nA, cF_at c i, _, rfl, r, CR, dx, _, _, rfl, h1, cR, NR.nC, cF_c c i, c, _, rfl, .inl hc, rfl, ?_⟩
    rw [List.length_map]
    have e : decide (V.int (i : Nat) = V.int (l.length : Nat)) = rest.isEmpty := by
      rw [Bool.eq_iff_iff, decide_eq_true_iff, List.isEmpty_iff, ← hd, List.drop_eq_nil_iff]
      constructor
      · intro z
        have := V.int.inj z
        omega
      · intro z
        rw [show i = l.length by omega]
    rw [e]
    exact q
theorem scTakeNumber : FnScope ["self"] ["self"] (defScope sTakeNumber) := ⟨rfl, rfl, rfl, by decide +kernel, rfl, by decide +kernel, by decide +kernel⟩
theorem cF_put (c : Addr) (i : Nat) (v : V) : putF "at" v (cF c i) = ([("calls", .ref c), ("at", v)] : List (Str × V)) := by
  unfold cF
  rw [put_past (by decide +kernel), put_here]
theorem seq_but {H H' : Hp} {r c C dx : Addr} {fs : List (Str × V)} {xs : List V} (h : SqL K H c xs) (hr : H r = some (.ins C dx fs)) (m : But [r] H H') : SqL K H' c xs := by
  have ne : ∀ {o : HO}, H c = some o → (∀ C dx fs, o ≠ .ins C dx fs) → c ∉ [r] := fun {o} e n z => by
    rw [List.mem_singleton.mp z, hr] at e
    exact n _ _ _ (Option.some.inj e).symm
  rcases h with (h | ⟨o, h⟩) | h
  · exact .inl (.inl (m _ _ h (ne h fun _ _ _ z => nomatch z)))
  · exact .inl (.inr ⟨o, m _ _ h (ne h fun _ _ _ z => nomatch z)⟩)
  · exact .inr h
theorem CrAt.step {CR : Addr} {H : Hp} {r c dx : Addr} {l rest : List Int} {i j : Nat} (h1 : H r = some (.ins CR dx (cF c i))) (hc : SqL K H c (l.map V.int)) (hd : l.drop j = rest) (hj : j ≤ l.length) :
    CrAt K CR (upd H r (.ins CR dx (cF c j))) r c l rest ∧ But [r] H (upd H r (.ins CR dx (cF c j))) := by
  have b : But [r] H (upd H r (.ins CR dx (cF c j))) := fun z o e n => by
    rw [upd_ne fun y => n (List.mem_singleton.mpr y)]
    exact e
  exact ⟨⟨⟨j, dx, hd, hj, upd_same⟩, seq_but hc h1 b⟩, b⟩
theorem at_sub1 {l : List Int} {i : Nat} {z : Int} {rest : List Int} (hd : l.drop i = z :: rest) : i < l.length ∧ l.drop (i + 1) = rest ∧ atI (l.map V.int) ((((i : Nat) : Int) + 1) - 1) = some (.int z) := by
  have hl : i < l.length := by
    have := congrArg List.length hd
    rw [List.length_drop, List.length_cons] at this
    omega
  have e := List.drop_eq_getElem_cons hl
  rw [hd] at e
  obtain ⟨e1, e2⟩ := List.cons.inj e
  refine ⟨hl, e2.symm, ?_⟩
  rw [show (((i : Nat) : Int) + 1) - 1 = ((i : Nat) : Int) by omega]
  refine atI_nat ?_
  rw [List.getElem?_map, List.getElem?_eq_getElem hl, e1]
  rfl
theorem ok_takeNumber {CR : Addr} (M : MethT K CR "take_number" "CallReader.take_number" sTakeNumber ["self"]) (cR : Cls K CR) (NR : CrT K CR) : FnOk P w K mg base CX0 1 M.f M.fd ["self"] (spTakeNumber K CR) := by
  refine M.F.ok scTakeNumber (fun vs H Q E h => ?_) (fun cdv A outer s H vs Q E hr h => ?_)
  · obtain ⟨r, c, l, rest, z, rfl, _⟩ := h
    rfl
  · obtain ⟨r, c, l, rest, z, rfl, ⟨⟨i, dx, hd, hi, h1⟩, hc⟩, q⟩ := h
    refine ⟨_, pss_cons (ps_fldaug (pv 0) pe_int in_add) (pss_one (ps_ret (pe_ix ix_list (pe_fld (pv 0) rfl) (pe_op op_sub (pe_fld (pv 0) rfl) pe_int) (fun _ _ => rfl)))), ?_⟩
    obtain ⟨hl, hd1, ha⟩ := at_sub1 hd
    refine ⟨_, rfl, r, CR, dx, _, _, rfl, h1, cR, NR.nA, cF_at c i, _, _, rfl, rfl, dx, _, h1, (by show 2 < 1000; decide), ?_⟩
    rw [cF_put]
    obtain ⟨k1, b1⟩ := CrAt.step h1 hc hd1 (by omega)
    refine ⟨_, rfl, r, CR, dx, _, _, rfl, upd_same, cR, NR.nC, cF_c c (i + 1), _, rfl, r, CR, dx, _, _, rfl, upd_same, cR, NR.nA, cF_at c (i + 1), _, _, rfl, rfl, c, _, _, _, rfl, rfl, k1.nums, ha, ?_⟩
    exact q _ k1 b1

/-! ### take_row -/
def spTakeRow (K : PySem.W.Frag) (CR : Addr) : Sp := fun vs H Q _ => ∃ (r c : Addr) (l rest x t : List Int), vs = [.ref r] ∧ CrAt K CR H r c l rest ∧ PyFlat.row rest = some (x, t) ∧ ∀ H' p, CrAt K CR H' r c l t → But [r] H H' → H p = none → H' p = some (.lst (x.map V.int)) → Q (.ref p) H'
theorem scTakeRow : FnScope ["self", "length"] ["self"] (defScope sTakeRow) := ⟨rfl, rfl, rfl, by decide +kernel, rfl, by decide +kernel, by decide +kernel⟩
theorem ok_takeRow {CR : Addr} (M : MethT K CR "take_row" "CallReader.take_row" sTakeRow ["self"]) (cR : Cls K CR) (NR : CrT K CR) (MN : MethT K CR "take_number" "CallReader.take_number" sTakeNumber ["self"]) : FnOk P w K mg base CX0 2 M.f M.fd ["self"] (spTakeRow K CR) := by
  refine M.F.ok scTakeRow (fun vs H Q E h => ?_) (fun cdv A outer s H vs Q E hr h => ?_)
  · obtain ⟨r, c, l, rest, x, t, rfl, _⟩ := h
    rfl
  · obtain ⟨r, c, l, rest, x, t, rfl, hC, hrow, q⟩ := h
    refine ⟨_, pss_cons (ps_set (i := 1) scTakeRow.nd rfl (Or.inl rfl) (pe_meth0 (pv 0) cR MN.m (ok_takeNumber MN cR NR) hr MN.b .nil pass0))
      (pss_cons (ps_fldaug (pv 0) (pv 1) in_add)
      (pss_one (ps_ret (pe_slice sl_list (pe_fld (pv 0) rfl) (po_some (pe_op op_sub (pe_fld (pv 0) rfl) (pv 1))) (po_some (pe_fld (pv 0) rfl)))))), ?_⟩
    cases rest with
    | nil => cases hrow
    | cons n rest =>
      have hrow' : (if 0 ≤ n ∧ n.toNat ≤ rest.length then some (rest.take n.toNat, rest.drop n.toNat) else none) = some (x, t) := hrow
      by_cases hn : 0 ≤ n ∧ n.toNat ≤ rest.length
      · rw [if_pos hn] at hrow'
        cases Option.some.inj hrow'
        obtain ⟨⟨i0, dx0, _, _, h10⟩, _⟩ := id hC
        refine ⟨_, rfl, r, dx0, _, rfl, h10, cF_none c i0 (by decide +kernel) (by decide +kernel), ?_⟩
        dsimp only [tNil]
        refine ⟨r, c, l, rest, n, rfl, hC, fun H1 hC1 b1 => ?_⟩
        obtain ⟨⟨i, dx, hd, hi, h1⟩, hc⟩ := hC1
        refine ⟨_, rfl, r, CR, dx, _, _, rfl, h1, cR, NR.nA, cF_at c i, _, rfl, _, _, rfl, rfl, dx, _, h1, (by show 2 < 1000; decide), ?_⟩
        rw [cF_put]
        have en : ((i : Nat) : Int) + n = ((i + n.toNat : Nat) : Int) := by omega
        rw [en]
        have hlr : rest.length = l.length - i := by rw [← hd, List.length_drop]
        obtain ⟨k1, b2⟩ := CrAt.step (j := i + n.toNat) (rest := rest.drop n.toNat) h1 hc (by rw [← hd, List.drop_drop]) (by omega)
        refine ⟨_, rfl, r, CR, dx, _, _, rfl, upd_same, cR, NR.nC, cF_c c _, ?_⟩
        refine ⟨_, rfl, r, CR, dx, _, _, rfl, upd_same, cR, NR.nA, cF_at c _, _, rfl, _, _, rfl, rfl, ?_⟩
        have ei : ((i + n.toNat : Nat) : Int) - n = ((i : Nat) : Int) := by omega
        refine ⟨_, rfl, _, rfl, r, CR, dx, _, _, rfl, upd_same, cR, NR.nA, cF_at c _, _, rfl, c, _, rfl, k1.nums, fun p hp => ?_⟩
        have ec : cutV (l.map V.int) (some (((i + n.toNat : Nat) : Int) - n)) (some ((i + n.toNat : Nat) : Int)) = (rest.take n.toNat).map V.int := by
          rw [ei, cut_nat (by omega) (by rw [List.length_map]; omega), ← hd, ← List.map_drop, ← List.map_take, show i + n.toNat - i = n.toNat by omega]
        have sp := same_upd (o := .lst ((rest.take n.toNat).map V.int)) hp
        have hp0 : H p = none := by
          cases e : H p with
          | none => rfl
          | some o =>
            by_cases hpr : p = r
            · rw [hpr, upd_same] at hp
              cases hp
            · have := b2 _ _ (b1 _ _ e (by simpa using hpr)) (by simpa using hpr)
              exact absurd (this.symm.trans hp) (fun z => nomatch z)
        refine q _ p (k1.same ?_) ((b1.trans b2).trans ?_) hp0 ?_
        · exact same_upd hp
        · exact But.of (same_upd hp)
        · rw [upd_same]
          exact congrArg (fun z => some (HO.lst z)) ec
      · rw [if_neg hn] at hrow'
        cases hrow'
end
end Fm

/-! CallReader.take_arguments. -/
namespace Fm
open PySem PySem.Spec PyProof.Rows L2
def NUMS : List Nat := [0, 0, 0, 0, 1, 0, 0, 1, 0]
def ROWN : List Nat := [1, 0, 1, 0, 0, 2, 1, 0, 1]
theorem shape_at {p : Int} {n k : Nat} (h : PyVaskyb.shape p = some (n, k)) : ∃ j : Nat, p = j ∧ j < 9 ∧ NUMS[j]? = some n ∧ ROWN[j]? = some k := by
  have key : ∀ j : Nat, j < 9 → p = j → PyVaskyb.shape j = some (n, k) → ∃ j : Nat, p = j ∧ j < 9 ∧ NUMS[j]? = some n ∧ ROWN[j]? = some k := by
    intro j hj e hs
    refine ⟨j, e, hj, ?_⟩
    have all : ∀ j : Nat, j < 9 → PyVaskyb.shape j = some (NUMS.getD j 0, ROWN.getD j 0) ∧ NUMS[j]? = some (NUMS.getD j 0) ∧ ROWN[j]? = some (ROWN.getD j 0) := by decide +kernel
    obtain ⟨h1, h2, h3⟩ := all j hj
    rw [h1] at hs
    have e := Option.some.inj hs
    rw [h2, h3]
    exact ⟨congrArg some (congrArg Prod.fst e), congrArg some (congrArg Prod.snd e)⟩
  by_cases hp : 0 ≤ p ∧ p < 9
  · exact key p.toNat (by omega) (by omega) (by rw [Int.toNat_of_nonneg hp.1]; exact h)
  · exfalso
    unfold PyVaskyb.shape at h
    repeat rw [if_neg (by omega)] at h
    cases h
theorem rows_split : ∀ (i j : Nat) (R : List Int) (xs : List (List Int)) (t : List Int), PyFlat.rows (i + j) R = some (xs, t) → ∃ x1 t1 x2, PyFlat.rows i R = some (x1, t1) ∧ PyFlat.rows j t1 = some (x2, t) ∧ xs = x1 ++ x2
  | 0, j, R, xs, t, h => ⟨[], R, xs, rfl, by rw [Nat.zero_add] at h; exact h, rfl⟩
  | i + 1, j, R, xs, t, h => by
    rw [show i + 1 + j = (i + j) + 1 by omega] at h
    unfold PyFlat.rows at h
    cases e : PyFlat.row R with
    | none => rw [e] at h; cases h
    | some y =>
      obtain ⟨x, s⟩ := y
      rw [e] at h
      cases e2 : PyFlat.rows (i + j) s with
      | none => simp only [e2] at h; cases h
      | some y2 =>
        obtain ⟨xs', t'⟩ := y2
        simp only [e2] at h
        cases h
        obtain ⟨x1, t1, x2, h1, h2, h3⟩ := rows_split i j s xs' t e2
        refine ⟨x :: x1, t1, x2, ?_, h2, by rw [h3]; rfl⟩
        unfold PyFlat.rows
        rw [e]
        simp only [h1]
theorem rows_one {R x t : List Int} {xs : List (List Int)} (h : PyFlat.rows 1 R = some (xs, t)) : ∃ x, xs = [x] ∧ PyFlat.row R = some (x, t) := by
  unfold PyFlat.rows at h
  cases e : PyFlat.row R with
  | none => rw [e] at h; cases h
  | some y =>
    obtain ⟨x, s⟩ := y
    rw [e] at h
    simp only [PyFlat.rows] at h
    cases h
    exact ⟨x, rfl, rfl⟩
/-- the rows in order: those till i, the next one, the rest -/
theorem rows_next {i k : Nat} {R t : List Int} {xs : List (List Int)} (h : PyFlat.rows k R = some (xs, t)) (hi : i < k) : ∃ x1 t1 x t2, PyFlat.rows i R = some (x1, t1) ∧ PyFlat.row t1 = some (x, t2) ∧ PyFlat.rows (i + 1) R = some (x1 ++ [x], t2) := by
  obtain ⟨x1, t1, x2, h1, h2, _⟩ := rows_split (i + 1) (k - (i + 1)) R xs t (by rw [show i + 1 + (k - (i + 1)) = k by omega]; exact h)
  obtain ⟨y1, s1, y2, g1, g2, g3⟩ := rows_split i 1 R x1 t1 h1
  obtain ⟨x, e1, e2⟩ := rows_one (x := []) g2
  exact ⟨y1, s1, x, t1, g1, e2, by rw [h1, g3, e1]⟩
theorem rows_size : ∀ (k : Nat) (R : List Int) (xs : List (List Int)) (t : List Int), PyFlat.rows k R = some (xs, t) → xs.length = k
  | 0, R, xs, t, h => by
    cases h
    rfl
  | k + 1, R, xs, t, h => by
    obtain ⟨x1, t1, x, t2, g1, g2, g3⟩ := rows_next h (Nat.lt_succ_self k)
    rw [h] at g3
    cases g3
    rw [List.length_append, rows_size k R x1 t1 g1]
    rfl
def spTakeArgs (K : PySem.W.Frag) (CR : Addr) : Sp := fun vs H Q _ => ∃ (r c : Addr) (l rest : List Int) (p : Int) (n k : Nat) (xs : List (List Int)) (t : List Int), vs = [.ref r, .int p] ∧ CrAt K CR H r c l rest ∧ PyVaskyb.shape p = some (n, k) ∧ n ≤ rest.length ∧ PyFlat.rows k (rest.drop n) = some (xs, t) ∧
  ∀ H' q ws, CrAt K CR H' r c l t → But [r] H H' → H q = none → H' q = some (.lst ((rest.take n).map V.int ++ ws)) → RL H' ws xs → New H ws → Q (.ref q) H'
section
variable {P : Program} {w : World} {K : PySem.W.Frag} {mg : Str → Option Value} {base : Heap}
theorem scTakeArgs : FnScope ["self", "call", "numbers", "turn"] ["self", "call"] (defScope sTakeArgs) := ⟨rfl, rfl, rfl, by decide +kernel, rfl, by decide +kernel, by decide +kernel⟩
theorem but_free {r : Addr} {H H' : Hp} {p : Addr} {o : HO} (b : But [r] H H') (hr : H' r = some o) (hp : H' p = none) : H p = none := by
  cases e : H p with
  | none => rfl
  | some u =>
    have hpr : p ≠ r := fun z => by
      rw [z, hr] at hp
      cases hp
    have := b _ _ e (by simpa using hpr)
    rw [hp] at this
    cases this
theorem ok_takeArgs {CR : Addr} (M : MethT K CR "take_arguments" "CallReader.take_arguments" sTakeArgs ["self", "call"]) (cR : Cls K CR) (NR : CrT K CR) (MN : MethT K CR "take_number" "CallReader.take_number" sTakeNumber ["self"]) (MR : MethT K CR "take_row" "CallReader.take_row" sTakeRow ["self"])
    (gN : GT K mg "NUMBERS" (nv NUMS)) (gR : GT K mg "ROWS" (nv ROWN)) (gr : mg "range" = none) : FnOk P w K mg base CX0 3 M.f M.fd ["self", "call"] (spTakeArgs K CR) := by
  refine M.F.ok scTakeArgs (fun vs H Q E h => ?_) (fun cdv A_ outer s H vs Q E hr h => ?_)
  · obtain ⟨r, c, l, rest, p, n, k, xs, t, rfl, _⟩ := h
    rfl
  · obtain ⟨r, c, l, rest, p, n, k, xs, t, rfl, hC, hsh, hn, hrows, q⟩ := h
    obtain ⟨aN, mN, tN⟩ := gN
    obtain ⟨aR, mR, tR⟩ := gR
    have hr1 : Room 1 _ := hr.mono (by decide)
    have hr2 : Room 2 _ := hr.mono (by decide)
    refine ⟨_, pss_cons (ps_setLc (i := 2) (own := [("turn", 3)]) (g := gName 3) (te := tMeth CR "take_number" (spTakeNumber K CR) [] E0 (tVar 0) tNil) rfl scTakeArgs.nd rfl rfl (sw_true rfl rfl rfl (by decide +kernel))
        (pi_range1 (by rfl) gr (pa_cons (pe_ix ix_tup (pe_gr mN) (pv 1) (fun _ _ => rfl)) pa_nil))
        (blkOk_by (own := [("turn", 3)]) (N := ["self", "call", "numbers", "turn"]) (sc := defScope sTakeArgs) (by decide +kernel)) (fun _ _ _ _ _ => pg_name (i := 3) scTakeArgs.nd rfl (Or.inl rfl)) (fun _ _ _ _ _ => pts_nil)
        (fun _ _ _ _ _ => pe_meth0 (pv 0) cR MN.m (ok_takeNumber MN cR NR) hr1 MN.b .nil pass0))
      (pss_one (ps_ret (pe_op op_cat (pv 2) (pe_lc (own := [("turn", 3)]) (g := gName 3) (te := tMeth CR "take_row" (spTakeRow K CR) [] E0 (tVar 0) tNil) rfl scTakeArgs.nd (pi_range1 (by rfl) gr (pa_cons (pe_ix ix_tup (pe_gr mR) (pv 1) (fun _ _ => rfl)) pa_nil))
        (blkOk_by (own := [("turn", 3)]) (N := ["self", "call", "numbers", "turn"]) (sc := defScope sTakeArgs) (by decide +kernel)) (fun _ _ _ _ _ => pg_name (i := 3) scTakeArgs.nd rfl (Or.inl rfl)) (fun _ _ _ _ _ => pts_nil)
        (fun _ _ _ _ _ => pe_meth0 (pv 0) cR MR.m (ok_takeRow MR cR NR MN) hr2 MR.b .nil pass0))))), ?_⟩
    obtain ⟨j, rfl, hj, jN, jR⟩ := shape_at hsh
    have bN : n ≤ 1 := by
      have all : ∀ j : Nat, j < 9 → NUMS.getD j 0 ≤ 1 := by decide +kernel
      have := all j hj
      rw [getD_of jN] at this
      exact this
    have bR : k ≤ 2 := by
      have all : ∀ j : Nat, j < 9 → ROWN.getD j 0 ≤ 2 := by decide +kernel
      have := all j hj
      rw [getD_of jR] at this
      exact this
    have eN : (nv NUMS)[j]? = some (.int (n : Nat)) := by
      unfold nv
      rw [List.getElem?_map, jN]
      rfl
    have eR : (nv ROWN)[j]? = some (.int (k : Nat)) := by
      unfold nv
      rw [List.getElem?_map, jR]
      rfl
    refine ⟨_, rfl, aN, _, _, _, rfl, rfl, tN H, atI_nat eN, (n : Nat), rfl, by omega, by omega, fun D1 hD1 => ?_⟩
    rw [Int.toNat_natCast]
    have hrH : ∃ o, H r = some o := by
      obtain ⟨⟨i0, dx0, _, _, h10⟩, _⟩ := id hC
      exact ⟨_, h10⟩
    obtain ⟨oR, hrH⟩ := hrH
    have nD1 : D1 ≠ r := fun z => by
      rw [z, hrH] at hD1
      cases hD1
    refine lc_it walk_range (fun i H' => CrAt K CR H' r c l (rest.drop i) ∧ But [r] H H' ∧ H' D1 = some (.lst ((rest.take i).map V.int))) ⟨hC.same (same_upd hD1), But.of (same_upd hD1), upd_same⟩ (fun _ _ _ _ => trivial) ?_ ?_
    · rintro i y H1 H2 hi ⟨hC1, b1, hD⟩ ⟨rfl, rfl⟩
      refine ⟨rfl, ?_⟩
      obtain ⟨⟨i0, dx0, _, _, h10⟩, _⟩ := id hC1
      have hil : i < rest.length := by omega
      refine ⟨_, rfl, r, dx0, _, rfl, h10, cF_none c i0 (by decide +kernel) (by decide +kernel), ?_⟩
      dsimp only [tNil]
      refine ⟨r, c, l, rest.drop (i + 1), rest[i], rfl, by rw [← List.drop_eq_getElem_cons hil]; exact hC1, fun H3 hC3 b3 => ?_⟩
      have hD3 := b3 _ _ hD (by simpa using nD1)
      have bD : But [r] H (upd H3 D1 (.lst ((rest.take i).map V.int ++ [V.int rest[i]]))) := fun b o e ne => by
        rw [upd_ne (ne_of_none e hD1)]
        exact b3 _ _ (b1 _ _ e ne) ne
      refine ⟨_, hD3, small_line (by rw [List.length_map, List.length_take]; omega), ?_, bD, ?_⟩
      · obtain ⟨⟨i3, dx3, e1, e2, e3⟩, e4⟩ := hC3
        refine ⟨⟨i3, dx3, e1, e2, by rw [upd_ne (Ne.symm nD1)]; exact e3⟩, ?_⟩
        obtain ⟨⟨i', dx', _, _, h'⟩, hc'⟩ := id hC
        exact seq_but hc' h' bD
      · rw [upd_same, List.take_add_one, List.getElem?_eq_getElem hil, List.map_append]
        rfl
    · rintro H1 ⟨hC1, b1, hD⟩
      have h1r : ∃ o, H1 r = some o := by
        obtain ⟨⟨i0, dx0, _, _, h10⟩, _⟩ := id hC1
        exact ⟨_, h10⟩
      obtain ⟨oR1, h1r⟩ := h1r
      refine ⟨_, rfl, _, rfl, aR, _, _, _, rfl, rfl, tR _, atI_nat eR, (k : Nat), rfl, by omega, by omega, fun D2 hD2 => ?_⟩
      rw [Int.toNat_natCast]
      have nD2 : D2 ≠ r := fun z => by
        rw [z, h1r] at hD2
        cases hD2
      have nD12 : D1 ≠ D2 := fun z => by
        rw [← z, hD] at hD2
        cases hD2
      refine lc_it walk_range (fun i H' => ∃ x1 t1 ws, PyFlat.rows i (rest.drop n) = some (x1, t1) ∧ CrAt K CR H' r c l t1 ∧ But [r] H1 H' ∧ H' D2 = some (.lst ws) ∧ RL H' ws x1 ∧ New H1 ws ∧ V.ref D2 ∉ ws)
        ⟨[], _, [], rfl, hC1.same (same_upd hD2), But.of (same_upd hD2), upd_same, .nil, New.nil _, List.not_mem_nil⟩ (fun _ _ _ _ => trivial) ?_ ?_
      · rintro i y H2 H3 hi ⟨x1, t1, ws, hx1, hC2, b2, hDw, hRw, hNw, nw⟩ ⟨rfl, rfl⟩
        obtain ⟨x1', t1', x, t2, g1, g2, g3⟩ := rows_next hrows hi
        rw [hx1] at g1
        cases g1
        refine ⟨rfl, ?_⟩
        obtain ⟨⟨i0, dx0, _, _, h10⟩, _⟩ := id hC2
        refine ⟨_, rfl, r, dx0, _, rfl, h10, cF_none c i0 (by decide +kernel) (by decide +kernel), ?_⟩
        dsimp only [tNil]
        refine ⟨r, c, l, _, x, t2, rfl, hC2, g2, fun H4 p4 hC4 b4 hp4 e4 => ?_⟩
        have hD4 := b4 _ _ hDw (by simpa using nD2)
        have np : p4 ≠ D2 := fun z => by
          rw [z, hDw] at hp4
          cases hp4
        have bD : But [r] H1 (upd H4 D2 (.lst (ws ++ [V.ref p4]))) := fun b o e ne => by
          rw [upd_ne (ne_of_none e hD2)]
          exact b4 _ _ (b2 _ _ e ne) ne
        have lw := hRw.len
        have k3 : (∀ b o, b ≠ D2 → H4 b = some o → upd H4 D2 (.lst (ws ++ [V.ref p4])) b = some o) := fun b o ne e => by
          rw [upd_ne ne]
          exact e
        have hrw : V.ref r ∉ ws := fun z => by
          have := hNw r z
          rw [h1r] at this
          cases this
        refine ⟨ws, hD4, small_line ?_, _, _, ws ++ [V.ref p4], g3, ?_, bD, upd_same, ?_, hNw.app (New.one (but_free b2 h10 hp4)), not_snoc nw (Ne.symm np)⟩
        · have := rows_size _ _ _ _ hx1
          omega
        · obtain ⟨⟨i3, dx3, e1, e2, e3⟩, e5⟩ := hC4
          refine ⟨⟨i3, dx3, e1, e2, by rw [upd_ne (Ne.symm nD2)]; exact e3⟩, ?_⟩
          obtain ⟨⟨i', dx', _, _, h'⟩, hc'⟩ := id hC1
          exact seq_but hc' h' bD
        · refine RL.grow (D := D2) ?_ nw k3 (by rw [upd_ne np]; exact e4)
          exact hRw.keep fun b o hb e => b4 b o e fun z => hrw (by
            rw [← List.mem_singleton.mp z]
            exact hb)
      · rintro H2 ⟨x1, t1, ws, hx1, hC2, b2, hDw, hRw, hNw, nw⟩
        rw [hrows] at hx1
        cases hx1
        have hD' := b2 _ _ hD (by simpa using nD1)
        have lw := hRw.len
        refine ⟨D1, D2, _, _, rfl, rfl, hD', hDw, line10 ?_, fun q2 hq2 => ?_⟩
        · have := rows_size _ _ _ _ hrows
          rw [List.length_map, List.length_take]
          omega
        · have h2r : ∃ o, H2 r = some o := by
            obtain ⟨⟨i0, dx0, _, _, h10⟩, _⟩ := id hC2
            exact ⟨_, h10⟩
          obtain ⟨oR2, h2r⟩ := h2r
          have b12 := b1.trans b2
          refine q _ q2 ws (hC2.same (same_upd hq2)) (b12.trans (But.of (same_upd hq2))) (but_free b12 h2r hq2) upd_same (hRw.same (same_upd hq2)) fun a ha => but_free b1 h1r (hNw a ha)
end
end Fm

/-! Holder: what is held; load. -/
namespace Fm
open PySem PySem.Spec PyProof.Rows L2
open Vaskya (Measure Item Sheet)
abbrev sHoInit : Stmt := inClass (top 101) 0
abbrev sLoad : Stmt := inClass (top 101) 1
def oF (v : V) : List (Str × V) := [("held", v)]
theorem oF_held (v : V) : (oF v).lookup ("held" : Str) = some v := lk_here
theorem oF_no (v : V) {m : Str} (h : (m == ("held" : Str)) = false) : (oF v).lookup m = none := (lk_past h).trans rfl
/-- what stands in the field -/
def HeldV (CH : Addr) (H : Hp) (v : V) (L : List Addr) : Option Sheet → Prop
  | none => v = .non
  | some s => ∃ x : HA, v = .ref x.a ∧ HeldAt CH H x s ∧ SheetOk s ∧ x.old = L ∧ ∀ b ∈ L, b ∉ x.ls
/-- .. and nothing of it is at L -/
def HoldAt (CO CH : Addr) (H : Hp) (o : Addr) (L : List Addr) (st : Option Sheet) : Prop := ∃ (dx : Addr) (v : V), H o = some (.ins CO dx (oF v)) ∧ HeldV CH H v L st
theorem HeldV.same {CH : Addr} {H H' : Hp} {v : V} {L : List Addr} {st : Option Sheet} (h : HeldV CH H v L st) (m : Same H H') : HeldV CH H' v L st := by
  cases st with
  | none => exact h
  | some s =>
    obtain ⟨x, h1, h2, h3⟩ := h
    exact ⟨x, h1, h2.same m, h3⟩
theorem HeldAt.put {CH t : Addr} {H : Hp} {x : HA} {s : Sheet} {xs ys : List V} (h : HeldAt CH H x s) (ht : H t = some (.lst xs)) (h1 : t ∈ x.old) (h2 : t ∉ x.ls) : HeldAt CH (upd H t (.lst ys)) x s := by
  obtain ⟨⟨dx', e0⟩, nd, hw, vm, vn, vr, vg, e1, r1, e2, r2, e3, r3, e4, r4, no⟩ := h
  obtain ⟨i1, i2, i3, i4, i5⟩ := in5 x
  have ne : ∀ {a : Addr}, a ∈ x.ls → a ≠ t := fun {a} ha z => h2 (by rw [← z]; exact ha)
  have na : x.a ≠ t := fun z => by
    rw [z, ht] at e0
    cases e0
  have k : ∀ {a : Addr} {o : HO}, a ≠ t → H a = some o → upd H t (.lst ys) a = some o := fun {a o} n e => by
    rw [upd_ne n]
    exact e
  have nt := no t (List.mem_append_right _ h1)
  have kr : ∀ {vs : List V} {ls : List (List Int)}, RL H vs ls → V.ref t ∉ vs → RL (upd H t (.lst ys)) vs ls := fun {vs ls} r n => r.keep fun a o ha e => k (fun z => n (by rw [← z]; exact ha)) e
  exact ⟨⟨dx', k na e0⟩, nd, k (ne i2) hw, vm, vn, vr, vg, k (ne i1) e1, kr r1 nt.1, k (ne i3) e2, kr r2 nt.2.1, k (ne i4) e3, kr r3 nt.2.2.1, k (ne i5) e4, kr r4 nt.2.2.2, no⟩
theorem HoldAt.same {CO CH : Addr} {H H' : Hp} {o : Addr} {L : List Addr} {st : Option Sheet} (h : HoldAt CO CH H o L st) (m : Same H H') : HoldAt CO CH H' o L st := by
  obtain ⟨dx, v, h1, h2⟩ := h
  exact ⟨dx, v, m _ _ h1, h2.same m⟩
theorem held_ne {CH CO dx : Addr} {H : Hp} {x : HA} {s : Sheet} {o : Addr} {fs : List (Str × V)} (h : HeldAt CH H x s) (ho : H o = some (.ins CO dx fs)) (hl : fs.length ≠ 5) : x.a ≠ o := by
  obtain ⟨⟨dx', h1⟩, _⟩ := h
  intro z
  rw [z, ho] at h1
  have e := Option.some.inj h1
  injection e with _ _ e3
  apply hl
  rw [e3]
  rfl
theorem HeldV.keep {CH CR dx r : Addr} {H H' : Hp} {v : V} {L : List Addr} {st : Option Sheet} {fs : List (Str × V)} (h : HeldV CH H v L st) (hr : H r = some (.ins CR dx fs)) (hl : fs.length ≠ 5) (m : But [r] H H') : HeldV CH H' v L st := by
  cases st with
  | none => exact h
  | some s =>
    obtain ⟨x, h1, h2, h3⟩ := h
    exact ⟨x, h1, h2.keep hr (held_ne h2 hr hl) m, h3⟩
theorem HoldAt.put {CO CH t o : Addr} {H : Hp} {L : List Addr} {st : Option Sheet} {xs ys : List V} (h : HoldAt CO CH H o L st) (ht : H t = some (.lst xs)) (h1 : t ∈ L) : HoldAt CO CH (upd H t (.lst ys)) o L st := by
  obtain ⟨dx, v, e, hv⟩ := h
  refine ⟨dx, v, by rw [upd_ne (fun z => by rw [z, ht] at e; cases e)]; exact e, ?_⟩
  cases st with
  | none => exact hv
  | some s =>
    obtain ⟨x, g1, g2, g3, g4, g5⟩ := hv
    exact ⟨x, g1, g2.put ht (by rw [g4]; exact h1) (g5 t h1), g3, g4, g5⟩
theorem HoldAt.keep {CO CH CR o dx r : Addr} {H H' : Hp} {L : List Addr} {st : Option Sheet} {fs : List (Str × V)} (h : HoldAt CO CH H o L st) (hr : H r = some (.ins CR dx fs)) (h5 : fs.length ≠ 5) (h1 : fs.length ≠ 1) (m : But [r] H H') : HoldAt CO CH H' o L st := by
  obtain ⟨dx', v, e, hv⟩ := h
  refine ⟨dx', v, m _ _ e (fun z => ?_), hv.keep hr h5 m⟩
  rw [List.mem_singleton.mp z, hr] at e
  have e' := Option.some.inj e
  injection e' with _ _ e3
  apply h1
  rw [e3]
  rfl
def loadSt (st : Option Sheet) (b : VaskyBase.Bytes) : Option Sheet := match Vaskya.read b with
  | .ok s => some s
  | .error _ => st
def loadAns (b : VaskyBase.Bytes) : List Int := match Vaskya.read b with
  | .ok s => [1, (s.ms.length : Nat), (s.items.length : Nat)]
  | .error f => [0, (f.code : Nat), (f.place : Nat)]
/-- what the top has written of Holder -/
structure HoT (K : PySem.W.Frag) (C : Addr) : Prop where
  nH : NoAttr K C "held"
def spHoInit (C : Addr) : Sp := fun vs H Q _ => ∃ (p dx : Addr), vs = [.ref p] ∧ H p = some (.ins C dx []) ∧ Q .non (upd H p (.ins C dx (oF .non)))
def spLoad (K : PySem.W.Frag) (CO CH : Addr) : Sp := fun vs H Q _ => ∃ (o a : Addr) (L : List Addr) (st : Option Sheet) (b : VaskyBase.Bytes), vs = [.ref o, .ref a] ∧ (∀ b ∈ L, H b ≠ none) ∧ HoldAt CO CH H o L st ∧ SqL K H a (vb b) ∧
  ∀ H' p, HoldAt CO CH H' o L (loadSt st b) → But [o] H H' → H p = none → H' p = some (.lst ((loadAns b).map V.int)) → Q (.ref p) H'
section
variable {P : Program} {w : World} {K : PySem.W.Frag} {mg : Str → Option Value} {base : Heap}
theorem scHoInit : FnScope ["self"] ["self"] (defScope sHoInit) := ⟨rfl, rfl, rfl, by decide +kernel, rfl, by decide +kernel, by decide +kernel⟩
abbrev HoC (K : PySem.W.Frag) (mg : Str → Option Value) := ClsT K mg "Holder" "Holder.__init__" sHoInit ["self"]
theorem ok_hoInit (R : HoC K mg) (N : HoT K R.C) : FnOk P w K mg base CX0 1 R.f R.fd ["self"] (spHoInit R.C) := by
  refine R.F.ok scHoInit (fun vs H Q E h => ?_) (fun cdv A outer s H vs Q E hr h => ?_)
  · obtain ⟨p, dx, rfl, _⟩ := h
    rfl
  · obtain ⟨p, dx, rfl, hp, q⟩ := h
    refine ⟨_, pss_one (ps_fld (pv 0) pe_non rfl), ?_⟩
    exact ⟨_, rfl, p, R.C, dx, [], rfl, hp, R.cl, N.nH, (by show 0 < 1000; decide), q⟩
theorem scLoad : FnScope ["self", "text", "fault"] ["self", "text"] (defScope sLoad) := ⟨rfl, rfl, rfl, by decide +kernel, rfl, by decide +kernel, by decide +kernel⟩
def t_suite (C : Addr) : Addr → Value → Option Addr → TS := fun a cls d => tRet (tLst (tCons (tC (.int 0)) (tCons (tXf a cls d C "number" (tVar 2)) (tCons (tXf a cls d C "place" (tVar 2)) tNil))))
theorem ok_load {CO CH : Addr} (M : MethT K CO "load" "Holder.load" sLoad ["self", "text"]) (cO : Cls K CO) (NO : HoT K CO) (cH : Cls K CH) (NH : HeldT K CH) (FT : FltT K mg) (xf : XfC K FT.C) (te : PySem.W.exmOne K (.ref FT.C) (.ref FT.C) = some true)
    (FR : DefT K mg "read_list" sReadList ["text"]) (GR : FnOk P w K mg base (L2.CX P w) 7 FR.f FR.fd ["text"] (spReadList K CH FT.C)) (gl : mg "len" = none) : FnOk P w K mg base CX0 8 M.f M.fd ["self", "text"] (spLoad K CO CH) := by
  refine M.F.ok scLoad (fun vs H Q E h => ?_) (fun cdv A outer s H vs Q E hr h => ?_)
  · obtain ⟨o, a, L, st, b, rfl, _⟩ := h
    rfl
  · obtain ⟨o, a, L, st, b, rfl, hL, hO, ha, q⟩ := h
    refine ⟨_, pss_cons (ps_try_as (i := 2) (tb := fun W => sFld K (tVar 0) (tCallS (spReadList K CH FT.C) (WE W) (tCons (tVar 1) tNil)) "held") (ts := t_suite FT.C) (Wout := fun _ _ _ _ => False) rfl rfl scLoad.nd rfl rfl ⟨rfl, by decide, Or.inl FT.T.gC⟩ takes0
        (fun W pn xe tk _ => pss_one (ps_fld (pv 0) (by exact (pe_callS GR hr rfl FR.g FR.F.kp FR.b (fun σ => passAt tk σ) (by exact (pa_cons (pv 1) pa_nil)))) rfl))
        (fun a oe cls d pn hz hf => pss_one (ps_ret (pe_lst (pa_cons pe_int (pa_cons (pe_xf xf FT.T.nN hz hf (pv 2)) (pa_cons (pe_xf xf FT.T.nP hz hf (pv 2)) pa_nil)))))))
      (pss_one (ps_ret (pe_lst (pa_cons pe_int (pa_cons (pe_callB call_len_seq (by rfl) gl PySem.boot_len (pa_cons (pe_fld (pe_fld (pv 0) rfl) rfl) pa_nil)) (pa_cons (pe_callB call_len_seq (by rfl) gl PySem.boot_len (pa_cons (pe_fld (pe_fld (pv 0) rfl) rfl) pa_nil)) pa_nil)))))), ?_⟩
    have kq : ∀ r, Vaskya.read b = r → loadSt st b = (match r with | .ok s => some s | .error _ => st) ∧ loadAns b = (match r with | .ok s => [1, ((s.ms.length : Nat) : Int), ((s.items.length : Nat) : Int)] | .error f => [0, ((f.code : Nat) : Int), ((f.place : Nat) : Int)]) := fun r e => by
      unfold loadSt loadAns
      rw [e]
      exact ⟨rfl, rfl⟩
    obtain ⟨dx, v, ho, hv⟩ := id hO
    refine ⟨_, rfl, a, b, L, rfl, ha, hL, fun s er ok H1 x hxo offx s1 hH => ?_, fun f er H1 d s1 hd => ?_⟩
    · obtain ⟨k1, k2⟩ := kq _ er
      have ho1 := s1 _ _ ho
      refine ⟨_, rfl, o, CO, dx, _, rfl, ho1, cO, NO.nH, (by show 1 < 1000; decide), ?_⟩
      have eF : putF "held" (V.ref x.a) (oF v) = oF (.ref x.a) := by
        unfold oF
        rw [put_here]
      rw [eF]
      have b1 : But [o] H1 (upd H1 o (.ins CO dx (oF (.ref x.a)))) := fun z u e n => by
        rw [upd_ne fun y => n (List.mem_singleton.mpr y)]
        exact e
      have hH2 := hH.keep ho1 (held_ne hH ho1 (by show 1 ≠ 5; decide)) b1
      have ho2 : upd H1 o (.ins CO dx (oF (.ref x.a))) o = some (.ins CO dx (oF (.ref x.a))) := upd_same
      revert b1 hH2 ho2
      generalize upd H1 o (.ins CO dx (oF (.ref x.a))) = H2
      intro b1 hH2 ho2
      obtain ⟨⟨dxx, h1⟩, _⟩ := id hH2
      obtain ⟨vn, hn, ln⟩ := hH2.names
      obtain ⟨vm, hm, lm⟩ := hH2.meas
      refine ⟨_, rfl, o, CO, dx, _, _, rfl, ho2, cO, NO.nH, oF_held _, x.a, CH, dxx, _, _, rfl, h1, cH, NH.nM, hF_ms x, x.ms, vm, rfl, .inl (SqL.of hm), ?_⟩
      refine ⟨_, rfl, o, CO, dx, _, _, rfl, ho2, cO, NO.nH, oF_held _, x.a, CH, dxx, _, _, rfl, h1, cH, NH.nN, hF_ns x, x.ns, vn, rfl, .inl (SqL.of hn), (by show 3 ≤ sizeLine; decide), fun p hp => ?_⟩
      have s3 := same_upd (o := .lst [V.int 1, V.int (vm.length : Nat), V.int (vn.length : Nat)]) hp
      have bb : But [o] H H2 := (But.of s1).trans b1
      refine q _ p ⟨dx, _, s3 _ _ ho2, ?_⟩ (bb.trans (But.of s3)) (but_free bb ho2 hp) ?_
      · rw [k1]
        exact ⟨x, rfl, hH2.same s3, ok, hxo, offx⟩
      · rw [upd_same, k2, lm, ln]
        rfl
    · obtain ⟨k1, k2⟩ := kq _ er
      refine ⟨true, te, fun _ a0 _ => ?_, fun q => Bool.noConfusion q⟩
      refine ⟨_, rfl, rfl, rfl, d, _, _, rfl, hd, lk_past (by decide +kernel) |>.trans lk_here, _, rfl, rfl, rfl, d, _, _, rfl, hd, lk_here, (by show 3 ≤ sizeLine; decide), fun p hp => ?_⟩
      have s2 := same_upd (o := .lst [V.int 0, V.int (f.code : Nat), V.int (f.place : Nat)]) hp
      refine q _ p ?_ (But.of (s1.trans s2)) (s1.free hp) ?_
      · rw [k1]
        exact hO.same (s1.trans s2)
      · rw [k2]
        exact upd_same
end
end Fm

/-! answers: the calls one behind another. -/
namespace Fm
open PySem PySem.Spec PyProof.Rows L2 LamX
open Vaskya (Measure Item Sheet)
abbrev sAnswers : Stmt := top 102
abbrev sAnswer : Stmt := inClass (top 101) 2
theorem whole_id (c : List (List Int)) : PyVaskyb.whole c = c := by
  unfold PyVaskyb.whole
  split <;> rfl
theorem wholes_id (cs : List (List (List Int))) : cs.map PyVaskyb.whole = cs := by
  have e : PyVaskyb.whole = id := funext whole_id
  rw [e, List.map_id]
/-- the first of the calls that are to come -/
theorem calls_next {f : Nat} {z : Int} {r : List Int} {cs : List (List (List Int))} (h : PyFlat.calls PyVaskyb.shape f (z :: r) = some cs) :
    ∃ g n k xs t cs', PyVaskyb.shape z = some (n, k) ∧ n ≤ r.length ∧ PyFlat.rows k (r.drop n) = some (xs, t) ∧ cs = ((z :: r.take n) :: xs) :: cs' ∧ PyFlat.calls PyVaskyb.shape g t = some cs' := by
  cases f with
  | zero => cases h
  | succ g =>
    unfold PyFlat.calls at h
    cases e : PyFlat.call PyVaskyb.shape (z :: r) with
    | none => rw [e] at h; cases h
    | some y =>
      obtain ⟨c, t⟩ := y
      rw [e] at h
      simp only at h
      cases e2 : PyFlat.calls PyVaskyb.shape g t with
      | none => rw [e2] at h; cases h
      | some cs' =>
        rw [e2] at h
        cases h
        unfold PyFlat.call at e
        cases e3 : PyVaskyb.shape z with
        | none => simp only [e3] at e; cases e
        | some nk =>
          obtain ⟨n, k⟩ := nk
          simp only [e3] at e
          split at e
          · cases e
          · rename_i hn
            cases e4 : PyFlat.rows k (r.drop n) with
            | none => rw [e4] at e; cases e
            | some y4 =>
              obtain ⟨xs, t'⟩ := y4
              rw [e4] at e
              cases e
              exact ⟨g, n, k, xs, t, cs', rfl, by omega, e4, rfl, e2⟩
/-- all but the tables, and what is at L, stay -/
def ButN (L : List Addr) (H H' : Hp) : Prop := ∀ b o, H b = some o → b ∉ L → (∀ ps, o ≠ .tbl ps) → H' b = some o
theorem tabs_but {T : List (Addr × Str)} {H H' : Hp} {r C dx : Addr} {fs : List (Str × V)} (h : Tabs T H) (b : But [r] H H') (hr : H r = some (.ins C dx fs)) : Tabs T H' := fun p hp => by
  obtain ⟨ps, h1, h2, h3⟩ := h p hp
  refine ⟨ps, b _ _ h1 (fun z => by rw [List.mem_singleton.mp z, hr] at h1; cases h1), h2, fun pos cv hc => ?_⟩
  obtain ⟨c, e1, e2⟩ := h3 pos cv hc
  refine ⟨c, e1, b _ _ e2 (fun z => ?_)⟩
  rw [List.mem_singleton.mp z, hr] at e2
  unfold CodeO at e2
  cases e2
/-- one call, asked as the document says -/
def spAnswer (K : PySem.W.Frag) (T : List (Addr × Str)) (CO CH : Addr) : Sp := fun vs H Q _ => ∃ (o q : Addr) (L : List Addr) (st : Option Sheet) (p : Int) (ns : List Int) (rows : List (List Int)) (ws : List V), vs = [.ref o, .int p, .ref q] ∧ (∀ b ∈ L, H b ≠ none) ∧ HoldAt CO CH H o L st ∧ H q = some (.lst (ns.map V.int ++ ws)) ∧ RL H ws rows ∧ VaskybNeutral.asked1 ((p :: ns) :: rows) = true ∧ Tabs T H ∧
  ∀ H' a, HoldAt CO CH H' o L (VaskybNeutral.step st ((p :: ns) :: rows)).1 → ButN [o] H H' → Tabs T H' → H' a = some (.lst ((VaskybNeutral.step st ((p :: ns) :: rows)).2.map V.int)) → Q (.ref a) H'
def spAnswers (T : List (Addr × Str)) (K : PySem.W.Frag) : Sp := fun vs H Q _ => ∃ (a : Addr) (l : List Int), vs = [.ref a] ∧ SqL K H a (l.map V.int) ∧ Tabs T H ∧ PyVaskyb.answers_asked l = true ∧ ∀ (H' : Hp) (p : Addr), H' p = some (.lst ((PyVaskyb.answers l).map V.int)) → Q (.ref p) H'
theorem asked_facts {l : List Int} (h : PyVaskyb.answers_asked l = true) : ∃ cs, PyFlat.calls PyVaskyb.shape l.length l = some cs ∧ (∀ c ∈ cs, VaskybNeutral.asked1 c = true) ∧ PyVaskyb.answers l = PyFlat.told (PyFlat.played VaskybNeutral.step VaskybNeutral.start cs) ∧
    (PyFlat.told (PyFlat.played VaskybNeutral.step VaskybNeutral.start cs)).length ≤ 10000000 := by
  unfold PyVaskyb.answers_asked at h
  cases e : PyFlat.calls PyVaskyb.shape l.length l with
  | none => rw [e] at h; cases h
  | some cs =>
    rw [e] at h
    simp only [Bool.and_eq_true] at h
    obtain ⟨⟨_, h4⟩, h5⟩ := h
    have ea : PyVaskyb.answers l = PyFlat.told (PyFlat.played VaskybNeutral.step VaskybNeutral.start cs) := by
      unfold PyVaskyb.answers PyVaskyb.calls
      rw [e]
      simp only
      rw [wholes_id]
    refine ⟨cs, rfl, fun c hc => ?_, ea, ?_⟩
    · rw [wholes_id] at h4
      unfold VaskybNeutral.asked at h4
      exact List.all_eq_true.mp (Bool.and_eq_true_iff.mp h4).1 c hc
    · rw [ea] at h5
      exact of_decide_eq_true h5
theorem told_cons (a : List Int) (r : List (List Int)) : PyFlat.told (a :: r) = (((a.length : Nat) : Int) :: a) ++ PyFlat.told r := rfl
section
variable {P : Program} {w : World} {K : PySem.W.Frag} {mg : Str → Option Value} {base : Heap}
theorem scAnswers : FnScope ["calls", "reader", "holder", "told", "call"] ["calls"] (defScope sAnswers) := ⟨rfl, rfl, rfl, by decide +kernel, rfl, by decide +kernel, by decide +kernel⟩
theorem ok_answers {CH : Addr} {T : List (Addr × Str)} (D : DefT K mg "answers" sAnswers ["calls"]) (R : CrC K mg) (NR : CrT K R.C) (MD : MethT K R.C "is_done" "CallReader.is_done" sIsDone ["self"]) (MN : MethT K R.C "take_number" "CallReader.take_number" sTakeNumber ["self"])
    (MA : MethT K R.C "take_arguments" "CallReader.take_arguments" sTakeArgs ["self", "call"]) (GA : FnOk P w K mg base CX0 3 MA.f MA.fd ["self", "call"] (spTakeArgs K R.C)) (HO : HoC K mg) (NO : HoT K HO.C)
    (MO : MethT K HO.C "answer" "Holder.answer" sAnswer ["self", "call", "arguments"]) (GO : FnOk P w K mg base CX0 20 MO.f MO.fd ["self", "call", "arguments"] (spAnswer K T HO.C CH)) (FC : DefT K mg "counted" sCounted ["numbers"]) (gl : mg "len" = none) :
    FnOk P w K mg base CX0 21 D.f D.fd ["calls"] (spAnswers T K) := by
  refine D.F.ok scAnswers (fun vs H Q E h => ?_) (fun cdv A_ outer s H vs Q E hr h => ?_)
  · obtain ⟨a, l, rfl, _⟩ := h
    rfl
  · obtain ⟨a, l, rfl, ha, hTb, hask, q⟩ := h
    have hr1 : Room 1 _ := hr.mono (by decide)
    have hr2 : Room 2 _ := hr.mono (by decide)
    have hr3 : Room 3 _ := hr.mono (by decide)
    refine ⟨_, pss_cons (ps_set (i := 1) scAnswers.nd rfl (Or.inl rfl) (pe_make R.makes (ok_crInit R NR) hr2 (by rfl) R.g R.b .nil pass0 (pa_cons (pv 0) pa_nil)))
      (pss_cons (ps_set (i := 2) scAnswers.nd rfl (Or.inl rfl) (pe_make0 HO.makes (ok_hoInit HO NO) hr2 (by rfl) HO.g HO.b .nil pass0))
      (pss_cons (ps_set (i := 3) scAnswers.nd rfl (Or.inl rfl) (pe_lst pa_nil))
      (pss_cons (ps_while PassesOwn.never (pt_not (pt_val (pe_meth0 (pv 1) R.cl MD.m (ok_isDone MD R.cl NR gl) hr1 MD.b .nil pass0)))
        (pss_cons (ps_set (i := 4) scAnswers.nd rfl (Or.inl rfl) (pe_meth0 (pv 1) R.cl MN.m (ok_takeNumber MN R.cl NR) hr1 MN.b .nil pass0))
        (pss_one (ps_expr (pe_bm PySem.F.plainAttrs_list PySem.F.slot_list_extend PySem.F.type_list_extend mt_extend (pv 3) (pa_cons (pe_def FC (ok_counted FC gl) hr1
          (pa_cons (pe_meth (pv 2) HO.cl MO.m GO hr MO.b .nil pass0 (pa_cons (pv 4) (pa_cons (pe_meth (pv 1) R.cl MA.m GA hr3 MA.b .nil pass0 (pa_cons (pv 4) pa_nil)) pa_nil))) pa_nil)) pa_nil))))))
      (pss_one (ps_ret (pv 3)))))), ?_⟩
    obtain ⟨cs, hcs, h1, hans, hlen⟩ := asked_facts hask
    rw [hans] at q
    -- the reader
    refine ⟨_, rfl, ?_⟩
    intro r dr nr ndr ner
    refine ⟨r, dr, a, rfl, upd_same, rfl, ?_⟩
    rw [upd_upd]
    have sm1 : Same H (upd (upd H dr (.own r)) r (.ins R.C dr (cF a 0))) := fun b o e => by
      rw [upd_ne (ne_of_none e nr), upd_ne (ne_of_none e ndr)]
      exact e
    have hr1' : upd (upd H dr (.own r)) r (.ins R.C dr (cF a 0)) r = some (.ins R.C dr (cF a 0)) := upd_same
    revert sm1 hr1'
    generalize upd (upd H dr (.own r)) r (.ins R.C dr (cF a 0)) = H1
    intro sm1 hr1'
    have hC1 : CrAt K R.C H1 r a l l := ⟨⟨0, dr, rfl, Nat.zero_le _, hr1'⟩, sm1.seq ha⟩
    -- the holder
    intro o d_o no ndo neo
    refine ⟨o, d_o, rfl, upd_same, rfl, ?_⟩
    rw [upd_upd]
    have sm2 : Same H1 (upd (upd H1 d_o (.own o)) o (.ins HO.C d_o (oF .non))) := fun b u e => by
      rw [upd_ne (ne_of_none e no), upd_ne (ne_of_none e ndo)]
      exact e
    have ho2 : upd (upd H1 d_o (.own o)) o (.ins HO.C d_o (oF .non)) o = some (.ins HO.C d_o (oF .non)) := upd_same
    revert sm2 ho2
    generalize upd (upd H1 d_o (.own o)) o (.ins HO.C d_o (oF .non)) = H2
    intro sm2 ho2
    refine ⟨Nat.zero_le _, fun t ht => ?_⟩
    have sm3 := same_upd (o := .lst []) ht
    have hO3 : HoldAt HO.C CH (upd H2 t (.lst [])) o [t] none := ⟨d_o, .non, sm3 _ _ ho2, rfl⟩
    have smH3 := sm1.trans (sm2.trans sm3)
    have tH : H t = none := (sm1.trans sm2).free ht
    have rH : H r = none := nr
    have oH : H o = none := sm1.free no
    have ht3 : upd H2 t (.lst []) t = some (.lst []) := upd_same
    have hC3 : CrAt K R.C (upd H2 t (.lst [])) r a l l := hC1.same (sm2.trans sm3)
    have hT3 := hTb.ext smH3
    replace smH3 := extN_same smH3
    revert hO3 smH3 ht3 hC3 hT3
    generalize upd H2 t (.lst []) = H3
    intro hO3 ht3 hC3 hT3 smH3
    dsimp only [gName, tSeq]
    refine while_v (fun m σ H' => ∃ (rest : List Int) (st : Option Sheet) (g : Nat) (cs' : List (List (List Int))) (v : Option V) (acc : List Int), σ = [some (.ref a), some (.ref r), some (.ref o), some (.ref t), v] ∧ CrAt K R.C H' r a l rest ∧ HoldAt HO.C CH H' o [t] st ∧ H' t = some (.lst (acc.map V.int)) ∧ ExtN H H' ∧ Tabs T H' ∧
        PyFlat.calls PyVaskyb.shape g rest = some cs' ∧ (∀ c ∈ cs', VaskybNeutral.asked1 c = true) ∧ acc ++ PyFlat.told (PyFlat.played VaskybNeutral.step st cs') = PyFlat.told (PyFlat.played VaskybNeutral.step VaskybNeutral.start cs) ∧ m = cs'.length) (m0 := cs.length)
      ⟨l, none, l.length, cs, none, [], rfl, hC3, hO3, ht3, smH3, hT3, hcs, h1, rfl, rfl⟩ ?_
    rintro m σ H4 ⟨rest, st, g, cs', v, acc, rfl, hC, hO, ht4, sm, hT4, hcs', hall, htold, rfl⟩
    obtain ⟨⟨i4, dx4, _, _, hr4⟩, _⟩ := id hC
    refine ⟨!rest.isEmpty, fun G gg => ?_, fun c => ?_, fun c => ?_⟩
    · refine ⟨_, rfl, r, dx4, _, rfl, hr4, cF_none a i4 (by decide +kernel) (by decide +kernel), ?_⟩
      dsimp only [tNil]
      exact ⟨r, a, l, rest, rfl, hC, ⟨_, rfl, gg⟩⟩
    · cases rest with
      | nil => cases c
      | cons z rest =>
        obtain ⟨g', n, k, xs, tt, cs2, e1, e2, e3, rfl, e5⟩ := calls_next hcs'
        refine ⟨_, rfl, r, dx4, _, rfl, hr4, cF_none a i4 (by decide +kernel) (by decide +kernel), ?_⟩
        dsimp only [tNil]
        refine ⟨r, a, l, rest, z, rfl, hC, fun H5 hC5 b5 => ?_⟩
        have hO5 : HoldAt HO.C CH H5 o [t] st := hO.keep hr4 (by show 2 ≠ 5; decide) (by show 2 ≠ 1; decide) b5
        have tne : ∀ {C dx : Addr} {fs : List (Str × V)} {x : Addr} {H' : Hp} {xs : List V}, H' t = some (.lst xs) → H' x = some (.ins C dx fs) → t ∉ [x] := fun {C dx fs x H' xs} g1 g2 y => by
          rw [List.mem_singleton.mp y, g2] at g1
          cases g1
        have ht5 := b5 _ _ ht4 (tne ht4 hr4)
        have sm5 : ExtN H H5 := fun b u e n => b5 _ _ (sm _ _ e n) (fun y => by rw [List.mem_singleton.mp y, rH] at e; cases e)
        have hT5 := tabs_but hT4 b5 hr4
        obtain ⟨dxo, vo, ho5, _⟩ := id hO5
        obtain ⟨⟨i5, dx5, _, _, hr5⟩, _⟩ := id hC5
        refine ⟨_, rfl, .inl ⟨rfl, _, SqL.of ht5⟩, ?_⟩
        refine ⟨_, rfl, o, dxo, _, rfl, ho5, oF_no vo (by decide +kernel), _, rfl, _, rfl, r, dx5, _, rfl, hr5, cF_none a i5 (by decide +kernel) (by decide +kernel), _, rfl, ?_⟩
        refine ⟨r, a, l, rest, z, n, k, xs, tt, rfl, hC5, e1, e2, e3, fun H6 q6 ws hC6 b6 nq6 hq6 hR6 hN6 => ?_⟩
        have hO6 : HoldAt HO.C CH H6 o [t] st := hO5.keep hr5 (by show 2 ≠ 5; decide) (by show 2 ≠ 1; decide) b6
        have ht6 := b6 _ _ ht5 (tne ht5 hr5)
        have sm6 : ExtN H H6 := fun b u e n => b6 _ _ (sm5 _ _ e n) (fun y => by rw [List.mem_singleton.mp y, rH] at e; cases e)
        have hT6 := tabs_but hT5 b6 hr5
        obtain ⟨dxo6, vo6, ho6, _⟩ := id hO6
        have hasked : VaskybNeutral.asked1 ((z :: rest.take n) :: xs) = true := hall _ List.mem_cons_self
        refine ⟨o, q6, [t], st, z, rest.take n, xs, ws, rfl, (fun b hb y => by rw [List.mem_singleton.mp hb, ht6] at y; cases y), hO6, hq6, hR6, hasked, hT6, fun H7 a7 hO7 b7 hT7 ha7 => ?_⟩
        have hcons : PyFlat.told (PyFlat.played VaskybNeutral.step st (((z :: rest.take n) :: xs) :: cs2)) = (((((VaskybNeutral.step st ((z :: rest.take n) :: xs)).2.length : Nat) : Int)) :: (VaskybNeutral.step st ((z :: rest.take n) :: xs)).2) ++ PyFlat.told (PyFlat.played VaskybNeutral.step (VaskybNeutral.step st ((z :: rest.take n) :: xs)).1 cs2) := rfl
        rw [hcons] at htold
        revert htold hO7 ha7
        generalize (VaskybNeutral.step st ((z :: rest.take n) :: xs)).2 = an
        generalize (VaskybNeutral.step st ((z :: rest.take n) :: xs)).1 = st2
        intro htold hO7 ha7
        have ltot := congrArg List.length htold
        simp only [List.length_append, List.length_cons] at ltot
        have ht7 := b7 _ _ ht6 (tne ht6 ho6) (fun _ z => nomatch z)
        have sm7 : ExtN H H7 := fun b u e n => b7 _ _ (sm6 _ _ e n) (fun y => by rw [List.mem_singleton.mp y, oH] at e; cases e) n
        refine ⟨a7, an, rfl, ha7, by omega, fun H8 p8 s8 np8 hp8 => ?_⟩
        have ht8 := s8 _ _ ht7
        refine ⟨t, p8, _, _, rfl, rfl, ht8, hp8, line10 (by simp only [List.length_map, List.length_cons]; omega), ?_⟩
        have hC7 : CrAt K R.C H7 r a l tt := by
          obtain ⟨⟨i7, dx7, e7, e8, e9⟩, e10⟩ := hC6
          refine ⟨⟨i7, dx7, e7, e8, b7 _ _ e9 (fun y => ?_) (fun _ z => nomatch z)⟩, SqL.extN sm7 ha⟩
          rw [List.mem_singleton.mp y, ho6] at e9
          have ee := Option.some.inj e9
          injection ee with _ _ e3'
          cases e3'
        refine ⟨cs2.length, by rw [List.length_cons]; omega, tt, st2, g', cs2, _, acc ++ ((((an.length : Nat) : Int)) :: an), rfl, ?_, (hO7.same s8).put ht8 List.mem_cons_self, ?_, ?_, tabs_put (hT7.ext s8) ht8, e5, (fun c hc => hall c (List.mem_cons_of_mem _ hc)), ?_, rfl⟩
        · obtain ⟨⟨i7, dx7, e7, e8, e9⟩, e10⟩ := hC7
          have nrt : r ≠ t := fun y => by
            rw [y, ht7] at e9
            cases e9
          refine ⟨⟨i7, dx7, e7, e8, by rw [upd_ne nrt]; exact s8 _ _ e9⟩, SqL.extN (H := H) (fun b u e n => ?_) ha⟩
          rw [upd_ne (ne_of_none e tH)]
          exact s8 _ _ (sm7 _ _ e n)
        · rw [upd_same, List.map_append]
        · intro b u e n
          rw [upd_ne (ne_of_none e tH)]
          exact s8 _ _ (sm7 _ _ e n)
        · rw [← htold, List.append_assoc]
    · cases rest with
      | cons z rest => cases c
      | nil =>
        have e0 : cs' = [] := by
          cases g <;> (cases hcs'; rfl)
        subst e0
        have e1 : acc = PyFlat.told (PyFlat.played VaskybNeutral.step VaskybNeutral.start cs) := by
          rw [← htold]
          exact (List.append_nil acc).symm
        rw [e1] at ht4
        exact ⟨_, rfl, q _ t ht4⟩
end
end Fm

/-! Holder.answer. -/
namespace Fm
open PySem PySem.Spec PyProof.Rows L2
open Vaskya (Measure Item Sheet)
/-- the calls as they may be asked -/
theorem asked_cases {p : Int} {ns : List Int} {rows : List (List Int)} (h : VaskybNeutral.asked1 ((p :: ns) :: rows) = true) :
    (p = 0 ∧ ns = [] ∧ ∃ b, rows = [b] ∧ (∀ z ∈ b, 0 ≤ z ∧ z < 256) ∧ b.length ≤ 8192) ∨ (p = 1 ∧ ns = [] ∧ rows = []) ∨ (p = 2 ∧ ns = [] ∧ ∃ l, rows = [l] ∧ l.length ≤ 2000) ∨ (p = 3 ∧ ns = [] ∧ rows = []) ∨ (p = 4 ∧ rows = [] ∧ ∃ k, ns = [k]) ∨
    (p = 5 ∧ ns = [] ∧ ∃ a l, rows = [a, l] ∧ a.length ≤ 2000 ∧ l.length ≤ 2000) ∨ (p = 6 ∧ ns = [] ∧ ∃ l, rows = [l] ∧ l.length ≤ 2000) ∨ (p = 7 ∧ rows = [] ∧ ∃ k, ns = [k]) ∨ (p = 8 ∧ ns = [] ∧ ∃ l, rows = [l] ∧ l.length ≤ 2000) := by
  unfold VaskybNeutral.asked1 at h
  split at h
  · rename_i b e
    cases e
    refine .inl ⟨rfl, rfl, b, rfl, fun z hz => ?_, of_decide_eq_true (Bool.and_eq_true_iff.mp h).2⟩
    have := List.all_eq_true.mp (Bool.and_eq_true_iff.mp h).1 z hz
    unfold VaskybNeutral.natural at this
    have h2 := Bool.and_eq_true_iff.mp this
    exact ⟨of_decide_eq_true h2.1, of_decide_eq_true h2.2⟩
  · rename_i e
    cases e
    exact .inr (.inl ⟨rfl, rfl, rfl⟩)
  · rename_i l e
    cases e
    exact .inr (.inr (.inl ⟨rfl, rfl, l, rfl, of_decide_eq_true (Bool.and_eq_true_iff.mp h).2⟩))
  · rename_i e
    cases e
    exact .inr (.inr (.inr (.inl ⟨rfl, rfl, rfl⟩)))
  · rename_i k e
    cases e
    exact .inr (.inr (.inr (.inr (.inl ⟨rfl, rfl, k, rfl⟩))))
  · rename_i a l e
    cases e
    have h2 := Bool.and_eq_true_iff.mp h
    exact .inr (.inr (.inr (.inr (.inr (.inl ⟨rfl, rfl, a, l, rfl, of_decide_eq_true (Bool.and_eq_true_iff.mp h2.1).2, of_decide_eq_true (Bool.and_eq_true_iff.mp h2.2).2⟩)))))
  · rename_i l e
    cases e
    exact .inr (.inr (.inr (.inr (.inr (.inr (.inl ⟨rfl, rfl, l, rfl, of_decide_eq_true (Bool.and_eq_true_iff.mp h).2⟩))))))
  · rename_i k e
    cases e
    exact .inr (.inr (.inr (.inr (.inr (.inr (.inr (.inl ⟨rfl, rfl, k, rfl⟩)))))))
  · rename_i l e
    cases e
    exact .inr (.inr (.inr (.inr (.inr (.inr (.inr (.inr ⟨rfl, rfl, l, rfl, of_decide_eq_true (Bool.and_eq_true_iff.mp h).2⟩)))))))
  · cases h
/-- bytes as they are handed over -/
theorem bytes_vb : ∀ b : List Int, (∀ z ∈ b, 0 ≤ z ∧ z < 256) → vb (VaskybNeutral.bytesOf b) = b.map V.int
  | [], _ => rfl
  | z :: b, h => by
    have ih := bytes_vb b fun y hy => h y (List.mem_cons_of_mem _ hy)
    have hz := h z List.mem_cons_self
    have e : VaskybNeutral.bytesOf (z :: b) = UInt8.ofNat z.toNat :: VaskybNeutral.bytesOf b := rfl
    rw [e, List.map_cons, ← ih]
    have e2 : ((UInt8.ofNat z.toNat).toNat : Int) = z := by
      rw [UInt8.toNat_ofNat']
      omega
    show V.int ((UInt8.ofNat z.toNat).toNat : Int) :: vb (VaskybNeutral.bytesOf b) = _
    rw [e2]
theorem bytes_ok {b : List Int} (h : ∀ z ∈ b, 0 ≤ z ∧ z < 256) : NeutralIO.bytes b = true := by
  unfold NeutralIO.bytes
  refine List.all_eq_true.mpr fun z hz => ?_
  have := h z hz
  rw [Bool.and_eq_true, decide_eq_true_iff, decide_eq_true_iff]
  omega
theorem step_load (st : Option Sheet) {b : List Int} (h : ∀ z ∈ b, 0 ≤ z ∧ z < 256) : VaskybNeutral.step st [[0], b] = (loadSt st (VaskybNeutral.bytesOf b), loadAns (VaskybNeutral.bytesOf b)) := by
  have e : VaskybNeutral.callOf [[0], b] = some (.load (VaskybNeutral.bytesOf b)) := by
    show (if NeutralIO.bytes b = true then _ else _) = _
    rw [if_pos (bytes_ok h)]
  unfold VaskybNeutral.step
  rw [e]
  show ((Vaskyb.step st (.load (VaskybNeutral.bytesOf b))).1, VaskybNeutral.encode (Vaskyb.step st (.load (VaskybNeutral.bytesOf b))).2) = _
  unfold loadSt loadAns
  have e2 : Vaskyb.step st (.load (VaskybNeutral.bytesOf b)) = match Vaskya.read (VaskybNeutral.bytesOf b) with
    | .ok s => (some s, ⟨1, Vaskyb.nats [s.ms.length, s.items.length]⟩)
    | .error f => (st, VaskyBase.faulty f) := by
    cases st <;> rfl
  rw [e2]
  cases Vaskya.read (VaskybNeutral.bytesOf b) <;> rfl
theorem step_none {p : Int} {ns : List Int} {rows : List (List Int)} {c : Vaskyb.Call} (h : VaskybNeutral.callOf ((p :: ns) :: rows) = some c) (hn : ∀ b, c ≠ .load b) : VaskybNeutral.step none ((p :: ns) :: rows) = (none, [-1]) := by
  unfold VaskybNeutral.step
  rw [h]
  cases c <;> first | rfl | exact absurd rfl (hn _)
theorem step_some {p : Int} {ns : List Int} {rows : List (List Int)} {c : Vaskyb.Call} {s : Sheet} (h : VaskybNeutral.callOf ((p :: ns) :: rows) = some c) (hn : ∀ b, c ≠ .load b) : VaskybNeutral.step (some s) ((p :: ns) :: rows) = (some s, VaskybNeutral.encode (Vaskyb.looked s c)) := by
  unfold VaskybNeutral.step
  rw [h]
  cases c <;> first | rfl | exact absurd rfl (hn _)
theorem shown_is (s : Sheet) : VaskybNeutral.encode (Vaskyb.looked s .shown) = ((((bi (Vaskya.shown s)).length : Nat) : Int)) :: bi (Vaskya.shown s) := by
  show (((Vaskya.shown s).length : Nat) : Int) :: _ = _
  rw [show (bi (Vaskya.shown s)).length = (Vaskya.shown s).length from List.length_map ..]
  rfl
end Fm

/-! Holder.answer, all nine calls. -/
namespace Fm
open PySem PySem.Spec PyProof.Rows L2 LamX
open Vaskya (Measure Item Sheet)
theorem shown_len {s : Sheet} (ok : SheetOk s) : (Vaskya.shown s).length ≤ 1000000 := by
  rw [shown_line, List.length_append]
  have h2 := items_len ok s.items.length
  rw [List.take_length] at h2
  have h1 : (lineB (VaskyBase.word "measures ") (s.ms.map Vaskya.showMeasure)).length ≤ 100000 := by
    have m0 := ok.m0
    have m4 := ok.m4
    have nm := ok.names.1
    revert m0 m4 nm
    generalize s.ms = ms
    intro m0 m4 nm
    cases ms with
    | nil => exact absurd m0 (Nat.lt_irrefl _)
    | cons a r =>
      rw [List.map_cons, lineB_len]
      have w9 : (VaskyBase.word "measures ").length = 9 := by decide
      have c1 := showM_len (nm a List.mem_cons_self)
      have c2 : (tails (r.map Vaskya.showMeasure)).length ≤ (r.map Vaskya.showMeasure).length * (10005 + 2) := tails_len fun p hp => by
        obtain ⟨m, hm, rfl⟩ := List.mem_map.mp hp
        exact showM_len (nm m (List.mem_cons_of_mem _ hm))
      rw [List.length_map] at c2
      rw [List.length_cons] at m4
      omega
  omega
theorem ButN.of {L : List Addr} {H H' : Hp} (s : Same H H') : ButN L H H' := fun b o e _ _ => s b o e
theorem HeldAt.extN {C : Addr} {H H' : Hp} {x : HA} {s : Sheet} (h : HeldAt C H x s) (k : ExtN H H') : HeldAt C H' x s := by
  obtain ⟨⟨dx, h1⟩, h2, h3, vm, vn, vr, vg, e1, r1, e2, r2, e3, r3, e4, r4, no⟩ := h
  exact ⟨⟨dx, k _ _ h1 (fun _ z => nomatch z)⟩, h2, extN_lst k h3, vm, vn, vr, vg, extN_lst k e1, r1.extN k, extN_lst k e2, r2.extN k, extN_lst k e3, r3.extN k, extN_lst k e4, r4.extN k, no⟩
theorem HoldAt.extN {CO CH : Addr} {H H' : Hp} {o : Addr} {L : List Addr} {st : Option Sheet} (h : HoldAt CO CH H o L st) (k : ExtN H H') : HoldAt CO CH H' o L st := by
  obtain ⟨dx, v, h1, h2⟩ := h
  refine ⟨dx, v, k _ _ h1 (fun _ z => nomatch z), ?_⟩
  cases st with
  | none => exact h2
  | some s =>
    obtain ⟨x, g1, g2, g3⟩ := h2
    exact ⟨x, g1, g2.extN k, g3⟩
/-! ### shown -/
abbrev sShown : Stmt := top 78
def spShown (CH : Addr) : Sp := fun vs H Q _ => ∃ (x : HA) (s : Sheet), vs = [.ref x.a] ∧ HeldAt CH H x s ∧ SheetOk s ∧ ∀ H' p, Same H H' → H p = none → H' p = some (.lst ((((((bi (Vaskya.shown s)).length : Nat) : Int)) :: bi (Vaskya.shown s)).map V.int)) → Q (.ref p) H'
section
variable {P : Program} {w : World} {K : PySem.W.Frag} {mg : Str → Option Value} {base : Heap}
theorem scShown : FnScope ["held"] ["held"] (defScope sShown) := ⟨rfl, rfl, rfl, by decide +kernel, rfl, by decide +kernel, by decide +kernel⟩
theorem ok_shown {CH : Addr} (D : DefT K mg "shown" sShown ["held"]) (FC : DefT K mg "counted" sCounted ["numbers"]) (FO : DefT K mg "one_form" sOneForm ["held"]) (GO : FnOk P w K mg base CX0 3 FO.f FO.fd ["held"] (spOneForm CH)) (gl : mg "len" = none) : FnOk P w K mg base CX0 4 D.f D.fd ["held"] (spShown CH) := by
  refine D.F.ok scShown (fun vs H Q E h => ?_) (fun cdv A_ outer s H vs Q E hr h => ?_)
  · obtain ⟨x, s, rfl, _⟩ := h
    rfl
  · obtain ⟨x, sh, rfl, hH, ok, q⟩ := h
    have hr1 : Room 1 _ := hr.mono (by decide)
    refine ⟨_, pss_one (ps_ret (pe_def FC (ok_counted FC gl) hr1 (pa_cons (pe_def FO GO hr (pa_cons (pv 0) pa_nil)) pa_nil))), ?_⟩
    refine ⟨_, rfl, x, sh, rfl, hH, ok, fun H1 q1 s1 nq hq1 => ?_⟩
    refine ⟨q1, bi (Vaskya.shown sh), rfl, by rw [← vb_bi]; exact hq1, ?_, fun H2 p2 s2 np hp2 => q H2 p2 (s1.trans s2) (s1.free np) hp2⟩
    rw [show (bi (Vaskya.shown sh)).length = (Vaskya.shown sh).length from List.length_map ..]
    have := shown_len ok
    omega
theorem scAnswer : FnScope ["self", "call", "arguments"] ["self", "call", "arguments"] (defScope sAnswer) := ⟨rfl, rfl, rfl, by decide +kernel, rfl, by decide +kernel, by decide +kernel⟩
theorem ok_answer {T : List (Addr × Str)} {CO CH : Addr} (M : MethT K CO "answer" "Holder.answer" sAnswer ["self", "call", "arguments"]) (cO : Cls K CO) (NO : HoT K CO) (ML : MethT K CO "load" "Holder.load" sLoad ["self", "text"]) (GL : FnOk P w K mg base CX0 8 ML.f ML.fd ["self", "text"] (spLoad K CO CH))
    (FO : DefT K mg "shown" sShown ["held"]) (GO : FnOk P w K mg base CX0 4 FO.f FO.fd ["held"] (spShown CH)) (FS : DefT K mg "sub" sSub ["held", "measures"]) (GS : FnOk P w K mg base CX0 4 FS.f FS.fd ["held", "measures"] (spSub K CH))
    (FQ : DefT K mg "cube" sCube ["held"]) (GQ : FnOk P w K mg base CX0 5 FQ.f FQ.fd ["held"] (spCube CH)) (FL : DefT K mg "least" sLeastDef ["held", "item"]) (GE : FnOk P w K mg base CX0 5 FL.f FL.fd ["held", "item"] (spLeastDef CH))
    (FN : DefT K mg "bounds" sBounds ["held", "low", "high"]) (GN : FnOk P w K mg base CX0 4 FN.f FN.fd ["held", "low", "high"] (spBounds K CH)) (FG : DefT K mg "groups" sGroups ["held", "group_of"]) (GG : FnOk P w K mg base CX0 4 FG.f FG.fd ["held", "group_of"] (spGroups K CH))
    (FV : DefT K mg "cover" sCover ["held", "size"]) (GV : FnOk P w K mg base CX0 6 FV.f FV.fd ["held", "size"] (spCover T CH)) (FA : DefT K mg "ask" sAsk ["held", "measures"]) (GA : FnOk P w K mg base CX0 6 FA.f FA.fd ["held", "measures"] (spAsk K CH))
    (g0 : GI mg "LOAD" 0) (gn : GI mg "NO_LIST" (-1)) (g1 : GI mg "SHOWN" 1) (g2 : GI mg "SUB" 2) (g3 : GI mg "CUBE" 3) (g4 : GI mg "LEAST" 4) (g5 : GI mg "BOUNDS" 5) (g6 : GI mg "GROUPS" 6) (g7 : GI mg "COVER" 7) :
    FnOk P w K mg base CX0 20 M.f M.fd ["self", "call", "arguments"] (spAnswer K T CO CH) := by
  refine M.F.ok scAnswer (fun vs H Q E h => ?_) (fun cdv A_ outer s H vs Q E hr h => ?_)
  · obtain ⟨o, q, L, st, p, ns, rows, ws, rfl, _⟩ := h
    rfl
  · obtain ⟨o, q0, L, st, p, ns, rows, ws, rfl, hL, hO, hq, hR, hask, hTb, k⟩ := h
    have hr8 : Room 8 _ := hr.mono (by decide)
    have hr6 : Room 6 _ := hr.mono (by decide)
    have hr5 : Room 5 _ := hr.mono (by decide)
    have hr4 : Room 4 _ := hr.mono (by decide)
    refine ⟨_, pss_cons (ps_if (pt_cmpR op_eq (pv 1) (pe_gi g0) (nomark _)) (pss_one (ps_ret (pe_meth (pv 0) cO ML.m GL hr8 ML.b .nil pass0 (pa_cons (pe_ix ix_list (pv 2) pe_int (fun _ _ => rfl)) pa_nil)))) pss_nil)
      (pss_cons (ps_if (pt_cmpR op_isN (pe_fld (pv 0) rfl) pe_non (nomark _)) (pss_one (ps_ret (pe_lst (pa_cons (pe_gi gn) pa_nil)))) pss_nil)
      (pss_cons (ps_if (pt_cmpR op_eq (pv 1) (pe_gi g1) (nomark _)) (pss_one (ps_ret (pe_def FO GO hr4 (pa_cons (pe_fld (pv 0) rfl) pa_nil)))) pss_nil)
      (pss_cons (ps_if (pt_cmpR op_eq (pv 1) (pe_gi g2) (nomark _)) (pss_one (ps_ret (pe_def FS GS hr4 (pa_cons (pe_fld (pv 0) rfl) (pa_cons (pe_ix ix_list (pv 2) pe_int (fun _ _ => rfl)) pa_nil))))) pss_nil)
      (pss_cons (ps_if (pt_cmpR op_eq (pv 1) (pe_gi g3) (nomark _)) (pss_one (ps_ret (pe_def FQ GQ hr5 (pa_cons (pe_fld (pv 0) rfl) pa_nil)))) pss_nil)
      (pss_cons (ps_if (pt_cmpR op_eq (pv 1) (pe_gi g4) (nomark _)) (pss_one (ps_ret (pe_def FL GE hr5 (pa_cons (pe_fld (pv 0) rfl) (pa_cons (pe_ix ix_list (pv 2) pe_int (fun _ _ => rfl)) pa_nil))))) pss_nil)
      (pss_cons (ps_if (pt_cmpR op_eq (pv 1) (pe_gi g5) (nomark _)) (pss_one (ps_ret (pe_def FN GN hr4 (pa_cons (pe_fld (pv 0) rfl) (pa_cons (pe_ix ix_list (pv 2) pe_int (fun _ _ => rfl)) (pa_cons (pe_ix ix_list (pv 2) pe_int (fun _ _ => rfl)) pa_nil)))))) pss_nil)
      (pss_cons (ps_if (pt_cmpR op_eq (pv 1) (pe_gi g6) (nomark _)) (pss_one (ps_ret (pe_def FG GG hr4 (pa_cons (pe_fld (pv 0) rfl) (pa_cons (pe_ix ix_list (pv 2) pe_int (fun _ _ => rfl)) pa_nil))))) pss_nil)
      (pss_cons (ps_if (pt_cmpR op_eq (pv 1) (pe_gi g7) (nomark _)) (pss_one (ps_ret (pe_def FV GV hr6 (pa_cons (pe_fld (pv 0) rfl) (pa_cons (pe_ix ix_list (pv 2) pe_int (fun _ _ => rfl)) pa_nil))))) pss_nil)
      (pss_one (ps_ret (pe_def FA GA hr6 (pa_cons (pe_fld (pv 0) rfl) (pa_cons (pe_ix ix_list (pv 2) pe_int (fun _ _ => rfl)) pa_nil))))))))))))), ?_⟩
    obtain ⟨dx, v, ho, hv⟩ := id hO
    have d0 : ∀ i j : Int, decide (V.int i = V.int j) = decide (i = j) := fun i j => decide_eq_decide.mpr ⟨fun z => V.int.inj z, fun z => by rw [z]⟩
    refine ⟨_, rfl, rfl, _, rfl, ?_⟩
    rw [d0]
    rcases asked_cases hask with ⟨rfl, rfl, b, rfl, hb, hbl⟩ | h1
    · -- load
      refine iteT ?_
      cases hR with
      | cons ea hr0 =>
        rename_i a ws
        cases hr0
        refine ⟨_, rfl, o, dx, _, rfl, ho, oF_no v (by decide +kernel), _, rfl, q0, _, 0, .ref a, rfl, rfl, SqL.of hq, rfl, ?_⟩
        refine ⟨o, a, L, st, VaskybNeutral.bytesOf b, rfl, hL, hO, SqL.of (by rw [bytes_vb b hb]; exact ea), fun H' p hO' b' np hp => ?_⟩
        rw [step_load st hb] at k
        exact k H' p hO' (fun z u e1 e2 _ => b' z u e1 e2) (tabs_but hTb b' ho) hp
    -- the others: their call
    have hp0 : 1 ≤ p := by
      rcases h1 with h | h | h | h | h | h | h | h <;> (rw [h.1]; decide)
    rw [decide_eq_false (by omega)]
    refine iteF ?_
    have hcall : ∃ c, VaskybNeutral.callOf ((p :: ns) :: rows) = some c ∧ ∀ b, c ≠ .load b := by
      rcases h1 with ⟨rfl, rfl, rfl⟩ | ⟨rfl, rfl, l, rfl, _⟩ | ⟨rfl, rfl, rfl⟩ | ⟨rfl, rfl, i, rfl⟩ | ⟨rfl, rfl, a, l, rfl, _⟩ | ⟨rfl, rfl, l, rfl, _⟩ | ⟨rfl, rfl, i, rfl⟩ | ⟨rfl, rfl, l, rfl, _⟩
      · exact ⟨_, rfl, fun _ z => nomatch z⟩
      · exact ⟨_, rfl, fun _ z => nomatch z⟩
      · exact ⟨_, rfl, fun _ z => nomatch z⟩
      · exact ⟨_, rfl, fun _ z => nomatch z⟩
      · exact ⟨_, rfl, fun _ z => nomatch z⟩
      · exact ⟨_, rfl, fun _ z => nomatch z⟩
      · exact ⟨_, rfl, fun _ z => nomatch z⟩
      · exact ⟨_, rfl, fun _ z => nomatch z⟩
    obtain ⟨c, hc, hnl⟩ := hcall
    have fin : ∀ {H' : Hp} {a : Addr}, Same H H' → H a = none → ∀ {st' : Option Sheet} {an : List Int}, VaskybNeutral.step st ((p :: ns) :: rows) = (st', an) → st' = st → H' a = some (.lst (an.map V.int)) → Q (.ref a) H' := fun {H' a} sm na {st' an} e1 e2 ha => by
      rw [e1] at k
      subst e2
      exact k H' a (hO.same sm) (ButN.of sm) (hTb.ext sm) ha
    refine ⟨_, rfl, o, CO, dx, _, _, rfl, ho, cO, NO.nH, oF_held v, rfl, _, rfl, ?_⟩
    cases st with
    | none =>
      have hvn : v = .non := hv
      rw [hvn]
      refine iteT ⟨(by show 1 ≤ sizeLine; decide), fun p1 hp1 => ?_⟩
      exact fin (same_upd hp1) hp1 (step_none hc hnl) rfl upd_same
    | some sh =>
      obtain ⟨x, hvx, hH, ok, hxo, offx⟩ := hv
      rw [hvx]
      refine iteF ?_
      subst hvx
      have hst := step_some (s := sh) hc hnl
      refine ⟨_, rfl, rfl, _, rfl, ?_⟩
      rw [d0]
      rcases h1 with ⟨rfl, rfl, rfl⟩ | h1
      · -- shown
        refine iteT ?_
        cases hc
        refine ⟨_, rfl, o, CO, dx, _, _, rfl, ho, cO, NO.nH, oF_held _, x, sh, rfl, hH, ok, fun H1 p1 s1 np hp1 => ?_⟩
        rw [shown_is] at hst
        exact fin s1 np hst rfl hp1
      rw [decide_eq_false (by rcases h1 with h | h | h | h | h | h | h <;> (rw [h.1]; decide))]
      refine iteF ⟨_, rfl, rfl, _, rfl, ?_⟩
      rw [d0]
      rcases h1 with ⟨rfl, rfl, l, rfl, hl⟩ | h1
      · -- sub
        refine iteT ?_
        cases hc
        cases hR with
        | cons ea hr0 =>
          rename_i a ws
          cases hr0
          refine ⟨_, rfl, o, CO, dx, _, _, rfl, ho, cO, NO.nH, oF_held _, _, rfl, q0, _, 0, .ref a, rfl, rfl, SqL.of hq, rfl, ?_⟩
          refine ⟨x, sh, a, l, rfl, hH, ok, SqL.of ea, hl, fun H1 p1 s1 np hp1 => ?_⟩
          rw [sub_is] at hst
          exact fin s1 np hst rfl hp1
      rw [decide_eq_false (by rcases h1 with h | h | h | h | h | h <;> (rw [h.1]; decide))]
      refine iteF ⟨_, rfl, rfl, _, rfl, ?_⟩
      rw [d0]
      rcases h1 with ⟨rfl, rfl, rfl⟩ | h1
      · -- cube
        refine iteT ?_
        cases hc
        refine ⟨_, rfl, o, CO, dx, _, _, rfl, ho, cO, NO.nH, oF_held _, x, sh, rfl, hH, ok, fun H1 p1 s1 np hp1 => ?_⟩
        rw [cube_is ok] at hst
        exact fin s1 np hst rfl hp1
      rw [decide_eq_false (by rcases h1 with h | h | h | h | h <;> (rw [h.1]; decide))]
      refine iteF ⟨_, rfl, rfl, _, rfl, ?_⟩
      rw [d0]
      rcases h1 with ⟨rfl, rfl, i, rfl⟩ | h1
      · -- least
        refine iteT ?_
        cases hc
        cases hR
        refine ⟨_, rfl, o, CO, dx, _, _, rfl, ho, cO, NO.nH, oF_held _, _, rfl, q0, _, 0, .int i, rfl, rfl, SqL.of hq, rfl, ?_⟩
        refine ⟨x, sh, i, rfl, hH, ok, fun H1 p1 s1 np hp1 => ?_⟩
        rw [least_is ok] at hst
        exact fin s1 np hst rfl hp1
      rw [decide_eq_false (by rcases h1 with h | h | h | h <;> (rw [h.1]; decide))]
      refine iteF ⟨_, rfl, rfl, _, rfl, ?_⟩
      rw [d0]
      rcases h1 with ⟨rfl, rfl, a1, l1, rfl, hl1, hl2⟩ | h1
      · -- bounds
        refine iteT ?_
        cases hc
        cases hR with
        | cons ea hr0 =>
          rename_i a ws
          cases hr0 with
          | cons eb hr1 =>
            rename_i b ws2
            cases hr1
            refine ⟨_, rfl, o, CO, dx, _, _, rfl, ho, cO, NO.nH, oF_held _, _, rfl, q0, _, 0, .ref a, rfl, rfl, SqL.of hq, rfl, _, rfl, q0, _, 1, .ref b, rfl, rfl, SqL.of hq, rfl, ?_⟩
            refine ⟨x, sh, a, b, a1, l1, rfl, hH, ok, SqL.of ea, SqL.of eb, fun H1 p1 s1 np hp1 => ?_⟩
            rw [bounds_is ok] at hst
            exact fin s1 np hst rfl hp1
      rw [decide_eq_false (by rcases h1 with h | h | h <;> (rw [h.1]; decide))]
      refine iteF ⟨_, rfl, rfl, _, rfl, ?_⟩
      rw [d0]
      rcases h1 with ⟨rfl, rfl, l, rfl, hl⟩ | h1
      · -- groups
        refine iteT ?_
        cases hc
        cases hR with
        | cons ea hr0 =>
          rename_i a ws
          cases hr0
          refine ⟨_, rfl, o, CO, dx, _, _, rfl, ho, cO, NO.nH, oF_held _, _, rfl, q0, _, 0, .ref a, rfl, rfl, SqL.of hq, rfl, ?_⟩
          refine ⟨x, sh, a, l, rfl, hH, ok, SqL.of ea, hl, fun H1 p1 s1 np hp1 => ?_⟩
          rw [groups_is ok] at hst
          exact fin s1 np hst rfl hp1
      rw [decide_eq_false (by rcases h1 with h | h <;> (rw [h.1]; decide))]
      refine iteF ⟨_, rfl, rfl, _, rfl, ?_⟩
      rw [d0]
      rcases h1 with ⟨rfl, rfl, i, rfl⟩ | ⟨rfl, rfl, l, rfl, hl⟩
      · -- cover
        refine iteT ?_
        cases hc
        cases hR
        refine ⟨_, rfl, o, CO, dx, _, _, rfl, ho, cO, NO.nH, oF_held _, _, rfl, q0, _, 0, .int i, rfl, rfl, SqL.of hq, rfl, ?_⟩
        refine ⟨x, sh, i, rfl, hH, ok, hTb, fun H1 p1 e1 T1 hp1 => ?_⟩
        rw [cover_is] at hst
        rw [hst] at k
        exact k H1 p1 (hO.extN e1) (fun z u e2 _ e3 => e1 z u e2 e3) T1 hp1
      · -- ask
        refine iteF ?_
        cases hc
        cases hR with
        | cons ea hr0 =>
          rename_i a ws
          cases hr0
          refine ⟨_, rfl, o, CO, dx, _, _, rfl, ho, cO, NO.nH, oF_held _, _, rfl, q0, _, 0, .ref a, rfl, rfl, SqL.of hq, rfl, ?_⟩
          refine ⟨x, sh, a, l, rfl, hH, ok, SqL.of ea, hl, fun H1 p1 s1 np hp1 => ?_⟩
          rw [ask_is ok] at hst
          exact fin s1 np hst rfl hp1
end
end Fm

/-! What the top has written, and all defs together. -/
namespace Fm
open PySem PySem.Spec PyProof.Rows L2
/-- a function at f -/
def FnAt (K : PySem.W.Frag) (m q : Str) (st : Stmt) (f : Addr) : Prop := ∃ (oc : Value) (od : Option Addr) (kV doc pm : Value) (an : Option Addr) (cdv ct : Value) (osl : Array (Option Value)),
  K.lookup f = some ⟨oc, od, .func (PySem.W.fnOf m q (defArgs st) (defBody st) (defScope st) .none kV doc pm an cdv ct), osl⟩ ∧ PySem.W.codeIn K cdv q = true ∧ PySem.W.keepIn K (.ref f) = true
def DefOk (K : PySem.W.Frag) (x : Str) (st : Stmt) : Prop := ∃ f : Addr, PySem.W.nsIn K mainGlobals x = some (some (.ref f)) ∧ FnAt K x x st f
def MethOk (K : PySem.W.Frag) (C : Addr) (m q : Str) (st : Stmt) : Prop := ∃ f : Addr, PySem.W.findIn K (.ref C) m = some (some (.ref f)) ∧ PySem.W.isFn K (.ref f) = true ∧ FnAt K m q st f
/-- how positional arguments are bound -/
def Bd (m q : Str) (st : Stmt) (ps : List Str) : Prop := ∀ (kV doc pm : Value) (an : Option Addr) (cdv ct : Value) (us : List Value), us.length = ps.length → bindArgs (PySem.W.fnOf m q (defArgs st) (defBody st) (defScope st) .none kV doc pm an cdv ct) ⟨us, []⟩ = pure (ps.zip us)
structure ClsOk (K : PySem.W.Frag) (x : Str) (C : Addr) : Prop where
  ns : PySem.W.nsIn K mainGlobals x = some (some (.ref C))
  cls : Cls K C
  makes : PySem.W.makesIn K C = true
  kp : PySem.W.keepIn K (.ref C) = true
def ConI (K : PySem.W.Frag) (x : Str) (i : Int) : Prop := ∃ t : Tok, PySem.W.nsIn K mainGlobals x = some (some (.int i t))
def ConS (K : PySem.W.Frag) (x : Str) (z : Str) : Prop := ∃ t : Tok, PySem.W.nsIn K mainGlobals x = some (some (.str z t))
def ConT (K : PySem.W.Frag) (x : Str) (xs : List V) : Prop := ∃ (a : Addr) (o : Obj) (its : Array Value) (n : Nat), PySem.W.nsIn K mainGlobals x = some (some (.ref a)) ∧ K.lookup a = some o ∧ o.cls = .type "tuple" ∧ o.data = .seq its n ∧ its.size ≤ sizeLine ∧ Vals xs its.toList
section
variable {K : PySem.W.Frag} {h : Heap} {mg : Str → Option Value} {x m q : Str} {st : Stmt} {ps : List Str} {C : Addr}
theorem fn_mk {f : Addr} (a : FnAt K m q st f) (b : Bd m q st ps) : ∃ fd : FuncData, Fun K m q st f fd ∧ Binds K fd ps [] := by
  obtain ⟨oc, od, kV, doc, pm, an, cdv, ct, osl, l, c, k⟩ := a
  have F := fun_mk (st := st) l c k
  exact ⟨_, F, F.binds b⟩
theorem def_mk (X : K.In h) (G : h.Ns mainGlobals mg) (d : DefOk K x st) (b : Bd x x st ps) : Nonempty (DefT K mg x st ps) := by
  obtain ⟨f, a, at_⟩ := d
  obtain ⟨fd, F, B⟩ := fn_mk at_ b
  exact ⟨⟨f, fd, F, B, PySem.W.mg_of X G a⟩⟩
theorem meth_mk (d : MethOk K C m q st) (b : Bd m q st ps) : Nonempty (MethT K C m q st ps) := by
  obtain ⟨f, a, i, at_⟩ := d
  obtain ⟨fd, F, B⟩ := fn_mk at_ b
  exact ⟨⟨f, fd, F, B, ⟨a, i, F.kp⟩⟩⟩
theorem cls_mk (X : K.In h) (G : h.Ns mainGlobals mg) (c : ClsOk K x C) (d : MethOk K C "__init__" q st) (b : Bd "__init__" q st ps) : ∃ T : ClsT K mg x q st ps, T.C = C := by
  obtain ⟨f, a, i, at_⟩ := d
  obtain ⟨fd, F, B⟩ := fn_mk at_ b
  exact ⟨⟨C, f, fd, c.cls, PySem.W.mg_of X G c.ns, ⟨c.makes, a, i, c.kp⟩, F, B⟩, rfl⟩
theorem gi_mk {i : Int} (X : K.In h) (G : h.Ns mainGlobals mg) (c : ConI K x i) : GI mg x i := by
  obtain ⟨t, a⟩ := c
  exact ⟨t, PySem.W.mg_of X G a⟩
theorem gs_mk {z : Str} (X : K.In h) (G : h.Ns mainGlobals mg) (c : ConS K x z) : GS mg x z := by
  obtain ⟨t, a⟩ := c
  exact ⟨t, PySem.W.mg_of X G a⟩
theorem gt_mk {xs : List V} (X : K.In h) (G : h.Ns mainGlobals mg) (c : ConT K x xs) : GT K mg x xs := by
  obtain ⟨a, o, its, n, h1, h2, h3, h4, h5, h6⟩ := c
  exact ⟨a, PySem.W.mg_of X G h1, fun H => .inr ⟨o, its, n, h2, h3, h4, h5, h6⟩⟩
end
/-- an error of the class at S is what «except S» names -/
theorem exm_own {K : PySem.W.Frag} {S : Addr} (h1 : PySem.W.subIn K (.ref S) (.type "BaseException") = some true) (h2 : PySem.W.isClsIn K S = true) (h3 : PySem.W.typeIn K (.ref S) = some (.type "type")) (h4 : PySem.W.subIn K (.ref S) (.ref S) = some true) :
    PySem.W.exmOne K (.ref S) (.ref S) = some true := by
  have q : (PySem.W.clsIn K S).isSome = true := h2
  have r1 : (PySem.W.subIn K (.ref S) (.type "BaseException") == some true) = true := by rw [h1]; rfl
  have r2 : (PySem.W.typeIn K (.ref S) == some (.type "type")) = true := by rw [h3]; rfl
  simp only [PySem.W.exmOne, PySem.W.kitCls, r1, r2, q, Bool.and_self, if_true, h4]
section
variable {K : PySem.W.Frag} {x m q : Str} {st : Stmt} {C f : Addr} {oc : Value} {od : Option Addr} {kV doc pm : Value} {an : Option Addr} {cdv ct : Value} {osl : Array (Option Value)}
theorem def_in (a : PySem.W.nsIn K mainGlobals x = some (some (.ref f))) (l : K.lookup f = some ⟨oc, od, .func (PySem.W.fnOf x x (defArgs st) (defBody st) (defScope st) .none kV doc pm an cdv ct), osl⟩) (c : PySem.W.codeIn K cdv x = true) (k : PySem.W.keepIn K (.ref f) = true) : DefOk K x st :=
  ⟨f, a, oc, od, kV, doc, pm, an, cdv, ct, osl, l, c, k⟩
theorem fn_in (l : K.lookup f = some ⟨oc, od, .func (PySem.W.fnOf m q (defArgs st) (defBody st) (defScope st) .none kV doc pm an cdv ct), osl⟩) (c : PySem.W.codeIn K cdv q = true) (k : PySem.W.keepIn K (.ref f) = true) : FnAt K m q st f :=
  ⟨oc, od, kV, doc, pm, an, cdv, ct, osl, l, c, k⟩
theorem meth_in (a : PySem.W.findIn K (.ref C) m = some (some (.ref f))) (i : PySem.W.isFn K (.ref f) = true) (l : K.lookup f = some ⟨oc, od, .func (PySem.W.fnOf m q (defArgs st) (defBody st) (defScope st) .none kV doc pm an cdv ct), osl⟩) (c : PySem.W.codeIn K cdv q = true) (k : PySem.W.keepIn K (.ref f) = true) : MethOk K C m q st :=
  ⟨f, a, i, oc, od, kV, doc, pm, an, cdv, ct, osl, l, c, k⟩
theorem cls_in (a : PySem.W.nsIn K mainGlobals x = some (some (.ref C))) (b : PySem.W.plainGet K C Str.empty = true) (c : PySem.W.hasDictIn K C = true) (d : PySem.W.plainOver K C = true) (e : PySem.W.findIn K (.ref C) "__setattr__" = some (some (.builtin "object.__setattr__"))) (g : PySem.W.makesIn K C = true) (i : PySem.W.keepIn K (.ref C) = true) : ClsOk K x C :=
  ⟨a, ⟨b, c, d, e⟩, g, i⟩
theorem int_in {i : Int} {t : Tok} (a : PySem.W.nsIn K mainGlobals x = some (some (.int i t))) : ConI K x i := ⟨t, a⟩
theorem str_in {z : Str} {t : Tok} (a : PySem.W.nsIn K mainGlobals x = some (some (.str z t))) : ConS K x z := ⟨t, a⟩
theorem tup_in {xs : List V} {a : Addr} {o : Obj} {its : Array Value} {n : Nat} (h1 : PySem.W.nsIn K mainGlobals x = some (some (.ref a))) (h2 : K.lookup a = some o) (h3 : o.cls = .type "tuple") (h4 : o.data = .seq its n) (h5 : its.size ≤ sizeLine) (h6 : Vals xs its.toList) : ConT K x xs :=
  ⟨a, o, its, n, h1, h2, h3, h4, h5, h6⟩
theorem row_in {nm qn : Str} {N : Addr} {bs : List Value} {sn : List Str} {sub : List Value} {ab : Bool} {col : Option Bool} {dd : Option Addr} {z0 z1 z2 z3 z5 : Option Value} (h : K.lookup C = some (excClassObj nm qn C N bs PySem.ESX.exTail true sn sub ab col dd z0 z1 z2 z3 z5 "Exception.__new__")) :
    ∃ (nm qn : Str) (N : Addr) (bs : List Value) (sn : List Str) (sub : List Value) (ab : Bool) (col : Option Bool) (dd : Option Addr) (z0 z1 z2 z3 z5 : Option Value), K.lookup C = some (excClassObj nm qn C N bs PySem.ESX.exTail true sn sub ab col dd z0 z1 z2 z3 z5 "Exception.__new__") :=
  ⟨nm, qn, N, bs, sn, sub, ab, col, dd, z0, z1, z2, z3, z5, h⟩
theorem sig_in {t1 t2 t3 t4 u1 u2 u3 u4 : Tok} {n : Nat} (h : K.lookup C = some ⟨.type "dict", none, .dict (sigE t1 t2 t3 t4 u1 u2 u3 u4) n, #[]⟩) : ∃ (t1 t2 t3 t4 u1 u2 u3 u4 : Tok) (n : Nat), K.lookup C = some ⟨.type "dict", none, .dict (sigE t1 t2 t3 t4 u1 u2 u3 u4) n, #[]⟩ :=
  ⟨t1, t2, t3, t4, u1, u2, u3, u4, n, h⟩
end
end Fm

/-! The row from the promise of its def, where some defs make lambdas: the tables of their code objects are known, and empty at first. -/
namespace Fm
open PySem PySem.Spec PyProof.Rows L2 LamX
open PySem.W (WData Codec OpenSpec Well WellAll ReadsW ReadsAllW)
mutual
theorem dw_up {K : PySem.W.Frag} {H H' : Hp} (k : ∀ b o, H b = some o → H' b = some o) : ∀ (d : WData) (v : V), Dw K H v d → Dw K H' v d
  | .none, _, x => by cases x; exact .non
  | .bool b, _, x => by cases x; exact .bl b
  | .int i, _, x => by cases x; exact .int i
  | .str s, _, x => by cases x; exact .str s
  | .bytes b, _, x => by
    cases x
    exact Dw.byt _
  | .list ds, _, x => by
    cases x with
    | lst hs ha =>
      refine .lst ?_ (dws_up k ds _ ha)
      rcases hs with (h | ⟨o, h⟩) | h
      · exact .inl (.inl (k _ _ h))
      · exact .inl (.inr ⟨o, k _ _ h⟩)
      · exact .inr h
  | .tuple ds, _, x => by
    cases x with
    | tup hs ha =>
      refine .tup ?_ (dws_up k ds _ ha)
      rcases hs with (h | ⟨o, h⟩) | h
      · exact .inl (.inl (k _ _ h))
      · exact .inl (.inr ⟨o, k _ _ h⟩)
      · exact .inr h
  | .float _, _, x => by cases x
  | .dict _, _, x => by cases x
  | .bytearray _, _, x => by cases x
  | .set _, _, x => by cases x
  | .frozenset _, _, x => by cases x
  | .obj _ _, _, x => by cases x
theorem dws_up {K : PySem.W.Frag} {H H' : Hp} (k : ∀ b o, H b = some o → H' b = some o) : ∀ (ds : List WData) (vs : List V), DwAll K H vs ds → DwAll K H' vs ds
  | [], _, x => by cases x; exact .nil
  | d :: ds, _, x => by
    cases x with
    | cons h1 h2 => exact .cons (dw_up k d _ h1) (dws_up k ds _ h2)
end
/-- the arguments, and the tables beside them -/
def tabsH (cs : List (Addr × Addr)) (H : Hp) : Hp := fun b => if b ∈ cs.map (·.2) then some (.tbl #[]) else H b
theorem tabsH_at {cs : List (Addr × Addr)} {H : Hp} {b : Addr} {u : HO} (h : tabsH cs H b = some u) : (b ∈ cs.map (·.2) ∧ u = .tbl #[]) ∨ (b ∉ cs.map (·.2) ∧ H b = some u) := by
  by_cases hb : b ∈ cs.map (·.2)
  · have z := (if_pos hb).symm.trans h
    exact .inl ⟨hb, (Option.some.inj z).symm⟩
  · exact .inr ⟨hb, (if_neg hb).symm.trans h⟩
abbrev noTab : Obj := { cls := .none, data := .fields #[] }
theorem call_tabs {P : Program} {w : World} {K : PySem.W.Frag} {mg mb : Str → Option Value} {k : Nat} {fa : Addr} {fd : FuncData} {ps : List Str} {sp : Sp} {s1 : Shared} {vals : List Value} {ds : List WData} {R : PySem.W.WRecords} {cl : Str → Option Addr} {d0 : WData} (cs : List (Addr × Addr))
    (KX : K.In s1.heap) (hns : s1.heap.Ns mainGlobals mg) (hb : s1.heap.Ns builtinsNs mb) (hbb : ∀ x : Str, x ≠ "__name__" → mb x = bootBuiltins x) (hlim : s1.heap.NoLimit) (hg : s1.gens = #[])
    (hbm : ∃ (bm : Addr) (ob : Obj), mg "__builtins__" = some (.ref bm) ∧ bm ≠ builtinsNs ∧ s1.heap.get? bm = some ob ∧ ob.cls = .type "module" ∧ ob.dict = some builtinsNs ∧ ob.data = .plain)
    (hT : ∀ p ∈ cs, s1.heap.get? p.2 = some noTab) (nT : ∀ p ∈ cs, K.lookup p.2 = none) (hC : ∀ p ∈ cs, PySem.W.CodeHd s1.heap p.1 p.2)
    (hwl : WellAll w.params s1.heap vals ds) (hpl : plWs ds = true) (hwt : ∀ d ∈ ds, d.weight ≤ 1048576) (hr : Room k callerA)
    (F : ∀ base : Heap, K.In base → base.Ns mainGlobals mg → (∀ p ∈ cs, TabB base mg p.1 p.2) → FnOk P w K mg base C8.CX0 k fa fd ps sp)
    (hbind : ∀ (s : Shared) (us : List Value), us.length = ps.length → BindsTo s fd ⟨us, []⟩ (ps.zip us)) (hlen : ds.length = ps.length)
    (hsp : ∀ (H : Hp) (xs : List V), (∀ p ∈ cs, H p.2 = some (.tbl #[])) → DwAll K H xs ds → sp xs H (fun v H' => Dw K H' v d0) fun _ _ _ => False) :
    codeAny (model P w) callerA (.call (.ref fa) ⟨vals, []⟩) (fun r s' => ∃ u as, r = .ok (.ret u) ∧ ReadsW R cl s'.heap u d0 as ∧ OldK s1.heap s'.heap ∧ s'.os = s1.os ∧ AllBare s'.gens) s1 := by
  obtain ⟨A, ho, ar⟩ := area_all ds vals hwl hpl hwt
  have isT : ∀ b ∈ cs.map (·.2), s1.heap.get? b = some noTab := fun b hb => by
    obtain ⟨p, hp, e⟩ := List.mem_map.mp hb
    rw [← e]
    exact hT p hp
  have mT : ∀ p ∈ cs, p.2 ∈ cs.map (·.2) := fun p hp => List.mem_map.mpr ⟨p, hp, rfl⟩
  -- no argument is a table
  have sep : ∀ {b : Addr} {u : HO}, argH K s1.heap A b = some u → b ∉ cs.map (·.2) := fun {b u} q z => by
    have e1 := isT b z
    obtain ⟨_, vs, _, _, ⟨e2, _⟩ | ⟨e2, _⟩⟩ := argH_is ar q <;>
    · rw [e1] at e2
      have e3 := congrArg Obj.data (Option.some.inj e2)
      cases e3
  have up : ∀ b o, argH K s1.heap A b = some o → tabsH cs (argH K s1.heap A) b = some o := fun b o q => (if_neg (sep q)).trans q
  have hS := dws_up up ds _ (dw_all KX ar ds vals hwl hpl ho)
  have hV := vals_toV ho
  have hTab : ∀ p ∈ cs, tabsH cs (argH K s1.heap A) p.2 = some (.tbl #[]) := fun p hp => if_pos (mT p hp)
  have hok : HOk P w (tabsH cs (argH K s1.heap A)) s1.heap := fun b u q => by
    rcases tabsH_at q with ⟨z, rfl⟩ | ⟨_, q'⟩
    · exact isT b z
    · obtain ⟨_, vs, h1, h2, ⟨e, rfl⟩ | ⟨e, rfl⟩⟩ := argH_is ar q'
      · exact ⟨e, by rw [List.length_map]; exact h1, vs, _, vals_toV h2, e⟩
      · exact ⟨e, by rw [List.length_map]; exact h1, vs, vals_toV h2, _, e, rfl, _, rfl⟩
  have nK : ∀ b o, K.lookup b = some o → tabsH cs (argH K s1.heap A) b = none := fun b o e => by
    cases q : tabsH cs (argH K s1.heap A) b with
    | none => rfl
    | some u =>
      rcases tabsH_at q with ⟨z, _⟩ | ⟨_, q'⟩
      · obtain ⟨p, hp, ep⟩ := List.mem_map.mp z
        rw [← ep, nT p hp] at e
        cases e
      · rw [(argH_is ar q').1] at e
        cases e
  -- what is neither a list, a tuple nor a table is not tracked
  have free : ∀ {b : Addr} {o : Obj}, s1.heap.get? b = some o → (∀ vs n, o.data ≠ .seq vs n) → o.data ≠ .fields #[] → tabsH cs (argH K s1.heap A) b = none := fun {b o} e h1 h2 => by
    cases q : tabsH cs (argH K s1.heap A) b with
    | none => rfl
    | some u =>
      rcases tabsH_at q with ⟨z, _⟩ | ⟨_, q'⟩
      · rw [isT b z] at e
        cases e
        exact absurd rfl h2
      · obtain ⟨_, vs, _, _, ⟨e2, _⟩ | ⟨e2, _⟩⟩ := argH_is ar q' <;>
        · rw [e2] at e
          cases e
          exact absurd rfl (h1 _ _)
  have hOnly : ∀ {b : Addr} {u : HO}, tabsH cs (argH K s1.heap A) b = some u → b ∈ cs.map (·.2) ∨ ∃ o u', u = .frz o u' := fun {b u} q => by
    rcases tabsH_at q with ⟨z, _⟩ | ⟨_, q'⟩
    · exact .inl z
    · obtain ⟨_, vs, _, _, ⟨_, e⟩ | ⟨_, e⟩⟩ := argH_is ar q'
      · exact .inr ⟨_, _, e⟩
      · exact .inr ⟨_, _, e⟩
  revert hS hTab hok nK free hOnly
  generalize tabsH cs (argH K s1.heap A) = H
  intro hS hTab hok nK free hOnly
  have under : ∀ {b : Addr} {o : Obj}, s1.heap.get? b = some o → H b = none → (hidT s1.heap H).get? b = some o := fun e n => hidT_get e n
  have nsU : ∀ {b : Addr} {m : Str → Option Value}, s1.heap.Ns b m → (hidT s1.heap H).Ns b m := fun {b m} ⟨o, es, ep, e, d, r⟩ =>
    ⟨o, es, ep, under e (free e (fun vs n z => by rw [d] at z; cases z) fun z => by rw [d] at z; cases z), d, r⟩
  have hKb : K.In (hidT s1.heap H) := fun b o e => under (KX b o e) (nK b o e)
  have hM : L2.Mod K mg (hidT s1.heap H) := ⟨hKb, nsU hns, ⟨mb, nsU hb, hbb⟩, let ⟨mc, h1, h2⟩ := hlim; ⟨mc, nsU h1, h2⟩⟩
  have TB : ∀ p ∈ cs, TabB (hidT s1.heap H) mg p.1 p.2 := fun p hp => by
    have hTp := hT p hp
    refine ⟨?_, ?_, fun z => ?_⟩
    · obtain ⟨o, us, file, tf, flags, tg, inF, text, tt, e1, r1, r2, r3, rest⟩ := hC p hp
      refine ⟨o, us, file, tf, flags, tg, inF, text, tt, under e1 (free e1 (fun vs n z => by rw [r2] at z; cases z) fun z => ?_), r1, r2, r3, rest⟩
      rw [r2] at z
      cases z
      simp at r3
    · obtain ⟨bm, ob, b1, b2, b3, b4, b5, b6⟩ := hbm
      refine ⟨bm, ob, b1, b2, fun z => ?_, fun z => ?_, under b3 (free b3 (fun vs n z => by rw [b6] at z; cases z) fun z => by rw [b6] at z; cases z), b4, b5, b6⟩
      · obtain ⟨o, es, ep, e, hd, _⟩ := hns
        rw [z, e] at b3
        cases b3
        rw [hd] at b6
        cases b6
      · rw [z, hTp] at b3
        cases b3
        cases b6
    · obtain ⟨o, es, ep, e, hd, _⟩ := hns
      rw [z, hTp] at e
      cases e
      cases hd
  have e0 : Env0 P w K mg (hidT s1.heap H) callerA [] s1 H := ⟨rfl, hM, fun b o e => of_hidT e, Nat.le_of_eq (hidT_size _ _), trivial, (fun b z => absurd (show b ∈ ([] : List Addr) from z) (by simp)), hok, .of_eq hg⟩
  have hl : vals.length = ps.length := by
    rw [wellAll_len hwl]
    exact hlen
  refine codeAny_mono ((F _ hKb (nsU hns) TB).run callerA [] s1 H ⟨vals, []⟩ vals (vals.map toV) _ _ hr e0 (hbind s1 vals hl) hV (hsp H _ hTab hS)) fun r s' x => ?_
  cases r with
  | error e => exact (show False from x).elim
  | ok fl =>
    cases fl with
    | next => exact False.elim x
    | brk => exact False.elim x
    | cont => exact False.elim x
    | ret u =>
      obtain ⟨v, H', os, bare, un, hok', r', q⟩ := x
      have kept : ∀ b o, b ∉ cs.map (·.2) → s1.heap.get? b = some o → s'.heap.get? b = some o := fun b o nb e => by
        cases q2 : H b with
        | none => exact un.keep b o e q2 (fun z => absurd (show b ∈ ([] : List Addr) from z) (by simp)) (by simp)
        | some u2 =>
          rcases hOnly q2 with z | ⟨ob, u3, rfl⟩
          · exact absurd z nb
          · obtain ⟨e1, _⟩ := hok b _ q2
            obtain ⟨e2, _⟩ := hok' b _ (un.frzs b ob _ q2)
            rw [e] at e1
            cases e1
            exact e2
      have grown : ∀ p ∈ cs, ∃ more : Array Value, s'.heap.get? p.2 = some { cls := .none, data := .fields more } := fun p hp => by
        obtain ⟨more, z⟩ := un.tbls p.2 #[] (hTab p hp)
        exact ⟨_, hok' p.2 _ z⟩
      have KX' : K.In s'.heap := fun b o e => kept b o (fun z => by
        obtain ⟨p, hp, ep⟩ := List.mem_map.mp z
        rw [← ep, nT p hp] at e
        cases e) (KX b o e)
      obtain ⟨as, hrd⟩ := Dw.reads (R := R) (cl := cl) hok' KX' d0 v u q r'
      refine ⟨u, as, rfl, hrd, ⟨fun b o e => ?_, fun b o e => ?_⟩, os, bare⟩
      · by_cases hb : b ∈ cs.map (·.2)
        · obtain ⟨p, hp, ep⟩ := List.mem_map.mp hb
          obtain ⟨more, hm⟩ := grown p hp
          rw [← ep] at e ⊢
          rw [hT p hp] at e
          cases e
          exact .inr (.inl ⟨((hC p hp).tab (hT p hp)).isCodeTable, rfl, #[], more, rfl, by rw [Array.empty_append]; exact hm⟩)
        · exact .inl (kept b o hb e)
      · by_cases hb : b ∈ cs.map (·.2)
        · obtain ⟨p, hp, ep⟩ := List.mem_map.mp hb
          obtain ⟨more, hm⟩ := grown p hp
          rw [← ep]
          exact ⟨_, hm⟩
        · exact ⟨o, kept b o hb e⟩
/-- the row; names: the defs that make lambdas -/
theorem walk_tabs {r : OpenSpec} {k : Nat} {q : Program} {loose : List Str} {XP : (Str → Option Value) → Heap → Prop} {YP : World → Heap → Prop} {d : DefRec} {K : Params → PySem.W.Frag} {ps : List Str} {sp : List (Addr × Addr) → PySem.W.Frag → Sp} (cs : List (Str × Addr × Addr))
    (hwell : r.wellSaid = true) (hdf : d.params.defaults = []) (hlen : r.args.length = ps.length) (hr : Room k callerA) (hY : ∀ (w : World) (h : Heap), YP w h → (K w.params).In h)
    (hrec : ∀ c ∈ cs, ∃ e, (recsOf q).find? (fun e => e.name == c.1) = some e) (htab : ∀ (w : World), ∀ c ∈ cs, PySem.W.tabIn (K w.params) c.1 = some c.2) (hno : ∀ w : World, PySem.W.noTabs (K w.params) = true)
    (F : ∀ (w : World) (mg : Str → Option Value) (fa : Addr) (h : Heap), YP w h → (K w.params).In h → h.Ns mainGlobals mg → mg d.name = some (.ref fa) →
      ∃ fd : FuncData, (∀ (s : Shared) (us : List Value), us.length = ps.length → BindsTo s fd ⟨us, []⟩ (ps.zip us)) ∧
        ∀ base : Heap, (K w.params).In base → base.Ns mainGlobals mg → (∀ p ∈ cs.map (·.2), TabB base mg p.1 p.2) → FnOk r.prog w (K w.params) mg base C8.CX0 k fa fd ps (sp (cs.map (·.2)) (K w.params)))
    (hsp : ∀ (K : PySem.W.Frag) (H : Hp) (xs : List V) (a : Codec.denoteAll r.args), (∀ p ∈ cs.map (·.2), H p.2 = some (.tbl #[])) → Codec.withinAll r.args a = true → Codec.app r.args r.asked a = true → DwAll K H xs (Codec.encAll r.args a) →
      sp (cs.map (·.2)) K xs H (fun v H' => Dw K H' v (r.ret.enc (Codec.app r.args r.f a))) fun _ _ _ => False) :
    PySem.W.WalkOS q loose XP YP r d [] (fun f vs => PySem.call f vs) := by
  intro w s0 s1 mg mb G Y fa o pm cd doc dV kV ho hd hcd hD hmg hg args vals as hpre hlay hrd hwl hlo
  obtain ⟨a, e1, e2⟩ := PySem.W.os_pre_some hpre
  obtain ⟨e3, hwi⟩ := Codec.encAll_of_decAll r.args args a e1
  subst e3
  have KX := hY w _ Y
  obtain ⟨fd, hb, hF⟩ := F w mg fa _ Y KX G.T.g hmg
  have facts : ∀ p ∈ cs.map (·.2), PySem.W.CodeHd s1.heap p.1 p.2 ∧ s1.heap.get? p.2 = some noTab := fun p hp => by
    obtain ⟨c, hc, rfl⟩ := List.mem_map.mp hp
    obtain ⟨e, he⟩ := hrec c hc
    exact PySem.W.tab_of G.T KX he (htab w c hc)
  have nT : ∀ p ∈ cs.map (·.2), (K w.params).lookup p.2 = none := fun p hp => by
    cases e : (K w.params).lookup p.2 with
    | none => rfl
    | some o2 =>
      have h1 := KX _ _ e
      rw [(facts p hp).2] at h1
      cases h1
      have h2 := List.all_eq_true.mp (hno w) _ (PySem.W.mem_of_lookupK e)
      exact absurd (show false = true from h2) Bool.false_ne_true
  refine PySem.W.enter_call (codeAny_mono (call_tabs (R := []) (cl := classAt s0.heap) (d0 := r.ret.enc (Codec.app r.args r.f a)) (cs.map (·.2)) KX G.T.g G.T.b G.T.builtins G.T.nolimit hg G.T.bmain (fun p hp => (facts p hp).2) nT (fun p hp => (facts p hp).1) hwl (pl_encAll _ _) (layable_weight hlay) hr hF hb (by rw [encAll_len]; exact hlen)
    (fun H xs hT hS => hsp (K w.params) H xs a hT hwi e2 hS)) fun r' s' hq => ?_)
  obtain ⟨u, as', rfl, h1, h2, h3, h4⟩ := hq
  exact ⟨.inl ⟨u, _, as', rfl, fun _ => rfl, h1, (OpenSpec.post_iff hwell hwi _ _).mpr rfl, fun z => Bool.noConfusion (show false = true from z)⟩, h2, h3, h4⟩
end Fm

/-! All defs together: from what the top has written to the promise of answers. -/
namespace Fm
open PySem PySem.Spec PyProof.Rows L2 LamX
/-- what the top has written -/
structure TopOk (K : PySem.W.Frag) (CF CT CH CR CC CO fI aS : Addr) : Prop where
  d_spelled : DefOk K "spelled" sSpelled
  d_is_letter : DefOk K "is_letter" sIsLetter
  d_is_digit : DefOk K "is_digit" sIsDigit
  d_amount : DefOk K "amount" sAmount
  d_past_remark : DefOk K "past_remark" sPastRemark
  d_past_blanks : DefOk K "past_blanks" sPastBlanks
  d_name_at : DefOk K "name_at" sNameAt
  d_number_at : DefOk K "number_at" sNumberAt
  d_token_at : DefOk K "token_at" sTokenAt
  d_tokens_of : DefOk K "tokens_of" sTokensOf
  d_refuse_too_many : DefOk K "refuse_too_many" sTooMany
  d_refuse_name_twice : DefOk K "refuse_name_twice" sTwice
  d_value_of : DefOk K "value_of" sValueOf
  d_read_value : DefOk K "read_value" sReadValue
  d_read_row : DefOk K "read_row" sReadRow
  d_read_measures : DefOk K "read_measures" sReadMeasures
  d_read_items : DefOk K "read_items" sReadItems
  d_read_list : DefOk K "read_list" sReadList
  d_line_of : DefOk K "line_of" sLineOf
  d_one_form : DefOk K "one_form" sOneForm
  d_beats : DefOk K "beats" sBeats
  d_is_unbeaten : DefOk K "is_unbeaten" sIsUnbeaten
  d_unbeaten : DefOk K "unbeaten" sUnbeaten
  d_longer_sets : DefOk K "longer_sets" sLonger
  d_sets_of : DefOk K "sets_of" sSetsOf
  d_winning_sets : DefOk K "winning_sets" sWinning
  d_is_smaller_within : DefOk K "is_smaller_within" sSmaller
  d_least_sets : DefOk K "least_sets" sLeast
  d_counted : DefOk K "counted" sCounted
  d_are_measures : DefOk K "are_measures" sAreMeasures
  d_sub : DefOk K "sub" sSub
  d_cube : DefOk K "cube" sCube
  d_least : DefOk K "least" sLeastDef
  d_sets_of_size : DefOk K "sets_of_size" sSetsSize
  d_is_within : DefOk K "is_within" sWithin
  d_candidates : DefOk K "candidates" sCandidates
  d_beaten_rows : DefOk K "beaten_rows" sBeatenRows
  d_beaten_together : DefOk K "beaten_together" sBT
  d_best_together : DefOk K "best_together" sBest
  d_next_step : DefOk K "next_step" sNext
  d_step_by_step : DefOk K "step_by_step" sStep
  d_shown : DefOk K "shown" sShown
  d_is_between : DefOk K "is_between" sBetween
  d_bounds : DefOk K "bounds" sBounds
  d_are_groups : DefOk K "are_groups" sAreGroups
  d_groups : DefOk K "groups" sGroups
  d_cover : DefOk K "cover" sCover
  d_ask : DefOk K "ask" sAsk
  d_answers : DefOk K "answers" sAnswers
  c_Token : ClsOk K "Token" CT
  m_Token_init : MethOk K CT "__init__" "Token.__init__" sTokInit
  n_Token_kind : PySem.W.findIn K (.ref CT) "kind" = some none
  n_Token_place : PySem.W.findIn K (.ref CT) "place" = some none
  n_Token_spelling : PySem.W.findIn K (.ref CT) "spelling" = some none
  c_HeldList : ClsOk K "HeldList" CH
  m_HeldList_init : MethOk K CH "__init__" "HeldList.__init__" sHeldInit
  m_HeldList_add_measure : MethOk K CH "add_measure" "HeldList.add_measure" sAddMeasure
  m_HeldList_add_item : MethOk K CH "add_item" "HeldList.add_item" sAddItem
  m_HeldList_every_measure : MethOk K CH "every_measure" "HeldList.every_measure" sEveryM
  m_HeldList_every_item : MethOk K CH "every_item" "HeldList.every_item" sEveryI
  n_HeldList_measures : PySem.W.findIn K (.ref CH) "measures" = some none
  n_HeldList_ways : PySem.W.findIn K (.ref CH) "ways" = some none
  n_HeldList_names : PySem.W.findIn K (.ref CH) "names" = some none
  n_HeldList_rows : PySem.W.findIn K (.ref CH) "rows" = some none
  n_HeldList_gains : PySem.W.findIn K (.ref CH) "gains" = some none
  c_TokenReader : ClsOk K "TokenReader" CR
  m_TokenReader_init : MethOk K CR "__init__" "TokenReader.__init__" sRdInit
  m_TokenReader_take : MethOk K CR "take" "TokenReader.take" sTake
  n_TokenReader_tokens : PySem.W.findIn K (.ref CR) "tokens" = some none
  n_TokenReader_at : PySem.W.findIn K (.ref CR) "at" = some none
  c_CallReader : ClsOk K "CallReader" CC
  m_CallReader_init : MethOk K CC "__init__" "CallReader.__init__" sCrInit
  m_CallReader_is_done : MethOk K CC "is_done" "CallReader.is_done" sIsDone
  m_CallReader_take_number : MethOk K CC "take_number" "CallReader.take_number" sTakeNumber
  m_CallReader_take_row : MethOk K CC "take_row" "CallReader.take_row" sTakeRow
  m_CallReader_take_arguments : MethOk K CC "take_arguments" "CallReader.take_arguments" sTakeArgs
  n_CallReader_calls : PySem.W.findIn K (.ref CC) "calls" = some none
  n_CallReader_at : PySem.W.findIn K (.ref CC) "at" = some none
  c_Holder : ClsOk K "Holder" CO
  m_Holder_init : MethOk K CO "__init__" "Holder.__init__" sHoInit
  m_Holder_load : MethOk K CO "load" "Holder.load" sLoad
  m_Holder_answer : MethOk K CO "answer" "Holder.answer" sAnswer
  n_Holder_held : PySem.W.findIn K (.ref CO) "held" = some none
  f_ns : PySem.W.nsIn K mainGlobals "Fault" = some (some (.ref CF))
  f_row : ∃ (nm qn : Str) (N : Addr) (bs : List Value) (sn : List Str) (sub : List Value) (ab : Bool) (col : Option Bool) (dd : Option Addr) (z0 z1 z2 z3 z5 : Option Value), K.lookup CF = some (excClassObj nm qn CF N bs PySem.ESX.exTail true sn sub ab col dd z0 z1 z2 z3 z5 "Exception.__new__")
  f_set : PySem.W.findIn K (.ref CF) "__setattr__" = some (some (.builtin "object.__setattr__"))
  f_base : PySem.W.subIn K (.ref CF) (.type "BaseException") = some true
  f_meta : PySem.W.typeIn K (.ref CF) = some (.type "type")
  f_keep : PySem.W.keepIn K (.ref CF) = true
  f_nN : PySem.W.findIn K (.ref CF) "number" = some none
  f_nP : PySem.W.findIn K (.ref CF) "place" = some none
  f_vE : PySem.W.findCls K (.type "Exception") (.type "type") "__init__" = some (.val (.builtin "Exception.__init__"))
  f_iC : PySem.W.findIn K (.ref CF) "__init__" = some (some (.ref fI))
  f_tI : PySem.W.typeIn K (.ref fI) = some (.type "function")
  f_ga : PySem.W.findIn K (.ref CF) "__getattribute__" = some (some (.builtin "BaseException.__getattribute__"))
  f_gg : PySem.W.findIn K (.ref CF) "__getattr__" = some none
  f_hd : PySem.W.hasDictIn K CF = true
  f_isC : PySem.W.isClsIn K CF = true
  f_self : PySem.W.subIn K (.ref CF) (.ref CF) = some true
  f_at : FnAt K "__init__" "Fault.__init__" sFaultInit fI
  i_ZERO : ConI K "ZERO" 48
  i_LINE_END : ConI K "LINE_END" 10
  i_REMARK : ConI K "REMARK" 35
  i_LONGEST_NAME : ConI K "LONGEST_NAME" 16
  i_GREATEST_NUMBER : ConI K "GREATEST_NUMBER" 1000000000
  i_NO_TOKEN : ConI K "NO_TOKEN" 2
  i_NOT_ALLOWED : ConI K "NOT_ALLOWED" 3
  i_TOO_MANY : ConI K "TOO_MANY" 4
  i_NAME_TWICE : ConI K "NAME_TWICE" 5
  i_TOO_GREAT : ConI K "TOO_GREAT" 7
  i_TOO_LONG : ConI K "TOO_LONG" 1
  i_GREATEST_VALUE : ConI K "GREATEST_VALUE" 1000
  i_MOST_BYTES : ConI K "MOST_BYTES" 4096
  i_MOST_MEASURES : ConI K "MOST_MEASURES" 4
  i_MOST_ITEMS : ConI K "MOST_ITEMS" 16
  i_NO_ITEM : ConI K "NO_ITEM" (-2)
  i_NO_MEASURES : ConI K "NO_MEASURES" (-3)
  i_NO_LIST : ConI K "NO_LIST" (-1)
  i_LOAD : ConI K "LOAD" 0
  i_SHOWN : ConI K "SHOWN" 1
  i_SUB : ConI K "SUB" 2
  i_CUBE : ConI K "CUBE" 3
  i_LEAST : ConI K "LEAST" 4
  i_NO_FIT : ConI K "NO_FIT" (-4)
  i_NO_SIZE : ConI K "NO_SIZE" (-5)
  i_LAST_GROUP : ConI K "LAST_GROUP" 9
  i_MOST_TOGETHER : ConI K "MOST_TOGETHER" 4
  i_BOUNDS : ConI K "BOUNDS" 5
  i_GROUPS : ConI K "GROUPS" 6
  i_COVER : ConI K "COVER" 7
  s_NAME : ConS K "NAME" (ks .name)
  s_NUMBER : ConS K "NUMBER" (ks .number)
  s_END : ConS K "END" (ks .fin)
  t_BLANKS : ConT K "BLANKS" [.int 32, .int 9, .int 10]
  t_WORDS : ConT K "WORDS" (words.map fun k => V.str (ks k))
  t_NUMBERS : ConT K "NUMBERS" (nv NUMS)
  t_ROWS : ConT K "ROWS" (nv ROWN)
  sig_ns : PySem.W.nsIn K mainGlobals "SIGNS" = some (some (.ref aS))
  sig_at : ∃ (t1 t2 t3 t4 u1 u2 u3 u4 : Tok) (n : Nat), K.lookup aS = some ⟨.type "dict", none, .dict (sigE t1 t2 t3 t4 u1 u2 u3 u4) n, #[]⟩
  sig_low : (aS == sysModules) = false
  b_len : PySem.W.nsIn K mainGlobals "len" = some none
  b_set : PySem.W.nsIn K mainGlobals "set" = some none
  b_any : PySem.W.nsIn K mainGlobals "any" = some none
  b_all : PySem.W.nsIn K mainGlobals "all" = some none
  b_range : PySem.W.nsIn K mainGlobals "range" = some none
  b_list : PySem.W.nsIn K mainGlobals "list" = some none
  b_sum : PySem.W.nsIn K mainGlobals "sum" = some none
  b_enumerate : PySem.W.nsIn K mainGlobals "enumerate" = some none
  b_zip : PySem.W.nsIn K mainGlobals "zip" = some none
  b_ord : PySem.W.nsIn K mainGlobals "ord" = some none
  b_str : PySem.W.nsIn K mainGlobals "str" = some none
  b_max : PySem.W.nsIn K mainGlobals "max" = some none
  b_sorted : PySem.W.nsIn K mainGlobals "sorted" = some none
  b_Exception : PySem.W.nsIn K mainGlobals "Exception" = some none
section
variable {P : Program} {w : World} {K : PySem.W.Frag} {h : Heap} {mg : Str → Option Value}
/-- the code object that the written part tells of a def -/
theorem code_is {x : Str} {st : Stmt} {ps : List Str} {c Pt : Addr} (X : K.In h) (G : h.Ns mainGlobals mg) (D : DefT K mg x st ps) (ht : PySem.W.tabIn K x = some (c, Pt)) : D.fd.code = .ref c := by
  obtain ⟨oc, od, kV, doc, pm, an, cdv, ct, osl, e, lk, _⟩ := D.F.ex
  exact PySem.W.law_code X G ht D.g (X _ _ lk) rfl
/-- the tables, and the names of what they tell -/
def tabsT (P1 P2 : Addr) : List (Addr × Str) := [(P1, lamName "best_together"), (P2, lamName "next_step")]
theorem tabsT_nil {P1 P2 : Addr} {H : Hp} (h1 : H P1 = some (.tbl #[])) (h2 : H P2 = some (.tbl #[])) : Tabs (tabsT P1 P2) H := fun p hp => by
  unfold tabsT at hp
  rcases List.mem_cons.mp hp with rfl | hp
  · exact TabS.nil h1
  · rw [List.mem_singleton.mp hp]
    exact TabS.nil h2
/-- all defs -/
theorem all_mk {fa CF CT CH CR CC CO fI aS c1 P1 c2 P2 : Addr} (X : K.In h) (G : h.Ns mainGlobals mg) (hfa : mg "answers" = some (.ref fa)) (ht1 : PySem.W.tabIn K "best_together" = some (c1, P1)) (ht2 : PySem.W.tabIn K "next_step" = some (c2, P2)) (hP : P1 ≠ P2) (T : TopOk K CF CT CH CR CC CO fI aS) :
    ∃ fd : FuncData, (∀ (s : Shared) (us : List Value), us.length = (["calls"] : List Str).length → BindsTo s fd ⟨us, []⟩ ((["calls"] : List Str).zip us)) ∧ ∀ base : Heap, K.In base → base.Ns mainGlobals mg → TabB base mg c1 P1 → TabB base mg c2 P2 → FnOk P w K mg base CX0 21 fa fd ["calls"] (spAnswers (tabsT P1 P2) K) := by
  obtain ⟨D_spelled⟩ := def_mk (ps := ["text"]) X G T.d_spelled (fun _ _ _ _ _ _ us hl => match us, hl with | [_], _ => rfl)
  obtain ⟨D_is_letter⟩ := def_mk (ps := ["byte"]) X G T.d_is_letter (fun _ _ _ _ _ _ us hl => match us, hl with | [_], _ => rfl)
  obtain ⟨D_is_digit⟩ := def_mk (ps := ["byte"]) X G T.d_is_digit (fun _ _ _ _ _ _ us hl => match us, hl with | [_], _ => rfl)
  obtain ⟨D_amount⟩ := def_mk (ps := ["digits"]) X G T.d_amount (fun _ _ _ _ _ _ us hl => match us, hl with | [_], _ => rfl)
  obtain ⟨D_past_remark⟩ := def_mk (ps := ["text", "at"]) X G T.d_past_remark (fun _ _ _ _ _ _ us hl => match us, hl with | [_, _], _ => rfl)
  obtain ⟨D_past_blanks⟩ := def_mk (ps := ["text", "at"]) X G T.d_past_blanks (fun _ _ _ _ _ _ us hl => match us, hl with | [_, _], _ => rfl)
  obtain ⟨D_name_at⟩ := def_mk (ps := ["text", "place"]) X G T.d_name_at (fun _ _ _ _ _ _ us hl => match us, hl with | [_, _], _ => rfl)
  obtain ⟨D_number_at⟩ := def_mk (ps := ["text", "place"]) X G T.d_number_at (fun _ _ _ _ _ _ us hl => match us, hl with | [_, _], _ => rfl)
  obtain ⟨D_token_at⟩ := def_mk (ps := ["text", "place"]) X G T.d_token_at (fun _ _ _ _ _ _ us hl => match us, hl with | [_, _], _ => rfl)
  obtain ⟨D_tokens_of⟩ := def_mk (ps := ["text"]) X G T.d_tokens_of (fun _ _ _ _ _ _ us hl => match us, hl with | [_], _ => rfl)
  obtain ⟨D_refuse_too_many⟩ := def_mk (ps := ["token", "earlier", "most"]) X G T.d_refuse_too_many (fun _ _ _ _ _ _ us hl => match us, hl with | [_, _, _], _ => rfl)
  obtain ⟨D_refuse_name_twice⟩ := def_mk (ps := ["token", "earlier"]) X G T.d_refuse_name_twice (fun _ _ _ _ _ _ us hl => match us, hl with | [_, _], _ => rfl)
  obtain ⟨D_value_of⟩ := def_mk (ps := ["token"]) X G T.d_value_of (fun _ _ _ _ _ _ us hl => match us, hl with | [_], _ => rfl)
  obtain ⟨D_read_value⟩ := def_mk (ps := ["reader"]) X G T.d_read_value (fun _ _ _ _ _ _ us hl => match us, hl with | [_], _ => rfl)
  obtain ⟨D_read_row⟩ := def_mk (ps := ["reader", "width"]) X G T.d_read_row (fun _ _ _ _ _ _ us hl => match us, hl with | [_, _], _ => rfl)
  obtain ⟨D_read_measures⟩ := def_mk (ps := ["reader", "held"]) X G T.d_read_measures (fun _ _ _ _ _ _ us hl => match us, hl with | [_, _], _ => rfl)
  obtain ⟨D_read_items⟩ := def_mk (ps := ["reader", "held"]) X G T.d_read_items (fun _ _ _ _ _ _ us hl => match us, hl with | [_, _], _ => rfl)
  obtain ⟨D_read_list⟩ := def_mk (ps := ["text"]) X G T.d_read_list (fun _ _ _ _ _ _ us hl => match us, hl with | [_], _ => rfl)
  obtain ⟨D_line_of⟩ := def_mk (ps := ["start", "parts"]) X G T.d_line_of (fun _ _ _ _ _ _ us hl => match us, hl with | [_, _], _ => rfl)
  obtain ⟨D_one_form⟩ := def_mk (ps := ["held"]) X G T.d_one_form (fun _ _ _ _ _ _ us hl => match us, hl with | [_], _ => rfl)
  obtain ⟨D_beats⟩ := def_mk (ps := ["gains", "one", "other", "chosen"]) X G T.d_beats (fun _ _ _ _ _ _ us hl => match us, hl with | [_, _, _, _], _ => rfl)
  obtain ⟨D_is_unbeaten⟩ := def_mk (ps := ["gains", "item", "among", "chosen"]) X G T.d_is_unbeaten (fun _ _ _ _ _ _ us hl => match us, hl with | [_, _, _, _], _ => rfl)
  obtain ⟨D_unbeaten⟩ := def_mk (ps := ["gains", "among", "chosen"]) X G T.d_unbeaten (fun _ _ _ _ _ _ us hl => match us, hl with | [_, _, _], _ => rfl)
  obtain ⟨D_longer_sets⟩ := def_mk (ps := ["sets", "count"]) X G T.d_longer_sets (fun _ _ _ _ _ _ us hl => match us, hl with | [_, _], _ => rfl)
  obtain ⟨D_sets_of⟩ := def_mk (ps := ["count"]) X G T.d_sets_of (fun _ _ _ _ _ _ us hl => match us, hl with | [_], _ => rfl)
  obtain ⟨D_winning_sets⟩ := def_mk (ps := ["held", "item"]) X G T.d_winning_sets (fun _ _ _ _ _ _ us hl => match us, hl with | [_, _], _ => rfl)
  obtain ⟨D_is_smaller_within⟩ := def_mk (ps := ["smaller", "larger"]) X G T.d_is_smaller_within (fun _ _ _ _ _ _ us hl => match us, hl with | [_, _], _ => rfl)
  obtain ⟨D_least_sets⟩ := def_mk (ps := ["sets"]) X G T.d_least_sets (fun _ _ _ _ _ _ us hl => match us, hl with | [_], _ => rfl)
  obtain ⟨D_counted⟩ := def_mk (ps := ["numbers"]) X G T.d_counted (fun _ _ _ _ _ _ us hl => match us, hl with | [_], _ => rfl)
  obtain ⟨D_are_measures⟩ := def_mk (ps := ["told", "count"]) X G T.d_are_measures (fun _ _ _ _ _ _ us hl => match us, hl with | [_, _], _ => rfl)
  obtain ⟨D_sub⟩ := def_mk (ps := ["held", "measures"]) X G T.d_sub (fun _ _ _ _ _ _ us hl => match us, hl with | [_, _], _ => rfl)
  obtain ⟨D_cube⟩ := def_mk (ps := ["held"]) X G T.d_cube (fun _ _ _ _ _ _ us hl => match us, hl with | [_], _ => rfl)
  obtain ⟨D_least⟩ := def_mk (ps := ["held", "item"]) X G T.d_least (fun _ _ _ _ _ _ us hl => match us, hl with | [_, _], _ => rfl)
  obtain ⟨D_sets_of_size⟩ := def_mk (ps := ["size", "count"]) X G T.d_sets_of_size (fun _ _ _ _ _ _ us hl => match us, hl with | [_, _], _ => rfl)
  obtain ⟨D_is_within⟩ := def_mk (ps := ["inner", "outer"]) X G T.d_is_within (fun _ _ _ _ _ _ us hl => match us, hl with | [_, _], _ => rfl)
  obtain ⟨D_candidates⟩ := def_mk (ps := ["held", "chosen"]) X G T.d_candidates (fun _ _ _ _ _ _ us hl => match us, hl with | [_, _], _ => rfl)
  obtain ⟨D_beaten_rows⟩ := def_mk (ps := ["held"]) X G T.d_beaten_rows (fun _ _ _ _ _ _ us hl => match us, hl with | [_], _ => rfl)
  obtain ⟨D_beaten_together⟩ := def_mk (ps := ["beaten", "some"]) X G T.d_beaten_together (fun _ _ _ _ _ _ us hl => match us, hl with | [_, _], _ => rfl)
  obtain ⟨D_best_together⟩ := def_mk (ps := ["beaten", "size"]) X G T.d_best_together (fun _ _ _ _ _ _ us hl => match us, hl with | [_, _], _ => rfl)
  obtain ⟨D_next_step⟩ := def_mk (ps := ["beaten", "taken"]) X G T.d_next_step (fun _ _ _ _ _ _ us hl => match us, hl with | [_, _], _ => rfl)
  obtain ⟨D_step_by_step⟩ := def_mk (ps := ["beaten", "size"]) X G T.d_step_by_step (fun _ _ _ _ _ _ us hl => match us, hl with | [_, _], _ => rfl)
  obtain ⟨D_shown⟩ := def_mk (ps := ["held"]) X G T.d_shown (fun _ _ _ _ _ _ us hl => match us, hl with | [_], _ => rfl)
  obtain ⟨D_is_between⟩ := def_mk (ps := ["row", "low", "high"]) X G T.d_is_between (fun _ _ _ _ _ _ us hl => match us, hl with | [_, _, _], _ => rfl)
  obtain ⟨D_bounds⟩ := def_mk (ps := ["held", "low", "high"]) X G T.d_bounds (fun _ _ _ _ _ _ us hl => match us, hl with | [_, _, _], _ => rfl)
  obtain ⟨D_are_groups⟩ := def_mk (ps := ["told", "count"]) X G T.d_are_groups (fun _ _ _ _ _ _ us hl => match us, hl with | [_, _], _ => rfl)
  obtain ⟨D_groups⟩ := def_mk (ps := ["held", "group_of"]) X G T.d_groups (fun _ _ _ _ _ _ us hl => match us, hl with | [_, _], _ => rfl)
  obtain ⟨D_cover⟩ := def_mk (ps := ["held", "size"]) X G T.d_cover (fun _ _ _ _ _ _ us hl => match us, hl with | [_, _], _ => rfl)
  obtain ⟨D_ask⟩ := def_mk (ps := ["held", "measures"]) X G T.d_ask (fun _ _ _ _ _ _ us hl => match us, hl with | [_, _], _ => rfl)
  obtain ⟨C_Token, e_Token⟩ := cls_mk (ps := ["self", "kind", "place", "spelling"]) X G T.c_Token T.m_Token_init (fun _ _ _ _ _ _ us hl => match us, hl with | [_, _, _, _], _ => rfl)
  obtain ⟨C_HeldList, e_HeldList⟩ := cls_mk (ps := ["self"]) X G T.c_HeldList T.m_HeldList_init (fun _ _ _ _ _ _ us hl => match us, hl with | [_], _ => rfl)
  obtain ⟨M_HeldList_add_measure⟩ := meth_mk (ps := ["self", "name", "way"]) T.m_HeldList_add_measure (fun _ _ _ _ _ _ us hl => match us, hl with | [_, _, _], _ => rfl)
  obtain ⟨M_HeldList_add_item⟩ := meth_mk (ps := ["self", "name", "row"]) T.m_HeldList_add_item (fun _ _ _ _ _ _ us hl => match us, hl with | [_, _, _], _ => rfl)
  obtain ⟨M_HeldList_every_measure⟩ := meth_mk (ps := ["self"]) T.m_HeldList_every_measure (fun _ _ _ _ _ _ us hl => match us, hl with | [_], _ => rfl)
  obtain ⟨M_HeldList_every_item⟩ := meth_mk (ps := ["self"]) T.m_HeldList_every_item (fun _ _ _ _ _ _ us hl => match us, hl with | [_], _ => rfl)
  obtain ⟨C_TokenReader, e_TokenReader⟩ := cls_mk (ps := ["self", "tokens"]) X G T.c_TokenReader T.m_TokenReader_init (fun _ _ _ _ _ _ us hl => match us, hl with | [_, _], _ => rfl)
  obtain ⟨M_TokenReader_take⟩ := meth_mk (ps := ["self", "kinds"]) T.m_TokenReader_take (fun _ _ _ _ _ _ us hl => match us, hl with | [_, _], _ => rfl)
  obtain ⟨C_CallReader, e_CallReader⟩ := cls_mk (ps := ["self", "calls"]) X G T.c_CallReader T.m_CallReader_init (fun _ _ _ _ _ _ us hl => match us, hl with | [_, _], _ => rfl)
  obtain ⟨M_CallReader_is_done⟩ := meth_mk (ps := ["self"]) T.m_CallReader_is_done (fun _ _ _ _ _ _ us hl => match us, hl with | [_], _ => rfl)
  obtain ⟨M_CallReader_take_number⟩ := meth_mk (ps := ["self"]) T.m_CallReader_take_number (fun _ _ _ _ _ _ us hl => match us, hl with | [_], _ => rfl)
  obtain ⟨M_CallReader_take_row⟩ := meth_mk (ps := ["self"]) T.m_CallReader_take_row (fun _ _ _ _ _ _ us hl => match us, hl with | [_], _ => rfl)
  obtain ⟨M_CallReader_take_arguments⟩ := meth_mk (ps := ["self", "call"]) T.m_CallReader_take_arguments (fun _ _ _ _ _ _ us hl => match us, hl with | [_, _], _ => rfl)
  obtain ⟨C_Holder, e_Holder⟩ := cls_mk (ps := ["self"]) X G T.c_Holder T.m_Holder_init (fun _ _ _ _ _ _ us hl => match us, hl with | [_], _ => rfl)
  obtain ⟨M_Holder_load⟩ := meth_mk (ps := ["self", "text"]) T.m_Holder_load (fun _ _ _ _ _ _ us hl => match us, hl with | [_, _], _ => rfl)
  obtain ⟨M_Holder_answer⟩ := meth_mk (ps := ["self", "call", "arguments"]) T.m_Holder_answer (fun _ _ _ _ _ _ us hl => match us, hl with | [_, _, _], _ => rfl)
  subst e_Token
  subst e_HeldList
  subst e_TokenReader
  subst e_CallReader
  subst e_Holder
  have z_len : mg "len" = none := PySem.W.mg_none_of X G T.b_len
  have z_set : mg "set" = none := PySem.W.mg_none_of X G T.b_set
  have z_any : mg "any" = none := PySem.W.mg_none_of X G T.b_any
  have z_all : mg "all" = none := PySem.W.mg_none_of X G T.b_all
  have z_range : mg "range" = none := PySem.W.mg_none_of X G T.b_range
  have z_list : mg "list" = none := PySem.W.mg_none_of X G T.b_list
  have z_sum : mg "sum" = none := PySem.W.mg_none_of X G T.b_sum
  have z_enumerate : mg "enumerate" = none := PySem.W.mg_none_of X G T.b_enumerate
  have z_zip : mg "zip" = none := PySem.W.mg_none_of X G T.b_zip
  have z_ord : mg "ord" = none := PySem.W.mg_none_of X G T.b_ord
  have z_str : mg "str" = none := PySem.W.mg_none_of X G T.b_str
  have z_max : mg "max" = none := PySem.W.mg_none_of X G T.b_max
  have z_sorted : mg "sorted" = none := PySem.W.mg_none_of X G T.b_sorted
  have z_Exception : mg "Exception" = none := PySem.W.mg_none_of X G T.b_Exception
  have g_ZERO := gi_mk X G T.i_ZERO
  have g_LINE_END := gi_mk X G T.i_LINE_END
  have g_REMARK := gi_mk X G T.i_REMARK
  have g_LONGEST_NAME := gi_mk X G T.i_LONGEST_NAME
  have g_GREATEST_NUMBER := gi_mk X G T.i_GREATEST_NUMBER
  have g_NO_TOKEN := gi_mk X G T.i_NO_TOKEN
  have g_NOT_ALLOWED := gi_mk X G T.i_NOT_ALLOWED
  have g_TOO_MANY := gi_mk X G T.i_TOO_MANY
  have g_NAME_TWICE := gi_mk X G T.i_NAME_TWICE
  have g_TOO_GREAT := gi_mk X G T.i_TOO_GREAT
  have g_TOO_LONG := gi_mk X G T.i_TOO_LONG
  have g_GREATEST_VALUE := gi_mk X G T.i_GREATEST_VALUE
  have g_MOST_BYTES := gi_mk X G T.i_MOST_BYTES
  have g_MOST_MEASURES := gi_mk X G T.i_MOST_MEASURES
  have g_MOST_ITEMS := gi_mk X G T.i_MOST_ITEMS
  have g_NO_ITEM := gi_mk X G T.i_NO_ITEM
  have g_NO_MEASURES := gi_mk X G T.i_NO_MEASURES
  have g_NO_LIST := gi_mk X G T.i_NO_LIST
  have g_LOAD := gi_mk X G T.i_LOAD
  have g_SHOWN := gi_mk X G T.i_SHOWN
  have g_SUB := gi_mk X G T.i_SUB
  have g_CUBE := gi_mk X G T.i_CUBE
  have g_LEAST := gi_mk X G T.i_LEAST
  have g_NO_FIT := gi_mk X G T.i_NO_FIT
  have g_NO_SIZE := gi_mk X G T.i_NO_SIZE
  have g_LAST_GROUP := gi_mk X G T.i_LAST_GROUP
  have g_MOST_TOGETHER := gi_mk X G T.i_MOST_TOGETHER
  have g_BOUNDS := gi_mk X G T.i_BOUNDS
  have g_GROUPS := gi_mk X G T.i_GROUPS
  have g_COVER := gi_mk X G T.i_COVER
  have g_NAME := gs_mk X G T.s_NAME
  have g_NUMBER := gs_mk X G T.s_NUMBER
  have g_END := gs_mk X G T.s_END
  have g_BLANKS := gt_mk X G T.t_BLANKS
  have g_WORDS := gt_mk X G T.t_WORDS
  have g_NUMBERS := gt_mk X G T.t_NUMBERS
  have g_ROWS := gt_mk X G T.t_ROWS
  have N_tok : TokT K C_Token.C := ⟨T.n_Token_kind, T.n_Token_place, T.n_Token_spelling⟩
  have N_held : HeldT K C_HeldList.C := ⟨T.n_HeldList_measures, T.n_HeldList_ways, T.n_HeldList_names, T.n_HeldList_rows, T.n_HeldList_gains⟩
  have N_rd : RdT K C_TokenReader.C := ⟨T.n_TokenReader_tokens, T.n_TokenReader_at⟩
  have N_cr : CrT K C_CallReader.C := ⟨T.n_CallReader_calls, T.n_CallReader_at⟩
  have N_ho : HoT K C_Holder.C := ⟨T.n_Holder_held⟩
  obtain ⟨fdI, F_I, b_I⟩ := fn_mk (ps := ["self", "number", "place"]) T.f_at (fun _ _ _ _ _ _ us hl => match us, hl with | [_, _, _], _ => rfl)
  have TF : FaultT K mg CF fI := ⟨⟨T.f_row, T.f_set, T.f_base, T.f_meta, T.f_keep⟩, T.f_nN, T.f_nP, z_Exception, T.f_vE, PySem.W.mg_of X G T.f_ns, T.f_iC, T.f_tI⟩
  let FT : FltT K mg := ⟨CF, fI, fdI, TF, F_I, b_I⟩
  have te : PySem.W.exmOne K (.ref FT.C) (.ref FT.C) = some true := exm_own T.f_base T.f_isC T.f_meta T.f_self
  have xf : XfC K FT.C := ⟨T.f_ga, T.f_gg, T.f_base, T.f_hd⟩
  obtain ⟨t1, t2, t3, t4, u1, u2, u3, u4, n, hsig⟩ := T.sig_at
  have SR : SignsR P w K aS := signsR hsig T.sig_low
  obtain ⟨f, a, at_⟩ := T.d_answers
  have e := hfa.symm.trans (PySem.W.mg_of X G a)
  cases e
  obtain ⟨oc, od, kV, doc, pm, an, cdv, ct, osl, l, c, k⟩ := at_
  have FA := fun_mk (st := sAnswers) l c k
  refine ⟨PySem.W.fnOf "answers" "answers" (defArgs sAnswers) (defBody sAnswers) (defScope sAnswers) .none kV doc pm an cdv ct, fun s us hu => match us, hu with | [_], _ => .of_eq rfl, fun base _ _ TB1 TB2 => ?_⟩
  have GTA : FnOk P w K mg base CX0 3 M_CallReader_take_arguments.f M_CallReader_take_arguments.fd ["self", "call"] (spTakeArgs K C_CallReader.C) := ok_takeArgs M_CallReader_take_arguments C_CallReader.cl N_cr M_CallReader_take_number M_CallReader_take_row g_NUMBERS g_ROWS z_range
  have G_blanks := ok_blanks (P := P) (w := w) (base := base) D_past_blanks.F g_REMARK g_BLANKS z_len (ok_remark D_past_remark.F g_LINE_END z_len) D_past_remark.g D_past_remark.F.kp D_past_remark.b
  have G_name := ok_nameAt (P := P) (w := w) (base := base) D_name_at C_Token N_tok D_is_letter D_is_digit D_spelled TF F_I b_I z_len z_ord g_WORDS g_NAME g_LONGEST_NAME g_NO_TOKEN
  have G_number := ok_numberAt (P := P) (w := w) (base := base) D_number_at C_Token N_tok D_is_digit D_amount TF F_I b_I z_len g_ZERO g_NUMBER g_GREATEST_NUMBER g_NO_TOKEN
  have G_token := ok_tokenAt D_token_at C_Token N_tok D_is_letter D_is_digit D_name_at D_number_at G_name G_number TF F_I b_I (PySem.W.mg_of X G T.sig_ns) SR g_NO_TOKEN
  have G_tokens := ok_tokensOf D_tokens_of C_Token N_tok D_past_blanks D_token_at G_blanks G_token z_len g_END
  have G_take := ok_take (P := P) (w := w) (base := base) M_TokenReader_take C_TokenReader.cl N_rd C_Token N_tok FT g_NOT_ALLOWED
  have G_many := ok_tooMany (P := P) (w := w) (base := base) D_refuse_too_many C_Token N_tok FT z_len g_TOO_MANY
  have G_twice := ok_twice (P := P) (w := w) (base := base) D_refuse_name_twice C_Token N_tok FT g_NAME_TWICE
  have G_valueOf := ok_valueOf (P := P) (w := w) (base := base) D_value_of C_Token N_tok FT D_amount g_ZERO g_GREATEST_VALUE g_TOO_GREAT
  have G_readValue := ok_readValue D_read_value M_TokenReader_take C_TokenReader.cl C_Token N_tok G_take D_value_of G_valueOf g_NUMBER
  have G_readRow := ok_readRow D_read_row M_TokenReader_take C_TokenReader.cl C_Token N_tok G_take D_read_value G_readValue z_len
  have G_readMeasures := ok_readMeasures D_read_measures M_TokenReader_take C_TokenReader.cl C_Token N_tok G_take D_refuse_too_many G_many D_refuse_name_twice G_twice M_HeldList_add_measure C_HeldList.cl N_held g_NAME g_MOST_MEASURES
  have G_readItems := ok_readItems D_read_items M_TokenReader_take C_TokenReader.cl C_Token N_tok G_take D_refuse_too_many G_many D_refuse_name_twice G_twice D_read_row G_readRow M_HeldList_add_item C_HeldList.cl N_held g_NAME g_END g_MOST_ITEMS z_len z_zip
  have G_readList := ok_readList D_read_list C_Token C_TokenReader N_rd C_HeldList N_held FT D_tokens_of G_tokens D_read_measures G_readMeasures D_read_items G_readItems z_len g_MOST_BYTES g_TOO_LONG
  have G_load := ok_load M_Holder_load C_Holder.cl N_ho C_HeldList.cl N_held FT xf te D_read_list G_readList z_len
  have G_form := ok_oneForm (P := P) (w := w) (base := base) D_one_form C_HeldList.cl N_held D_spelled D_line_of z_ord z_zip z_str
  have G_sets := ok_setsOf (P := P) (w := w) (base := base) D_sets_of D_sets_of_size D_longer_sets z_range
  have G_win := ok_winning (P := P) (w := w) (base := base) D_winning_sets C_HeldList.cl N_held M_HeldList_every_item D_sets_of D_sets_of_size D_longer_sets D_is_unbeaten D_beats z_len z_range z_list z_any
  have G_least := ok_least (P := P) (w := w) (base := base) D_least_sets D_is_smaller_within D_is_within z_len z_all z_any
  have G_sub := ok_sub (P := P) (w := w) (base := base) D_sub C_HeldList.cl N_held M_HeldList_every_item D_are_measures D_counted D_unbeaten D_is_unbeaten D_beats z_len z_set z_any z_range z_list g_NO_MEASURES
  have G_cube := ok_cube D_cube C_HeldList.cl N_held M_HeldList_every_item D_sets_of G_sets D_winning_sets G_win D_least_sets G_least D_counted z_len z_range z_list z_sum z_enumerate
  have G_leastDef := ok_leastDef D_least C_HeldList.cl N_held D_winning_sets G_win D_least_sets G_least D_counted z_len g_NO_ITEM
  have G_cand := ok_cand D_candidates C_HeldList.cl N_held M_HeldList_every_item D_winning_sets G_win D_least_sets G_least D_is_within z_len z_range z_list z_all z_any z_enumerate
  have G_ask := ok_ask D_ask C_HeldList.cl N_held D_candidates G_cand D_are_measures D_counted D_unbeaten D_is_unbeaten D_beats z_len z_set z_any g_NO_MEASURES
  have G_bounds := ok_bounds (P := P) (w := w) (base := base) D_bounds C_HeldList.cl N_held M_HeldList_every_measure D_is_between D_counted D_unbeaten D_is_unbeaten D_beats z_len z_range z_list z_any z_all z_zip z_enumerate g_NO_FIT
  have G_groups := ok_groups (P := P) (w := w) (base := base) D_groups C_HeldList.cl N_held M_HeldList_every_measure D_are_groups D_counted D_unbeaten D_is_unbeaten D_beats z_len z_range z_list z_any z_all z_set z_sorted z_enumerate g_NO_FIT g_LAST_GROUP
  have G_rows := ok_beatenRows (P := P) (w := w) (base := base) D_beaten_rows C_HeldList.cl N_held M_HeldList_every_item M_HeldList_every_measure D_beats z_len z_range z_list z_any
  have hT1 : ∀ p ∈ tabsT P1 P2, p.1 = P1 → p.2 = lamName "best_together" := fun p hp e => by
    unfold tabsT at hp
    rcases List.mem_cons.mp hp with rfl | hp
    · rfl
    · rw [List.mem_singleton.mp hp] at e
      exact absurd e.symm hP
  have hT2 : ∀ p ∈ tabsT P1 P2, p.1 = P2 → p.2 = lamName "next_step" := fun p hp e => by
    unfold tabsT at hp
    rcases List.mem_cons.mp hp with rfl | hp
    · exact absurd e hP
    · rw [List.mem_singleton.mp hp]
  have G_best := ok_best (P := P) (w := w) (T := tabsT P1 P2) D_best_together (code_is X G D_best_together ht1) TB1 (List.mem_cons_self ..) hT1 D_sets_of_size D_longer_sets D_beaten_together z_len z_set z_range z_max
  have G_next := ok_next (P := P) (w := w) (T := tabsT P1 P2) D_next_step (code_is X G D_next_step ht2) TB2 (List.mem_cons_of_mem _ (List.mem_cons_self ..)) hT2 D_beaten_together z_len z_set z_range z_max
  have G_step := ok_step D_step_by_step D_next_step G_next z_range
  have G_cover := ok_cover D_cover C_HeldList.cl N_held D_beaten_rows G_rows D_best_together G_best D_step_by_step G_step D_beaten_together z_len z_set g_MOST_TOGETHER g_NO_SIZE
  have G_shown := ok_shown D_shown D_counted D_one_form G_form z_len
  have G_answer := ok_answer M_Holder_answer C_Holder.cl N_ho M_Holder_load G_load D_shown G_shown D_sub G_sub D_cube G_cube D_least G_leastDef D_bounds G_bounds D_groups G_groups D_cover G_cover D_ask G_ask g_LOAD g_NO_LIST g_SHOWN g_SUB g_CUBE g_LEAST g_BOUNDS g_GROUPS g_COVER
  exact ok_answers ⟨_, _, FA, FA.binds (fun _ _ _ _ _ _ us hl => match us, hl with | [_], _ => rfl), PySem.W.mg_of X G a⟩ C_CallReader N_cr M_CallReader_is_done M_CallReader_take_number M_CallReader_take_arguments GTA C_Holder N_ho M_Holder_answer G_answer D_counted z_len
/-- the same, as the row wants it -/
theorem all_mk2 {fa CF CT CH CR CC CO fI aS c1 P1 c2 P2 : Addr} (X : K.In h) (G : h.Ns mainGlobals mg) (hfa : mg "answers" = some (.ref fa)) (ht1 : PySem.W.tabIn K "best_together" = some (c1, P1)) (ht2 : PySem.W.tabIn K "next_step" = some (c2, P2)) (hP : P1 ≠ P2) (T : TopOk K CF CT CH CR CC CO fI aS) :
    ∃ fd : FuncData, (∀ (s : Shared) (us : List Value), us.length = (["calls"] : List Str).length → BindsTo s fd ⟨us, []⟩ ((["calls"] : List Str).zip us)) ∧ ∀ base : Heap, K.In base → base.Ns mainGlobals mg → (∀ p ∈ ([(c1, P1), (c2, P2)] : List (Addr × Addr)), TabB base mg p.1 p.2) → FnOk P w K mg base C8.CX0 21 fa fd ["calls"] (spAnswers (tabsT P1 P2) K) := by
  obtain ⟨fd, h1, h2⟩ := all_mk (P := P) (w := w) X G hfa ht1 ht2 hP T
  exact ⟨fd, h1, fun base a b hT => h2 base a b (hT (c1, P1) (List.mem_cons_self ..)) (hT (c2, P2) (List.mem_cons_of_mem _ (List.mem_cons_self ..)))⟩
end
end Fm

open PySem PySem.W PyProof.Rows
set_option maxRecDepth 100000 in
set_option maxHeartbeats 40000000 in
theorem PySem.Challenge.cw_fewmeasures_s01_answers_holds : PySem.Challenge.rw_fewmeasures_s01_answers.Holds := by
  w_on; k_headS; (case hw => exact ⟨[.list [.int 3]], by decide +kernel, by decide +kernel⟩)
  k_fillS
  refine Fm.walk_tabs (r := PySem.Challenge.rw_fewmeasures_s01_answers) (k := 21) (ps := ["calls"]) (sp := fun _ K => Fm.spAnswers (Fm.tabsT 344 351) K) [("best_together", 348, 344), ("next_step", 353, 351)] (by decide +kernel) rfl rfl ⟨rfl, by decide, by decide⟩ (fun w h Y => PySem.W.kIn_of Y) ?hrec ?htab ?hno ?F ?S
  case hrec =>
    intro c hc
    rcases List.mem_cons.mp hc with rfl | hc
    · exact ⟨_, rfl⟩
    · rcases List.mem_cons.mp hc with rfl | hc
      · exact ⟨_, rfl⟩
      · exact absurd hc List.not_mem_nil
  case htab =>
    intro w c hc
    rcases List.mem_cons.mp hc with rfl | hc
    · kernel_rfl
    · rcases List.mem_cons.mp hc with rfl | hc
      · kernel_rfl
      · exact absurd hc List.not_mem_nil
  case hno =>
    intro w
    kernel_rfl
  case F =>
    intro w mg fa h Y KX G hmg
    refine' Fm.all_mk2 (c1 := 348) (P1 := 344) (c2 := 353) (P2 := 351) KX G hmg ?t1 ?t2 (by decide) ?T
    case t1 => kernel_rfl
    case t2 => kernel_rfl
    case T =>
      refine' {d_spelled := ?d_spelled, d_is_letter := ?d_is_letter, d_is_digit := ?d_is_digit, d_amount := ?d_amount, d_past_remark := ?d_past_remark, d_past_blanks := ?d_past_blanks, d_name_at := ?d_name_at, d_number_at := ?d_number_at, d_token_at := ?d_token_at, d_tokens_of := ?d_tokens_of, d_refuse_too_many := ?d_refuse_too_many, d_refuse_name_twice := ?d_refuse_name_twice, d_value_of := ?d_value_of, d_read_value := ?d_read_value, d_read_row := ?d_read_row, d_read_measures := ?d_read_measures, d_read_items := ?d_read_items, d_read_list := ?d_read_list, d_line_of := ?d_line_of, d_one_form := ?d_one_form, d_beats := ?d_beats, d_is_unbeaten := ?d_is_unbeaten, d_unbeaten := ?d_unbeaten, d_longer_sets := ?d_longer_sets, d_sets_of := ?d_sets_of, d_winning_sets := ?d_winning_sets, d_is_smaller_within := ?d_is_smaller_within, d_least_sets := ?d_least_sets, d_counted := ?d_counted, d_are_measures := ?d_are_measures, d_sub := ?d_sub, d_cube := ?d_cube, d_least := ?d_least, d_answers := ?d_answers, c_Token := ?c_Token, m_Token_init := ?m_Token_init, n_Token_kind := ?n_Token_kind, n_Token_place := ?n_Token_place, n_Token_spelling := ?n_Token_spelling, c_HeldList := ?c_HeldList, m_HeldList_init := ?m_HeldList_init, m_HeldList_add_measure := ?m_HeldList_add_measure, m_HeldList_add_item := ?m_HeldList_add_item, n_HeldList_measures := ?n_HeldList_measures, n_HeldList_ways := ?n_HeldList_ways, n_HeldList_names := ?n_HeldList_names, n_HeldList_rows := ?n_HeldList_rows, n_HeldList_gains := ?n_HeldList_gains, c_TokenReader := ?c_TokenReader, m_TokenReader_init := ?m_TokenReader_init, m_TokenReader_take := ?m_TokenReader_take, n_TokenReader_tokens := ?n_TokenReader_tokens, n_TokenReader_at := ?n_TokenReader_at, c_CallReader := ?c_CallReader, m_CallReader_init := ?m_CallReader_init, m_CallReader_is_done := ?m_CallReader_is_done, m_CallReader_take_number := ?m_CallReader_take_number, m_CallReader_take_row := ?m_CallReader_take_row, m_CallReader_take_arguments := ?m_CallReader_take_arguments, n_CallReader_calls := ?n_CallReader_calls, n_CallReader_at := ?n_CallReader_at, c_Holder := ?c_Holder, m_Holder_init := ?m_Holder_init, m_Holder_load := ?m_Holder_load, m_Holder_answer := ?m_Holder_answer, n_Holder_held := ?n_Holder_held, f_ns := ?f_ns, f_row := ?f_row, f_set := ?f_set, f_base := ?f_base, f_meta := ?f_meta, f_keep := ?f_keep, f_nN := ?f_nN, f_nP := ?f_nP, f_vE := ?f_vE, f_iC := ?f_iC, f_tI := ?f_tI, f_ga := ?f_ga, f_gg := ?f_gg, f_hd := ?f_hd, f_isC := ?f_isC, f_self := ?f_self, f_at := ?f_at, i_ZERO := ?i_ZERO, i_LINE_END := ?i_LINE_END, i_REMARK := ?i_REMARK, i_LONGEST_NAME := ?i_LONGEST_NAME, i_GREATEST_NUMBER := ?i_GREATEST_NUMBER, i_NO_TOKEN := ?i_NO_TOKEN, i_NOT_ALLOWED := ?i_NOT_ALLOWED, i_TOO_MANY := ?i_TOO_MANY, i_NAME_TWICE := ?i_NAME_TWICE, i_TOO_GREAT := ?i_TOO_GREAT, i_TOO_LONG := ?i_TOO_LONG, i_GREATEST_VALUE := ?i_GREATEST_VALUE, i_MOST_BYTES := ?i_MOST_BYTES, i_MOST_MEASURES := ?i_MOST_MEASURES, i_MOST_ITEMS := ?i_MOST_ITEMS, i_NO_ITEM := ?i_NO_ITEM, i_NO_MEASURES := ?i_NO_MEASURES, i_NO_LIST := ?i_NO_LIST, i_LOAD := ?i_LOAD, i_SHOWN := ?i_SHOWN, i_SUB := ?i_SUB, i_CUBE := ?i_CUBE, i_LEAST := ?i_LEAST, s_NAME := ?s_NAME, s_NUMBER := ?s_NUMBER, s_END := ?s_END, t_BLANKS := ?t_BLANKS, t_WORDS := ?t_WORDS, t_NUMBERS := ?t_NUMBERS, t_ROWS := ?t_ROWS, sig_ns := ?sig_ns, sig_at := ?sig_at, sig_low := ?sig_low, b_len := ?b_len, b_set := ?b_set, b_any := ?b_any, b_all := ?b_all, b_range := ?b_range, b_list := ?b_list, b_sum := ?b_sum, b_enumerate := ?b_enumerate, b_zip := ?b_zip, b_ord := ?b_ord, b_str := ?b_str, b_Exception := ?b_Exception, d_sets_of_size := ?d_sets_of_size, d_is_within := ?d_is_within, d_candidates := ?d_candidates, d_beaten_rows := ?d_beaten_rows, d_beaten_together := ?d_beaten_together, d_best_together := ?d_best_together, d_next_step := ?d_next_step, d_step_by_step := ?d_step_by_step, d_shown := ?d_shown, d_is_between := ?d_is_between, d_bounds := ?d_bounds, d_are_groups := ?d_are_groups, d_groups := ?d_groups, d_cover := ?d_cover, d_ask := ?d_ask, m_HeldList_every_measure := ?m_HeldList_every_measure, m_HeldList_every_item := ?m_HeldList_every_item, i_NO_FIT := ?i_NO_FIT, i_NO_SIZE := ?i_NO_SIZE, i_LAST_GROUP := ?i_LAST_GROUP, i_MOST_TOGETHER := ?i_MOST_TOGETHER, i_BOUNDS := ?i_BOUNDS, i_GROUPS := ?i_GROUPS, i_COVER := ?i_COVER, b_max := ?b_max, b_sorted := ?b_sorted }
      (case d_spelled => refine' Fm.def_in ?a ?l ?c ?k; (case a => k_is); (case l => k_is); (case c => k_is); (case k => k_is))
      (case d_is_letter => refine' Fm.def_in ?a ?l ?c ?k; (case a => k_is); (case l => k_is); (case c => k_is); (case k => k_is))
      (case d_is_digit => refine' Fm.def_in ?a ?l ?c ?k; (case a => k_is); (case l => k_is); (case c => k_is); (case k => k_is))
      (case d_amount => refine' Fm.def_in ?a ?l ?c ?k; (case a => k_is); (case l => k_is); (case c => k_is); (case k => k_is))
      (case d_past_remark => refine' Fm.def_in ?a ?l ?c ?k; (case a => k_is); (case l => k_is); (case c => k_is); (case k => k_is))
      (case d_past_blanks => refine' Fm.def_in ?a ?l ?c ?k; (case a => k_is); (case l => k_is); (case c => k_is); (case k => k_is))
      (case d_name_at => refine' Fm.def_in ?a ?l ?c ?k; (case a => k_is); (case l => k_is); (case c => k_is); (case k => k_is))
      (case d_number_at => refine' Fm.def_in ?a ?l ?c ?k; (case a => k_is); (case l => k_is); (case c => k_is); (case k => k_is))
      (case d_token_at => refine' Fm.def_in ?a ?l ?c ?k; (case a => k_is); (case l => k_is); (case c => k_is); (case k => k_is))
      (case d_tokens_of => refine' Fm.def_in ?a ?l ?c ?k; (case a => k_is); (case l => k_is); (case c => k_is); (case k => k_is))
      (case d_refuse_too_many => refine' Fm.def_in ?a ?l ?c ?k; (case a => k_is); (case l => k_is); (case c => k_is); (case k => k_is))
      (case d_refuse_name_twice => refine' Fm.def_in ?a ?l ?c ?k; (case a => k_is); (case l => k_is); (case c => k_is); (case k => k_is))
      (case d_value_of => refine' Fm.def_in ?a ?l ?c ?k; (case a => k_is); (case l => k_is); (case c => k_is); (case k => k_is))
      (case d_read_value => refine' Fm.def_in ?a ?l ?c ?k; (case a => k_is); (case l => k_is); (case c => k_is); (case k => k_is))
      (case d_read_row => refine' Fm.def_in ?a ?l ?c ?k; (case a => k_is); (case l => k_is); (case c => k_is); (case k => k_is))
      (case d_read_measures => refine' Fm.def_in ?a ?l ?c ?k; (case a => k_is); (case l => k_is); (case c => k_is); (case k => k_is))
      (case d_read_items => refine' Fm.def_in ?a ?l ?c ?k; (case a => k_is); (case l => k_is); (case c => k_is); (case k => k_is))
      (case d_read_list => refine' Fm.def_in ?a ?l ?c ?k; (case a => k_is); (case l => k_is); (case c => k_is); (case k => k_is))
      (case d_line_of => refine' Fm.def_in ?a ?l ?c ?k; (case a => k_is); (case l => k_is); (case c => k_is); (case k => k_is))
      (case d_one_form => refine' Fm.def_in ?a ?l ?c ?k; (case a => k_is); (case l => k_is); (case c => k_is); (case k => k_is))
      (case d_beats => refine' Fm.def_in ?a ?l ?c ?k; (case a => k_is); (case l => k_is); (case c => k_is); (case k => k_is))
      (case d_is_unbeaten => refine' Fm.def_in ?a ?l ?c ?k; (case a => k_is); (case l => k_is); (case c => k_is); (case k => k_is))
      (case d_unbeaten => refine' Fm.def_in ?a ?l ?c ?k; (case a => k_is); (case l => k_is); (case c => k_is); (case k => k_is))
      (case d_longer_sets => refine' Fm.def_in ?a ?l ?c ?k; (case a => k_is); (case l => k_is); (case c => k_is); (case k => k_is))
      (case d_sets_of => refine' Fm.def_in ?a ?l ?c ?k; (case a => k_is); (case l => k_is); (case c => k_is); (case k => k_is))
      (case d_winning_sets => refine' Fm.def_in ?a ?l ?c ?k; (case a => k_is); (case l => k_is); (case c => k_is); (case k => k_is))
      (case d_is_smaller_within => refine' Fm.def_in ?a ?l ?c ?k; (case a => k_is); (case l => k_is); (case c => k_is); (case k => k_is))
      (case d_least_sets => refine' Fm.def_in ?a ?l ?c ?k; (case a => k_is); (case l => k_is); (case c => k_is); (case k => k_is))
      (case d_counted => refine' Fm.def_in ?a ?l ?c ?k; (case a => k_is); (case l => k_is); (case c => k_is); (case k => k_is))
      (case d_are_measures => refine' Fm.def_in ?a ?l ?c ?k; (case a => k_is); (case l => k_is); (case c => k_is); (case k => k_is))
      (case d_sub => refine' Fm.def_in ?a ?l ?c ?k; (case a => k_is); (case l => k_is); (case c => k_is); (case k => k_is))
      (case d_cube => refine' Fm.def_in ?a ?l ?c ?k; (case a => k_is); (case l => k_is); (case c => k_is); (case k => k_is))
      (case d_least => refine' Fm.def_in ?a ?l ?c ?k; (case a => k_is); (case l => k_is); (case c => k_is); (case k => k_is))
      (case d_answers => refine' Fm.def_in ?a ?l ?c ?k; (case a => k_is); (case l => k_is); (case c => k_is); (case k => k_is))
      (case c_Token => refine' Fm.cls_in ?a ?b ?c ?d ?e ?g ?i; (case a => k_is); (case b => k_is); (case c => k_is); (case d => k_is); (case e => k_is); (case g => k_is); (case i => k_is))
      (case m_Token_init => refine' Fm.meth_in ?a ?i ?l ?c ?k; (case a => k_is); (case i => k_is); (case l => k_is); (case c => k_is); (case k => k_is))
      (case n_Token_kind => k_is)
      (case n_Token_place => k_is)
      (case n_Token_spelling => k_is)
      (case c_HeldList => refine' Fm.cls_in ?a ?b ?c ?d ?e ?g ?i; (case a => k_is); (case b => k_is); (case c => k_is); (case d => k_is); (case e => k_is); (case g => k_is); (case i => k_is))
      (case m_HeldList_init => refine' Fm.meth_in ?a ?i ?l ?c ?k; (case a => k_is); (case i => k_is); (case l => k_is); (case c => k_is); (case k => k_is))
      (case m_HeldList_add_measure => refine' Fm.meth_in ?a ?i ?l ?c ?k; (case a => k_is); (case i => k_is); (case l => k_is); (case c => k_is); (case k => k_is))
      (case m_HeldList_add_item => refine' Fm.meth_in ?a ?i ?l ?c ?k; (case a => k_is); (case i => k_is); (case l => k_is); (case c => k_is); (case k => k_is))
      (case n_HeldList_measures => k_is)
      (case n_HeldList_ways => k_is)
      (case n_HeldList_names => k_is)
      (case n_HeldList_rows => k_is)
      (case n_HeldList_gains => k_is)
      (case c_TokenReader => refine' Fm.cls_in ?a ?b ?c ?d ?e ?g ?i; (case a => k_is); (case b => k_is); (case c => k_is); (case d => k_is); (case e => k_is); (case g => k_is); (case i => k_is))
      (case m_TokenReader_init => refine' Fm.meth_in ?a ?i ?l ?c ?k; (case a => k_is); (case i => k_is); (case l => k_is); (case c => k_is); (case k => k_is))
      (case m_TokenReader_take => refine' Fm.meth_in ?a ?i ?l ?c ?k; (case a => k_is); (case i => k_is); (case l => k_is); (case c => k_is); (case k => k_is))
      (case n_TokenReader_tokens => k_is)
      (case n_TokenReader_at => k_is)
      (case c_CallReader => refine' Fm.cls_in ?a ?b ?c ?d ?e ?g ?i; (case a => k_is); (case b => k_is); (case c => k_is); (case d => k_is); (case e => k_is); (case g => k_is); (case i => k_is))
      (case m_CallReader_init => refine' Fm.meth_in ?a ?i ?l ?c ?k; (case a => k_is); (case i => k_is); (case l => k_is); (case c => k_is); (case k => k_is))
      (case m_CallReader_is_done => refine' Fm.meth_in ?a ?i ?l ?c ?k; (case a => k_is); (case i => k_is); (case l => k_is); (case c => k_is); (case k => k_is))
      (case m_CallReader_take_number => refine' Fm.meth_in ?a ?i ?l ?c ?k; (case a => k_is); (case i => k_is); (case l => k_is); (case c => k_is); (case k => k_is))
      (case m_CallReader_take_row => refine' Fm.meth_in ?a ?i ?l ?c ?k; (case a => k_is); (case i => k_is); (case l => k_is); (case c => k_is); (case k => k_is))
      (case m_CallReader_take_arguments => refine' Fm.meth_in ?a ?i ?l ?c ?k; (case a => k_is); (case i => k_is); (case l => k_is); (case c => k_is); (case k => k_is))
      (case n_CallReader_calls => k_is)
      (case n_CallReader_at => k_is)
      (case c_Holder => refine' Fm.cls_in ?a ?b ?c ?d ?e ?g ?i; (case a => k_is); (case b => k_is); (case c => k_is); (case d => k_is); (case e => k_is); (case g => k_is); (case i => k_is))
      (case m_Holder_init => refine' Fm.meth_in ?a ?i ?l ?c ?k; (case a => k_is); (case i => k_is); (case l => k_is); (case c => k_is); (case k => k_is))
      (case m_Holder_load => refine' Fm.meth_in ?a ?i ?l ?c ?k; (case a => k_is); (case i => k_is); (case l => k_is); (case c => k_is); (case k => k_is))
      (case m_Holder_answer => refine' Fm.meth_in ?a ?i ?l ?c ?k; (case a => k_is); (case i => k_is); (case l => k_is); (case c => k_is); (case k => k_is))
      (case n_Holder_held => k_is)
      (case f_ns => k_is)
      (case f_row => refine' Fm.row_in ?a; (case a => k_is))
      (case f_set => first | k_is | rfl)
      (case f_base => first | k_is | rfl)
      (case f_meta => first | k_is | rfl)
      (case f_keep => first | k_is | rfl)
      (case f_nN => first | k_is | rfl)
      (case f_nP => first | k_is | rfl)
      (case f_vE => first | k_is | rfl)
      (case f_iC => first | k_is | rfl)
      (case f_tI => first | k_is | rfl)
      (case f_ga => first | k_is | rfl)
      (case f_gg => first | k_is | rfl)
      (case f_hd => first | k_is | rfl)
      (case f_isC => first | k_is | rfl)
      (case f_self => first | k_is | rfl)
      (case f_at => refine' Fm.fn_in ?l ?c ?k; (case l => k_is); (case c => k_is); (case k => k_is))
      (case i_ZERO => refine' Fm.int_in ?a; (case a => k_is))
      (case i_LINE_END => refine' Fm.int_in ?a; (case a => k_is))
      (case i_REMARK => refine' Fm.int_in ?a; (case a => k_is))
      (case i_LONGEST_NAME => refine' Fm.int_in ?a; (case a => k_is))
      (case i_GREATEST_NUMBER => refine' Fm.int_in ?a; (case a => k_is))
      (case i_NO_TOKEN => refine' Fm.int_in ?a; (case a => k_is))
      (case i_NOT_ALLOWED => refine' Fm.int_in ?a; (case a => k_is))
      (case i_TOO_MANY => refine' Fm.int_in ?a; (case a => k_is))
      (case i_NAME_TWICE => refine' Fm.int_in ?a; (case a => k_is))
      (case i_TOO_GREAT => refine' Fm.int_in ?a; (case a => k_is))
      (case i_TOO_LONG => refine' Fm.int_in ?a; (case a => k_is))
      (case i_GREATEST_VALUE => refine' Fm.int_in ?a; (case a => k_is))
      (case i_MOST_BYTES => refine' Fm.int_in ?a; (case a => k_is))
      (case i_MOST_MEASURES => refine' Fm.int_in ?a; (case a => k_is))
      (case i_MOST_ITEMS => refine' Fm.int_in ?a; (case a => k_is))
      (case i_NO_ITEM => refine' Fm.int_in ?a; (case a => k_is))
      (case i_NO_MEASURES => refine' Fm.int_in ?a; (case a => k_is))
      (case i_NO_LIST => refine' Fm.int_in ?a; (case a => k_is))
      (case i_LOAD => refine' Fm.int_in ?a; (case a => k_is))
      (case i_SHOWN => refine' Fm.int_in ?a; (case a => k_is))
      (case i_SUB => refine' Fm.int_in ?a; (case a => k_is))
      (case i_CUBE => refine' Fm.int_in ?a; (case a => k_is))
      (case i_LEAST => refine' Fm.int_in ?a; (case a => k_is))
      (case s_NAME => refine' Fm.str_in ?a; (case a => k_is))
      (case s_NUMBER => refine' Fm.str_in ?a; (case a => k_is))
      (case s_END => refine' Fm.str_in ?a; (case a => k_is))
      (case t_BLANKS => refine' Fm.tup_in ?a ?b ?c ?d ?e ?f; (case a => k_is); (case b => k_is); (case c => rfl); (case d => rfl); (case e => (rw [sizeLine_eq]; decide)); (case f => repeat (first | exact .nil | refine .cons ⟨_, rfl⟩ ?_ | refine .cons rfl ?_)))
      (case t_WORDS => refine' Fm.tup_in ?a ?b ?c ?d ?e ?f; (case a => k_is); (case b => k_is); (case c => rfl); (case d => rfl); (case e => (rw [sizeLine_eq]; decide)); (case f => repeat (first | exact .nil | refine .cons ⟨_, rfl⟩ ?_ | refine .cons rfl ?_)))
      (case t_NUMBERS => refine' Fm.tup_in ?a ?b ?c ?d ?e ?f; (case a => k_is); (case b => k_is); (case c => rfl); (case d => rfl); (case e => (rw [sizeLine_eq]; decide)); (case f => repeat (first | exact .nil | refine .cons ⟨_, rfl⟩ ?_ | refine .cons rfl ?_)))
      (case t_ROWS => refine' Fm.tup_in ?a ?b ?c ?d ?e ?f; (case a => k_is); (case b => k_is); (case c => rfl); (case d => rfl); (case e => (rw [sizeLine_eq]; decide)); (case f => repeat (first | exact .nil | refine .cons ⟨_, rfl⟩ ?_ | refine .cons rfl ?_)))
      (case sig_ns => k_is)
      (case sig_at => refine' Fm.sig_in ?a; (case a => k_is))
      (case sig_low => first | rfl | decide)
      (case b_len => k_is)
      (case b_set => k_is)
      (case b_any => k_is)
      (case b_all => k_is)
      (case b_range => k_is)
      (case b_list => k_is)
      (case b_sum => k_is)
      (case b_enumerate => k_is)
      (case b_zip => k_is)
      (case b_ord => k_is)
      (case b_str => k_is)
      (case b_Exception => k_is)
      (case d_sets_of_size => refine' Fm.def_in ?a ?l ?c ?k; (case a => k_is); (case l => k_is); (case c => k_is); (case k => k_is))
      (case d_is_within => refine' Fm.def_in ?a ?l ?c ?k; (case a => k_is); (case l => k_is); (case c => k_is); (case k => k_is))
      (case d_candidates => refine' Fm.def_in ?a ?l ?c ?k; (case a => k_is); (case l => k_is); (case c => k_is); (case k => k_is))
      (case d_beaten_rows => refine' Fm.def_in ?a ?l ?c ?k; (case a => k_is); (case l => k_is); (case c => k_is); (case k => k_is))
      (case d_beaten_together => refine' Fm.def_in ?a ?l ?c ?k; (case a => k_is); (case l => k_is); (case c => k_is); (case k => k_is))
      (case d_best_together => refine' Fm.def_in ?a ?l ?c ?k; (case a => k_is); (case l => k_is); (case c => k_is); (case k => k_is))
      (case d_next_step => refine' Fm.def_in ?a ?l ?c ?k; (case a => k_is); (case l => k_is); (case c => k_is); (case k => k_is))
      (case d_step_by_step => refine' Fm.def_in ?a ?l ?c ?k; (case a => k_is); (case l => k_is); (case c => k_is); (case k => k_is))
      (case d_shown => refine' Fm.def_in ?a ?l ?c ?k; (case a => k_is); (case l => k_is); (case c => k_is); (case k => k_is))
      (case d_is_between => refine' Fm.def_in ?a ?l ?c ?k; (case a => k_is); (case l => k_is); (case c => k_is); (case k => k_is))
      (case d_bounds => refine' Fm.def_in ?a ?l ?c ?k; (case a => k_is); (case l => k_is); (case c => k_is); (case k => k_is))
      (case d_are_groups => refine' Fm.def_in ?a ?l ?c ?k; (case a => k_is); (case l => k_is); (case c => k_is); (case k => k_is))
      (case d_groups => refine' Fm.def_in ?a ?l ?c ?k; (case a => k_is); (case l => k_is); (case c => k_is); (case k => k_is))
      (case d_cover => refine' Fm.def_in ?a ?l ?c ?k; (case a => k_is); (case l => k_is); (case c => k_is); (case k => k_is))
      (case d_ask => refine' Fm.def_in ?a ?l ?c ?k; (case a => k_is); (case l => k_is); (case c => k_is); (case k => k_is))
      (case m_HeldList_every_measure => refine' Fm.meth_in ?a ?i ?l ?c ?k; (case a => k_is); (case i => k_is); (case l => k_is); (case c => k_is); (case k => k_is))
      (case m_HeldList_every_item => refine' Fm.meth_in ?a ?i ?l ?c ?k; (case a => k_is); (case i => k_is); (case l => k_is); (case c => k_is); (case k => k_is))
      (case i_NO_FIT => refine' Fm.int_in ?a; (case a => k_is))
      (case i_NO_SIZE => refine' Fm.int_in ?a; (case a => k_is))
      (case i_LAST_GROUP => refine' Fm.int_in ?a; (case a => k_is))
      (case i_MOST_TOGETHER => refine' Fm.int_in ?a; (case a => k_is))
      (case i_BOUNDS => refine' Fm.int_in ?a; (case a => k_is))
      (case i_GROUPS => refine' Fm.int_in ?a; (case a => k_is))
      (case i_COVER => refine' Fm.int_in ?a; (case a => k_is))
      (case b_max => k_is)
      (case b_sorted => k_is)
  case S =>
    intro K H xs a hT hwi hask hx
    cases hx with
    | cons h1 h2 =>
      cases h2
      cases h1 with
      | lst hs ha =>
        have e := L2.ints_dw a.1 _ ha
        subst e
        exact ⟨_, a.1, rfl, hs, Fm.tabsT_nil (hT (348, 344) (List.mem_cons_self ..)) (hT (353, 351) (List.mem_cons_of_mem _ (List.mem_cons_self ..))), hask, fun H' p hp => .lst (L2.SqL.of hp) (L2.dw_ints _)⟩
