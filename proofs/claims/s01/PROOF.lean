import PyProof.Rows.All
import Wide.All
import OpenK.AllK
import Wide.FinOn
import Open.SpecLaws
import KE.OsGo
import HandS.ForMost
import HandS.ForSpec
import HandS.More
import HandS.Strs
import HandS.StrMore
import HandS.FStr
import HandS.Deep
import HandS.Zip
import HandS.Rev
import HandS.Flow
import HandS.Conv
import HandS.Small
import HandS.WrittenGet
import PySem.Challenge.RW_piecebookdesk_s01_answers
import KE.GoesNew
import HandS.Walk
set_option Elab.async false
set_option linter.all false
section
namespace Pb
open Cp12

inductive NOp where
  | up | down | long | short | times
  deriving DecidableEq
inductive Tok where
  | opn | cls | plus | over | back
  | name (w : Bytes)
  | rest (n : Nat)
  | num (o : NOp) (n : Nat)
  deriving DecidableEq
def NOp.word : NOp → Bytes
  | .up => ascii "up"
  | .down => ascii "down"
  | .long => ascii "long"
  | .short => ascii "short"
  | .times => ascii "times"
def NOp.lo : NOp → Nat
  | .up => 1
  | .down => 1
  | _ => 2
def NOp.hi : NOp → Nat
  | .up => 69
  | .down => 69
  | _ => 16
def nop? (w : Bytes) : Option NOp :=
  if w = ascii "up" then some .up else if w = ascii "down" then some .down else if w = ascii "long" then some .long
  else if w = ascii "short" then some .short else if w = ascii "times" then some .times else none
theorem nop_word {w : Bytes} {o : NOp} (h : nop? w = some o) : w = o.word := by
  unfold nop? at h
  split at h
  · cases h; assumption
  split at h
  · cases h; assumption
  split at h
  · cases h; assumption
  split at h
  · cases h; assumption
  split at h
  · cases h; assumption
  cases h
theorem nop_of (o : NOp) : nop? o.word = some o := by cases o <;> decide
/-- a word that stands alone, as a token -/
def tok1? (w : Bytes) : Option Tok :=
  if w = [40] then some .opn else if w = [41] then some .cls else if w = [43] then some .plus
  else if w = ascii "over" then some .over else if w = ascii "back" then some .back
  else if isName w then some (.name w) else match event? w with
    | some ⟨none, n⟩ => some (.rest n)
    | _ => none
def toks? : List Bytes → Option (List Tok)
  | [] => some []
  | [w] => if (nop? w).isSome then none else (tok1? w).map fun t => [t]
  | w :: v :: s => match nop? w with
    | some o => (num? o.lo o.hi v).bind fun n => (toks? s).map fun ts => .num o n :: ts
    | none => (tok1? w).bind fun t => (toks? (v :: s)).map fun ts => t :: ts
theorem toks_plain {w : Bytes} (r : List Bytes) (h : nop? w = none) : toks? (w :: r) = (tok1? w).bind fun t => (toks? r).map fun ts => t :: ts := by
  cases r with
  | nil => simp [toks?, h]; cases tok1? w <;> rfl
  | cons v s => simp [toks?, h]
theorem toks_num {w v : Bytes} {o : NOp} (s : List Bytes) (h : nop? w = some o) : toks? (w :: v :: s) = (num? o.lo o.hi v).bind fun n => (toks? s).map fun ts => .num o n :: ts := by
  simp [toks?, h]
theorem toks_num1 {w : Bytes} {o : NOp} (h : nop? w = some o) : toks? [w] = none := by simp [toks?, h]

structure Mc where
  st : List Tok
  wt : List Bool
  due : Bool
def isStart : Tok → Bool
  | .opn => true
  | .name _ => true
  | .rest _ => true
  | _ => false
def pend (b : Bool) : List Tok := if b then [.plus] else []
def mnext (m : Mc) : Tok → Mc
  | .opn => ⟨m.st, false :: m.wt, m.due⟩
  | .cls => ⟨m.st ++ pend (m.wt.headD false), m.wt.tail, m.due⟩
  | .plus => ⟨m.st ++ pend (m.wt.headD false), true :: m.wt.tail, true⟩
  | t => ⟨m.st ++ [t], m.wt, false⟩
def mbad (m : Mc) : Bool := m.wt.isEmpty || decide (DEEP + 1 < m.wt.length)
def mstep (m : Mc) (t : Tok) : Option Mc := if m.due != isStart t then none else if mbad (mnext m t) then none else some (mnext m t)
def mend (m : Mc) : Option (List Tok) := if m.due || m.wt.length != 1 then none else some (m.st ++ pend (m.wt.headD false))
def mrun : Mc → List Tok → Option (List Tok)
  | m, [] => mend m
  | m, t :: r => (mstep m t).bind fun m' => mrun m' r
def order (ts : List Tok) : Option (List Tok) := mrun ⟨[], [false], true⟩ ts
def rpn : Expr → List Tok
  | .name w => [.name w]
  | .rest n => [.rest n]
  | .join a b => rpn a ++ rpn b ++ [.plus]
  | .up a n => rpn a ++ [.num .up n]
  | .down a n => rpn a ++ [.num .down n]
  | .over a => rpn a ++ [.over]
  | .back a => rpn a ++ [.back]
  | .long a n => rpn a ++ [.num .long n]
  | .short a n => rpn a ++ [.num .short n]
  | .times a n => rpn a ++ [.num .times n]

def run (m : Mc) (ws : List Bytes) : Option (List Tok) := (toks? ws).bind (mrun m)
theorem run_nil (m : Mc) : run m [] = mend m := rfl
theorem run_plain {m : Mc} {w : Bytes} {t : Tok} (r : List Bytes) (h : nop? w = none) (ht : tok1? w = some t) : run m (w :: r) = (mstep m t).bind fun m' => run m' r := by
  unfold run
  rw [toks_plain r h, ht]
  cases e : toks? r with
  | none => simp
  | some ts => rfl
theorem run_plain_none {m : Mc} {w : Bytes} (r : List Bytes) (h : nop? w = none) (ht : tok1? w = none) : run m (w :: r) = none := by
  unfold run
  rw [toks_plain r h, ht]; rfl
theorem run_num {m : Mc} {w v : Bytes} {o : NOp} {n : Nat} (s : List Bytes) (h : nop? w = some o) (hn : num? o.lo o.hi v = some n) : run m (w :: v :: s) = (mstep m (.num o n)).bind fun m' => run m' s := by
  unfold run
  rw [toks_num s h, hn]
  cases e : toks? s with
  | none => simp
  | some ts => rfl
theorem run_num_none {m : Mc} {w v : Bytes} {o : NOp} (s : List Bytes) (h : nop? w = some o) (hn : num? o.lo o.hi v = none) : run m (w :: v :: s) = none := by
  unfold run
  rw [toks_num s h, hn]; rfl
theorem run_num1 {m : Mc} {w : Bytes} {o : NOp} (h : nop? w = some o) : run m [w] = none := by
  unfold run
  rw [toks_num1 h]; rfl
/-- a number operation where an item is due -/
theorem run_num_due {S : List Tok} {W : List Bool} {w : Bytes} {o : NOp} (r : List Bytes) (h : nop? w = some o) : run ⟨S, W, true⟩ (w :: r) = none := by
  cases r with
  | nil => exact run_num1 h
  | cons v s =>
    cases e : num? o.lo o.hi v with
    | none => exact run_num_none s h e
    | some n => rw [run_num s h e]; rfl
/-- what follows an item: the end, or a word that is no operation -/
def isOp (w : Bytes) : Bool := (nop? w).isSome || (w == ascii "over" || w == ascii "back")
def stopD : List Bytes → Prop
  | [] => True
  | w :: _ => isOp w = false
def stopS : List Bytes → Prop
  | [] => True
  | w :: _ => isOp w = false ∧ w ≠ [43]

def Adv (b : Bool) (W : List Bool) (S : List Tok) (e : Expr) (ws r : List Bytes) : Prop :=
  r.length < ws.length ∧ run ⟨S, b :: W, true⟩ ws = run ⟨S ++ rpn e, b :: W, false⟩ r

theorem nop_none_of {w : Bytes} (h : isOp w = false) : nop? w = none := by
  unfold isOp at h
  cases e : nop? w with
  | none => rfl
  | some o => rw [e] at h; simp at h

theorem kept_not {w : Bytes} (h : isName w = true) : nop? w = none ∧ w ≠ ascii "over" ∧ w ≠ ascii "back" ∧ w ≠ [40] ∧ w ≠ [41] ∧ w ≠ [43] := by
  refine ⟨?_, ?_, ?_, ?_, ?_, ?_⟩
  · cases e : nop? w with
    | none => rfl
    | some o =>
      have := nop_word e
      subst this
      exfalso
      revert h
      cases o <;> decide
  all_goals (rintro rfl; exact absurd h (by decide))
theorem tok1_name {w : Bytes} (h : isName w = true) : tok1? w = some (.name w) := by
  obtain ⟨_, h1, h2, h3, h4, h5⟩ := kept_not h
  unfold tok1?
  rw [if_neg h3, if_neg h4, if_neg h5, if_neg h1, if_neg h2, if_pos h]
theorem not_bad {S : List Tok} {b : Bool} {W : List Bool} {u : Bool} (h : W.length ≤ DEEP) : mbad ⟨S, b :: W, u⟩ = false := by
  unfold mbad
  simp only [List.isEmpty_cons, Bool.false_or, List.length_cons, decide_eq_false_iff_not]
  omega
/-- a token that is no parenthesis and no sum's sign, where it is due -/
theorem step_keep {S : List Tok} {b u : Bool} {W : List Bool} {t : Tok} (h : W.length ≤ DEEP) (hu : u = isStart t) (hn : mnext ⟨S, b :: W, u⟩ t = ⟨S ++ [t], b :: W, false⟩) : mstep ⟨S, b :: W, u⟩ t = some ⟨S ++ [t], b :: W, false⟩ := by
  unfold mstep
  rw [hn, not_bad h]
  subst hu
  simp
theorem step_not {S : List Tok} {W : List Bool} {u : Bool} {t : Tok} (hu : u ≠ isStart t) : mstep ⟨S, W, u⟩ t = none := by
  unfold mstep
  have : (u != isStart t) = true := by simpa using hu
  rw [if_pos this]
theorem tok1_opn : tok1? [40] = some .opn := by decide
theorem tok1_cls : tok1? [41] = some .cls := by decide
theorem tok1_plus : tok1? [43] = some .plus := by decide
theorem tok1_over : tok1? (ascii "over") = some .over := by decide
theorem tok1_back : tok1? (ascii "back") = some .back := by decide
theorem run_opn {S : List Tok} {b : Bool} {W : List Bool} (r : List Bytes) (h : W.length < DEEP) : run ⟨S, b :: W, true⟩ ([40] :: r) = run ⟨S, false :: b :: W, true⟩ r := by
  rw [run_plain r (by decide) tok1_opn]
  have : mstep ⟨S, b :: W, true⟩ .opn = some ⟨S, false :: b :: W, true⟩ := by
    unfold mstep
    rw [if_neg (by simp [isStart])]
    show (if mbad ⟨S, false :: b :: W, true⟩ then none else some (⟨S, false :: b :: W, true⟩ : Mc)) = _
    rw [not_bad (by simp only [List.length_cons]; omega)]
    rfl
  rw [this]; rfl
theorem run_opn_deep {S : List Tok} {b : Bool} {W : List Bool} (r : List Bytes) (h : DEEP ≤ W.length) : run ⟨S, b :: W, true⟩ ([40] :: r) = none := by
  rw [run_plain r (by decide) tok1_opn]
  have : mstep ⟨S, b :: W, true⟩ .opn = none := by
    unfold mstep
    rw [if_neg (by simp [isStart])]
    show (if mbad ⟨S, false :: b :: W, true⟩ then none else some (⟨S, false :: b :: W, true⟩ : Mc)) = _
    have : mbad ⟨S, false :: b :: W, true⟩ = true := by
      unfold mbad
      simp only [List.isEmpty_cons, Bool.false_or, List.length_cons, decide_eq_true_eq]
      omega
    rw [this]; rfl
  rw [this]; rfl
theorem run_cls {S : List Tok} {b c : Bool} {W : List Bool} (r : List Bytes) (h : W.length ≤ DEEP) : run ⟨S, b :: c :: W, false⟩ ([41] :: r) = run ⟨S ++ pend b, c :: W, false⟩ r := by
  rw [run_plain r (by decide) tok1_cls]
  have : mstep ⟨S, b :: c :: W, false⟩ .cls = some ⟨S ++ pend b, c :: W, false⟩ := by
    unfold mstep
    rw [if_neg (by simp [isStart])]
    show (if mbad ⟨S ++ pend b, c :: W, false⟩ then none else some (⟨S ++ pend b, c :: W, false⟩ : Mc)) = _
    rw [not_bad h]
    rfl
  rw [this]; rfl
theorem run_plus {S : List Tok} {b : Bool} {W : List Bool} (r : List Bytes) (h : W.length ≤ DEEP) : run ⟨S, b :: W, false⟩ ([43] :: r) = run ⟨S ++ pend b, true :: W, true⟩ r := by
  rw [run_plain r (by decide) tok1_plus]
  have : mstep ⟨S, b :: W, false⟩ .plus = some ⟨S ++ pend b, true :: W, true⟩ := by
    unfold mstep
    rw [if_neg (by simp [isStart])]
    show (if mbad ⟨S ++ pend b, true :: W, true⟩ then none else some (⟨S ++ pend b, true :: W, true⟩ : Mc)) = _
    rw [not_bad h]
    rfl
  rw [this]; rfl
theorem run_keep {S : List Tok} {b u : Bool} {W : List Bool} {w : Bytes} {t : Tok} (r : List Bytes) (h : W.length ≤ DEEP) (hn : nop? w = none) (ht : tok1? w = some t) (hu : u = isStart t) (hm : mnext ⟨S, b :: W, u⟩ t = ⟨S ++ [t], b :: W, false⟩) :
    run ⟨S, b :: W, u⟩ (w :: r) = run ⟨S ++ [t], b :: W, false⟩ r := by
  rw [run_plain r hn ht, step_keep h hu hm]; rfl
/-- an item's beginning that is none -/
theorem run_due_none {S : List Tok} {W : List Bool} {w : Bytes} (r : List Bytes) (h1 : w ≠ [40]) (h2 : isName w = false) (h3 : ∀ n, event? w ≠ some ⟨none, n⟩) : run ⟨S, W, true⟩ (w :: r) = none := by
  cases e : nop? w with
  | some o => exact run_num_due r e
  | none =>
    cases et : tok1? w with
    | none => exact run_plain_none r e et
    | some t =>
      rw [run_plain r e et, step_not]
      · rfl
      · unfold tok1? at et
        rw [if_neg h1] at et
        split at et
        · cases et; decide
        split at et
        · cases et; decide
        split at et
        · cases et; decide
        split at et
        · cases et; decide
        rw [if_neg (by rw [h2]; decide)] at et
        split at et
        · rename_i n q; exact absurd q (h3 n)
        · cases et
/-- behind an item: neither an operation nor a sign: no expression goes on -/
theorem run_stop {S : List Tok} {W : List Bool} {w : Bytes} (r : List Bytes) (h1 : isOp w = false) (h2 : w ≠ [43]) (h3 : w ≠ [41]) : run ⟨S, W, false⟩ (w :: r) = none := by
  have e := nop_none_of h1
  cases et : tok1? w with
  | none => exact run_plain_none r e et
  | some t =>
    rw [run_plain r e et, step_not]
    · rfl
    · unfold isOp at h1
      simp only [Bool.or_eq_false_iff, beq_eq_false_iff_ne] at h1
      unfold tok1? at et
      rw [if_neg h3, if_neg h2, if_neg h1.2.1, if_neg h1.2.2] at et
      split at et
      · cases et; decide
      split at et
      · cases et; simp [isStart]
      split at et
      · cases et; simp [isStart]
      · cases et

def ItemOk (k : Nat) : Prop := ∀ (ws : List Bytes) (b : Bool) (W : List Bool) (S : List Tok), 2 * ws.length + 2 ≤ k → W.length ≤ DEEP →
  (∀ e r, item k W.length ws = some (e, r) → r.length < ws.length ∧ stopD r ∧ run ⟨S, b :: W, true⟩ ws = run ⟨S ++ rpn e, b :: W, false⟩ r) ∧
  (item k W.length ws = none → run ⟨S, b :: W, true⟩ ws = none)
def DeedsOk (k : Nat) : Prop := ∀ (a : Expr) (ws : List Bytes) (b : Bool) (W : List Bool) (S : List Tok), ws.length + 1 ≤ k → W.length ≤ DEEP →
  (∀ e r, deeds k a ws = some (e, r) → r.length ≤ ws.length ∧ stopD r ∧ run ⟨S ++ rpn a, b :: W, false⟩ ws = run ⟨S ++ rpn e, b :: W, false⟩ r) ∧
  (deeds k a ws = none → run ⟨S ++ rpn a, b :: W, false⟩ ws = none)
def SumsOk (k : Nat) : Prop := ∀ (a : Expr) (ws : List Bytes) (b : Bool) (W : List Bool) (S S' : List Tok), 2 * ws.length + 3 ≤ k → W.length ≤ DEEP → stopD ws → S' ++ pend b = S ++ rpn a →
  (∀ e r, sums k W.length a ws = some (e, r) → r.length ≤ ws.length ∧ stopS r ∧ ∃ S'' b', S'' ++ pend b' = S ++ rpn e ∧ run ⟨S', b :: W, false⟩ ws = run ⟨S'', b' :: W, false⟩ r) ∧
  (sums k W.length a ws = none → run ⟨S', b :: W, false⟩ ws = none)
def SumOk (k : Nat) : Prop := ∀ (ws : List Bytes) (W : List Bool) (S : List Tok), 2 * ws.length + 3 ≤ k → W.length ≤ DEEP →
  (∀ e r, sum k W.length ws = some (e, r) → r.length < ws.length ∧ stopS r ∧ ∃ S'' b', S'' ++ pend b' = S ++ rpn e ∧ run ⟨S, false :: W, true⟩ ws = run ⟨S'', b' :: W, false⟩ r) ∧
  (sum k W.length ws = none → run ⟨S, false :: W, true⟩ ws = none)

/-- one operation -/
theorem deeds_step {k : Nat} (ih : DeedsOk k) {a a' : Expr} {t : Tok} {ws r' : List Bytes} {b : Bool} {W : List Bool} {S : List Tok} (hl : r'.length < ws.length) (hk : ws.length + 1 ≤ k + 1) (hW : W.length ≤ DEEP) (he : rpn a' = rpn a ++ [t])
    (hr : run ⟨S ++ rpn a, b :: W, false⟩ ws = run ⟨S ++ rpn a ++ [t], b :: W, false⟩ r') :
    (∀ e r, deeds k a' r' = some (e, r) → r.length ≤ ws.length ∧ stopD r ∧ run ⟨S ++ rpn a, b :: W, false⟩ ws = run ⟨S ++ rpn e, b :: W, false⟩ r) ∧
    (deeds k a' r' = none → run ⟨S ++ rpn a, b :: W, false⟩ ws = none) := by
  obtain ⟨h1, h2⟩ := ih a' r' b W S (by omega) hW
  rw [he, ← List.append_assoc, ← hr] at h1 h2
  refine ⟨fun e r q => ?_, h2⟩
  obtain ⟨x, y, z⟩ := h1 e r q
  exact ⟨by omega, y, z⟩
theorem num_ok {o : NOp} {n : Nat} : isStart (.num o n) = false := rfl
theorem run_numop {S : List Tok} {b : Bool} {W : List Bool} {w v : Bytes} {o : NOp} {n : Nat} (s : List Bytes) (h : W.length ≤ DEEP) (hw : nop? w = some o) (hn : num? o.lo o.hi v = some n) :
    run ⟨S, b :: W, false⟩ (w :: v :: s) = run ⟨S ++ [.num o n], b :: W, false⟩ s := by
  rw [run_num s hw hn, step_keep (t := .num o n) (u := false) h rfl rfl]; rfl
theorem contains_nop (w : Bytes) : [ascii "up", ascii "down", ascii "long", ascii "short", ascii "times"].contains w = (nop? w).isSome := by
  unfold nop?
  split
  · subst w; decide
  split
  · subst w; decide
  split
  · subst w; decide
  split
  · subst w; decide
  split
  · subst w; decide
  · rename_i h1 h2 h3 h4 h5
    simp only [List.contains_cons, List.contains_nil, Bool.or_false, Option.isSome_none, Bool.or_eq_false_iff, beq_eq_false_iff_ne]
    exact ⟨h1, h2, h3, h4, h5⟩
def NOp.ex : NOp → Expr → Nat → Expr
  | .up, a, n => .up a n
  | .down, a, n => .down a n
  | .long, a, n => .long a n
  | .short, a, n => .short a n
  | .times, a, n => .times a n
theorem rpn_ex (o : NOp) (a : Expr) (n : Nat) : rpn (o.ex a n) = rpn a ++ [.num o n] := by cases o <;> rfl
theorem deeds_num (k : Nat) (a : Expr) (o : NOp) (v : Bytes) (s : List Bytes) : deeds (k + 1) a (o.word :: v :: s) = match num? o.lo o.hi v with
    | none => none
    | some n => deeds k (o.ex a n) s := by
  cases o <;> simp (decide := true) only [deeds, NOp.word, NOp.lo, NOp.hi, NOp.ex, if_true, if_false] <;> rfl
theorem deeds_num1 (k : Nat) (a : Expr) (o : NOp) : deeds (k + 1) a [o.word] = none := by
  cases o <;> simp (decide := true) only [deeds, NOp.word, if_true, if_false] <;> rfl
theorem deedsOk (k : Nat) : DeedsOk k := by
  induction k with
  | zero => intro a ws b W S h; omega
  | succ k ih =>
    intro a ws b W S hk hW
    cases ws with
    | nil =>
      refine ⟨fun e r q => ?_, fun q => by simp [deeds] at q⟩
      simp only [deeds, Option.some.injEq, Prod.mk.injEq] at q
      obtain ⟨rfl, rfl⟩ := q
      exact ⟨Nat.le_refl _, trivial, rfl⟩
    | cons w r =>
      by_cases c1 : w = ascii "over"
      · subst c1
        have e : deeds (k + 1) a (ascii "over" :: r) = deeds k (.over a) r := by simp [deeds]
        rw [e]
        exact deeds_step ih (t := .over) (by simp) (by simpa using hk) hW rfl (run_keep r hW (by decide) tok1_over rfl rfl)
      by_cases c2 : w = ascii "back"
      · subst c2
        have e : deeds (k + 1) a (ascii "back" :: r) = deeds k (.back a) r := by
          simp only [deeds]; rw [if_neg (by decide)]; simp
        rw [e]
        exact deeds_step ih (t := .back) (by simp) (by simpa using hk) hW rfl (run_keep r hW (by decide) tok1_back rfl rfl)
      cases en : nop? w with
      | none =>
        have e : deeds (k + 1) a (w :: r) = some (a, w :: r) := by
          simp only [deeds]
          rw [if_neg c1, if_neg c2, contains_nop, en]; rfl
        rw [e]
        refine ⟨fun e' r' q => ?_, fun q => by cases q⟩
        simp only [Option.some.injEq, Prod.mk.injEq] at q
        obtain ⟨rfl, rfl⟩ := q
        refine ⟨Nat.le_refl _, ?_, rfl⟩
        show isOp w = false
        simp [isOp, en, c1, c2]
      | some o =>
        have hw := nop_word en
        subst hw
        cases r with
        | nil =>
          rw [deeds_num1]
          refine ⟨fun e' r' q => ?_, fun _ => run_num1 en⟩
          cases q
        | cons v s =>
          rw [deeds_num]
          cases hn : num? o.lo o.hi v with
          | none =>
            refine ⟨fun e' r' q => ?_, fun _ => run_num_none s en hn⟩
            cases q
          | some n => exact deeds_step ih (by simp only [List.length_cons]; omega) (by simpa using hk) hW (rpn_ex o a n) (run_numop s hW en hn)
theorem all_ok (k : Nat) : ItemOk k ∧ SumsOk k ∧ SumOk k := by
  induction k with
  | zero => exact ⟨fun ws b W S h => by omega, fun a ws b W S S' h => by omega, fun ws W S h => by omega⟩
  | succ k ih =>
    obtain ⟨ihI, ihT, ihS⟩ := ih
    refine ⟨?_, ?_, ?_⟩
    · intro ws b W S hk hW
      cases ws with
      | nil =>
        refine ⟨fun e r q => by simp [item] at q, fun _ => ?_⟩
        simp [run_nil, mend]
      | cons w r =>
        by_cases c1 : w = [40]
        · subst c1
          by_cases cd : DEEP ≤ W.length
          · have e : item (k + 1) W.length ([40] :: r) = none := by simp [item, cd]
            rw [e]
            refine ⟨fun e' r' q => ?_, fun _ => run_opn_deep r cd⟩
            cases q
          · have hW' : W.length < DEEP := by omega
            have hs := ihS r (b :: W) S (by simp only [List.length_cons] at hk; omega) (by simp only [List.length_cons]; omega)
            rw [run_opn r hW']
            simp only [List.length_cons] at hs hk
            cases es : sum k (W.length + 1) r with
            | none =>
              have e : item (k + 1) W.length ([40] :: r) = none := by simp [item, cd, es]
              rw [e]
              refine ⟨fun e' r' q => ?_, fun _ => hs.2 es⟩
              cases q
            | some x =>
              obtain ⟨a, q⟩ := x
              obtain ⟨hl, hst, S'', b', eS, er⟩ := hs.1 a q es
              rw [er]
              cases q with
              | nil =>
                have e : item (k + 1) W.length ([40] :: r) = none := by simp [item, cd, es]
                rw [e]
                refine ⟨fun e' r' q => ?_, fun _ => ?_⟩
                · cases q
                · simp [run_nil, mend]
              | cons y s =>
                by_cases cy : y = [41]
                · subst cy
                  have e : item (k + 1) W.length ([40] :: r) = deeds k a s := by simp [item, cd, es]
                  rw [e, run_cls s hW, eS]
                  simp only [List.length_cons] at hl
                  obtain ⟨h1, h2⟩ := deedsOk k a s b W S (by omega) hW
                  refine ⟨fun e' r' q => ?_, h2⟩
                  obtain ⟨x1, x2, x3⟩ := h1 e' r' q
                  refine ⟨?_, x2, x3⟩
                  simp only [List.length_cons]; omega
                · have e : item (k + 1) W.length ([40] :: r) = none := by simp [item, cd, es, cy]
                  rw [e]
                  refine ⟨fun e' r' q => ?_, fun _ => run_stop s hst.1 hst.2 cy⟩
                  cases q
        · by_cases c2 : isName w = true
          · have e : item (k + 1) W.length (w :: r) = deeds k (.name w) r := by simp [item, c1, c2]
            rw [e]
            have hr : run ⟨S, b :: W, true⟩ (w :: r) = run ⟨S ++ [.name w], b :: W, false⟩ r := run_keep r hW (kept_not c2).1 (tok1_name c2) rfl rfl
            rw [hr]
            simp only [List.length_cons] at hk
            obtain ⟨h1, h2⟩ := deedsOk k (.name w) r b W S (by omega) hW
            refine ⟨fun e' r' q => ?_, h2⟩
            obtain ⟨x1, x2, x3⟩ := h1 e' r' q
            refine ⟨?_, x2, x3⟩
            simp only [List.length_cons]; omega
          · have c2' : isName w = false := by simpa using c2
            by_cases c3 : ∃ n, event? w = some ⟨none, n⟩
            · obtain ⟨n, hn⟩ := c3
              have e : item (k + 1) W.length (w :: r) = deeds k (.rest n) r := by simp [item, c1, c2', hn]
              have hno : nop? w = none ∧ tok1? w = some (.rest n) := by
                have k1 : ∀ v : Bytes, event? v = none → w ≠ v := fun v hv q => by rw [q, hv] at hn; cases hn
                refine ⟨?_, ?_⟩
                · cases eo : nop? w with
                  | none => rfl
                  | some o => exact absurd (nop_word eo) (k1 _ (by cases o <;> decide))
                · unfold tok1?
                  rw [if_neg c1, if_neg (k1 _ (by decide)), if_neg (k1 _ (by decide)), if_neg (k1 _ (by decide)), if_neg (k1 _ (by decide)), if_neg c2, hn]
              rw [e]
              have hr : run ⟨S, b :: W, true⟩ (w :: r) = run ⟨S ++ [.rest n], b :: W, false⟩ r := run_keep r hW hno.1 hno.2 rfl rfl
              rw [hr]
              simp only [List.length_cons] at hk
              obtain ⟨h1, h2⟩ := deedsOk k (.rest n) r b W S (by omega) hW
              refine ⟨fun e' r' q => ?_, h2⟩
              obtain ⟨x1, x2, x3⟩ := h1 e' r' q
              refine ⟨?_, x2, x3⟩
              simp only [List.length_cons]; omega
            · have e : item (k + 1) W.length (w :: r) = none := by
                simp only [item, if_neg c1, c2']
                cases ev : event? w with
                | none => rfl
                | some v =>
                  obtain ⟨vn, vl⟩ := v
                  cases vn with
                  | none => exact absurd ⟨vl, ev⟩ c3
                  | some _ => rfl
              rw [e]
              refine ⟨fun e' r' q => ?_, fun _ => run_due_none r c1 c2' fun n q => c3 ⟨n, q⟩⟩
              cases q
    · intro a ws b W S S' hk hW hst hS
      cases ws with
      | nil =>
        refine ⟨fun e r q => ?_, fun q => by simp [sums] at q⟩
        simp only [sums, Option.some.injEq, Prod.mk.injEq] at q
        obtain ⟨rfl, rfl⟩ := q
        exact ⟨Nat.le_refl _, trivial, S', b, hS, rfl⟩
      | cons w r =>
        by_cases c : w = [43]
        · subst c
          rw [run_plus r hW, hS]
          simp only [List.length_cons] at hk
          have hi := ihI r true W (S ++ rpn a) (by omega) hW
          cases ei : item k W.length r with
          | none =>
            have e : sums (k + 1) W.length a ([43] :: r) = none := by simp [sums, ei]
            rw [e]
            refine ⟨fun e' r' q => ?_, fun _ => hi.2 ei⟩
            cases q
          | some y =>
            obtain ⟨y, t⟩ := y
            obtain ⟨hl, hs, er⟩ := hi.1 y t ei
            have e : sums (k + 1) W.length a ([43] :: r) = sums k W.length (.join a y) t := by simp [sums, ei]
            rw [e, er]
            obtain ⟨h1, h2⟩ := ihT (.join a y) t true W S (S ++ rpn a ++ rpn y) (by omega) hW hs (by simp [pend, rpn, List.append_assoc])
            refine ⟨fun e' r' q => ?_, h2⟩
            obtain ⟨x1, x2, x3⟩ := h1 e' r' q
            refine ⟨?_, x2, x3⟩
            simp only [List.length_cons]; omega
        · have e : sums (k + 1) W.length a (w :: r) = some (a, w :: r) := by simp [sums, c]
          rw [e]
          refine ⟨fun e' r' q => ?_, fun q => by cases q⟩
          simp only [Option.some.injEq, Prod.mk.injEq] at q
          obtain ⟨rfl, rfl⟩ := q
          exact ⟨Nat.le_refl _, ⟨hst, c⟩, S', b, hS, rfl⟩
    · intro ws W S hk hW
      have hi := ihI ws false W S (by omega) hW
      cases ei : item k W.length ws with
      | none =>
        have e : sum (k + 1) W.length ws = none := by simp [sum, ei]
        rw [e]
        refine ⟨fun e' r' q => ?_, fun _ => hi.2 ei⟩
        cases q
      | some y =>
        obtain ⟨y, t⟩ := y
        obtain ⟨hl, hs, er⟩ := hi.1 y t ei
        have e : sum (k + 1) W.length ws = sums k W.length y t := by simp [sum, ei]
        rw [e, er]
        obtain ⟨h1, h2⟩ := ihT y t false W S (S ++ rpn y) (by omega) hW hs (by simp [pend])
        refine ⟨fun e' r' q => ?_, h2⟩
        obtain ⟨x1, x2, x3⟩ := h1 e' r' q
        exact ⟨by omega, x2, x3⟩
/-- the words of an expression, read: the specification's tree, and the program's steps -/
def readW (ws : List Bytes) : Option Expr := match sum (4 * ws.length + 8) 0 ws with
  | some (e, []) => some e
  | _ => none
theorem order_read (ws : List Bytes) : (toks? ws).bind order = (readW ws).map rpn := by
  show run ⟨[], [false], true⟩ ws = _
  obtain ⟨_, _, h⟩ := all_ok (4 * ws.length + 8)
  obtain ⟨h1, h2⟩ := h ws [] [] (by omega) (by simp)
  simp only [List.length_nil] at h1 h2
  unfold readW
  cases es : sum (4 * ws.length + 8) 0 ws with
  | none => exact h2 es
  | some x =>
    obtain ⟨e, r⟩ := x
    obtain ⟨_, hst, S, b, eS, er⟩ := h1 e r es
    rw [er]
    cases r with
    | nil =>
      show mend ⟨S, [b], false⟩ = some (rpn e)
      simp only [mend, List.headD_cons]
      simp only [List.nil_append] at eS
      rw [eS]; rfl
    | cons w s =>
      show run ⟨S, [b], false⟩ (w :: s) = none
      by_cases c : w = [41]
      · subst c
        rw [run_plain s (by decide) tok1_cls]
        have : mstep ⟨S, [b], false⟩ .cls = none := by
          unfold mstep
          rw [if_neg (by simp [isStart])]
          rfl
        rw [this]; rfl
      · exact run_stop s hst.1 hst.2 c
/-! ### what a read expression is made of -/
def tokOk : Tok → Prop
  | .name w => isName w = true
  | .rest n => 1 ≤ n ∧ n ≤ LENGTH
  | .num o n => o.lo ≤ n ∧ n ≤ o.hi
  | _ => True
def okE (e : Expr) : Prop := ∀ t ∈ rpn e, tokOk t
theorem num_range {lo hi n : Nat} {w : Bytes} (h : num? lo hi w = some n) : lo ≤ n ∧ n ≤ hi := by
  unfold num? at h
  split at h
  · cases h
  · simp only at h
    split at h
    · cases h; assumption
    · cases h
theorem event_len {w : Bytes} {v : Event} (h : event? w = some v) : 1 ≤ v.len ∧ v.len ≤ LENGTH := by
  unfold event? at h
  split at h
  · rename_i a b _
    cases hn : num? 1 LENGTH b with
    | none => rw [hn] at h; cases h
    | some n =>
      rw [hn] at h
      simp only [Option.bind_some] at h
      have hr := num_range hn
      split at h
      · cases h
      · split at h
        · split at h
          · cases h; exact hr
          · cases h
        · split at h
          · cases h
          · split at h
            · cases h
            · split at h
              · cases h
              · obtain ⟨s, _, rfl⟩ := Option.map_eq_some_iff.mp h
                exact hr
  · cases h
theorem tok1_ok {w : Bytes} {t : Tok} (h : tok1? w = some t) : tokOk t := by
  unfold tok1? at h
  split at h
  · cases h; trivial
  split at h
  · cases h; trivial
  split at h
  · cases h; trivial
  split at h
  · cases h; trivial
  split at h
  · cases h; trivial
  split at h
  · cases h; assumption
  split at h
  · rename_i n q; cases h; exact event_len q
  · cases h
theorem toks_ok : ∀ (n : Nat) (ws : List Bytes) (ts : List Tok), ws.length ≤ n → toks? ws = some ts → ∀ t ∈ ts, tokOk t
  | _, [], ts, _, h => by cases h; simp
  | 0, _ :: _, _, hn, _ => by simp at hn
  | n + 1, w :: r, ts, hn, h => by
    simp only [List.length_cons] at hn
    cases e : nop? w with
    | none =>
      rw [toks_plain r e] at h
      cases e1 : tok1? w with
      | none => rw [e1] at h; cases h
      | some t =>
        rw [e1] at h
        cases e2 : toks? r with
        | none => rw [e2] at h; cases h
        | some us =>
          rw [e2] at h
          cases h
          intro x hx
          rcases List.mem_cons.mp hx with rfl | hx
          · exact tok1_ok e1
          · exact toks_ok n r us (by omega) e2 x hx
    | some o =>
      cases r with
      | nil => rw [toks_num1 e] at h; cases h
      | cons v s =>
        rw [toks_num s e] at h
        cases e1 : num? o.lo o.hi v with
        | none => rw [e1] at h; cases h
        | some m =>
          rw [e1] at h
          cases e2 : toks? s with
          | none => rw [e2] at h; cases h
          | some us =>
            rw [e2] at h
            cases h
            simp only [List.length_cons] at hn
            intro x hx
            rcases List.mem_cons.mp hx with rfl | hx
            · exact num_range e1
            · exact toks_ok n s us (by omega) e2 x hx
theorem pend_ok (b : Bool) : ∀ t ∈ pend b, tokOk t := by
  cases b
  · simp [pend]
  · intro t h; simp [pend] at h; subst h; trivial
theorem mnext_ok {m : Mc} {t : Tok} (h1 : ∀ x ∈ m.st, tokOk x) (h2 : tokOk t) : ∀ x ∈ (mnext m t).st, tokOk x := by
  have happ : ∀ (l : List Tok), (∀ x ∈ l, tokOk x) → ∀ x ∈ m.st ++ l, tokOk x := fun l hl x hx => by
    rcases List.mem_append.mp hx with q | q
    · exact h1 x q
    · exact hl x q
  cases t
  case opn => exact h1
  case cls => exact happ _ (pend_ok _)
  case plus => exact happ _ (pend_ok _)
  all_goals exact happ _ (fun x hx => by rw [List.mem_singleton.mp hx]; exact h2)
theorem mrun_ok : ∀ (ts : List Tok) (m : Mc) (us : List Tok), (∀ x ∈ m.st, tokOk x) → (∀ x ∈ ts, tokOk x) → mrun m ts = some us → ∀ x ∈ us, tokOk x
  | [], m, us, h1, _, h => by
    simp only [mrun, mend] at h
    split at h
    · cases h
    · cases h
      intro x hx
      rcases List.mem_append.mp hx with q | q
      · exact h1 x q
      · exact pend_ok _ x q
  | t :: r, m, us, h1, h2, h => by
    simp only [mrun] at h
    cases e : mstep m t with
    | none => rw [e] at h; cases h
    | some m' =>
      rw [e] at h
      have hm : m' = mnext m t := by
        unfold mstep at e
        split at e
        · cases e
        · split at e
          · cases e
          · cases e; rfl
      subst hm
      exact mrun_ok r _ us (mnext_ok h1 (h2 t (List.mem_cons_self ..))) (fun x hx => h2 x (List.mem_cons_of_mem _ hx)) h
theorem readW_ok {ws : List Bytes} {e : Expr} (h : readW ws = some e) : okE e := by
  have q := order_read ws
  rw [h] at q
  cases et : toks? ws with
  | none => rw [et] at q; cases q
  | some ts =>
    rw [et] at q
    exact mrun_ok ts _ _ (by simp) (toks_ok _ ws ts (Nat.le_refl _) et) q
end Pb
end
section
namespace Pb
open Cp12

/-! ### an expression's value by its steps -/
def nameOf : Tok → Option Bytes
  | .name w => some w
  | _ => none
theorem names_rpn (e : Expr) : names e = (rpn e).filterMap nameOf := by
  induction e <;> simp_all [names, rpn, nameOf, List.filterMap_append]
/-- a line after a step that works on one line -/
def opLine : Tok → Line → Option Line
  | .num .up n, x => some (move n x)
  | .num .down n, x => some (move (-(n : Int)) x)
  | .over, x => some (overLine x)
  | .back, x => some x.reverse
  | .num .long n, x => some (x.map fun e => ⟨e.n, e.len * n⟩)
  | .num .short n, x => if x.all (fun e => e.len % n == 0) then some (x.map fun e => ⟨e.n, e.len / n⟩) else none
  | .num .times n, x => some (List.replicate n x).flatten
  | _, _ => none
/-- the line that a step makes, and the lines that stay below it (the last first) -/
def made (f : Bytes → Line) : Tok → List Line → Option (Line × List Line)
  | .name w, st => some (f w, st)
  | .rest n, st => some ([⟨none, n⟩], st)
  | .plus, r :: l :: st => some (l ++ r, st)
  | .plus, _ => none
  | t, x :: st => (opLine t x).map fun y => (y, st)
  | _, [] => none
def evalS (f : Bytes → Line) : List Tok → List Line → Option (List Line)
  | [], st => some st
  | t :: ts, st => match made f t st with
    | none => none
    | some (y, st') => if fine y then evalS f ts (y :: st') else none
theorem fine_rest {n : Nat} (h : 1 ≤ n ∧ n ≤ LENGTH) : fine [⟨none, n⟩] = true := by
  simp [fine, MOST, h.1, h.2]
theorem fine_iff {l : Line} : fine l = true ↔ l.length ≤ MOST ∧ ∀ e ∈ l, ((match e.n with | none => true | some n => isNote n) = true ∧ 1 ≤ e.len ∧ e.len ≤ LENGTH) := by
  simp only [fine, Bool.and_eq_true, decide_eq_true_eq, List.all_eq_true]
  exact Iff.rfl
theorem fine_reverse {l : Line} (h : fine l = true) : fine l.reverse = true := by
  rw [fine_iff] at h ⊢
  exact ⟨by rw [List.length_reverse]; exact h.1, fun e he => h.2 e (List.mem_reverse.mp he)⟩
theorem fine_short {l : Line} {n : Nat} (hn : 1 ≤ n) (h : fine l = true) (hd : l.all (fun e => e.len % n == 0) = true) : fine (l.map fun e => (⟨e.n, e.len / n⟩ : Event)) = true := by
  rw [fine_iff] at h ⊢
  refine ⟨by rw [List.length_map]; exact h.1, fun e he => ?_⟩
  obtain ⟨x, hx, rfl⟩ := List.mem_map.mp he
  obtain ⟨h1, h2, h3⟩ := h.2 x hx
  have hd := List.all_eq_true.mp hd x hx
  simp only [beq_iff_eq] at hd
  refine ⟨h1, ?_, ?_⟩
  · have : n ≤ x.len := Nat.le_of_dvd (by omega) (Nat.dvd_of_mod_eq_zero hd)
    exact (Nat.le_div_iff_mul_le (by omega)).mpr (by omega)
  · exact Nat.le_trans (Nat.div_le_self _ _) h3
/-- the lines of the names: what the specification is told, and what the program has -/
def Tells (g : Bytes → Option Line) (f : Bytes → Line) (l : List Bytes) : Prop := ∀ w ∈ l, g w = some (f w) ∧ fine (f w) = true
theorem value_fine {g : Bytes → Option Line} {f : Bytes → Line} : ∀ (e : Expr) (x : Line), okE e → Tells g f (names e) → value g e = some x → fine x = true := by
  intro e
  induction e with
  | name w =>
    intro x _ h q
    obtain ⟨h1, h2⟩ := h w (by simp [names])
    simp only [value] at q
    rw [h1] at q; cases q; exact h2
  | rest n =>
    intro x ho _ q
    simp only [value] at q
    cases q
    exact fine_rest (ho (.rest n) (by simp [rpn]))
  | join a b iha ihb =>
    intro x _ _ q
    simp only [value] at q
    split at q
    · split at q
      · cases q; assumption
      · cases q
    · cases q
  | up a n ih =>
    intro x _ _ q
    simp only [value] at q
    cases e : value g a with
    | none => rw [e] at q; cases q
    | some y =>
      rw [e] at q
      simp only [Option.bind_some] at q
      split at q
      · cases q; assumption
      · cases q
  | down a n ih =>
    intro x _ _ q
    simp only [value] at q
    cases e : value g a with
    | none => rw [e] at q; cases q
    | some y =>
      rw [e] at q
      simp only [Option.bind_some] at q
      split at q
      · cases q; assumption
      · cases q
  | over a ih =>
    intro x _ _ q
    simp only [value] at q
    cases e : value g a with
    | none => rw [e] at q; cases q
    | some y =>
      rw [e] at q
      simp only [Option.bind_some] at q
      split at q
      · cases q; assumption
      · cases q
  | back a ih =>
    intro x ho ht q
    simp only [value] at q
    cases e : value g a with
    | none => rw [e] at q; cases q
    | some y =>
      rw [e] at q
      cases q
      exact fine_reverse (ih y (fun t h => ho t (by simp [rpn, h])) ht e)
  | long a n ih =>
    intro x _ _ q
    simp only [value] at q
    cases e : value g a with
    | none => rw [e] at q; cases q
    | some y =>
      rw [e] at q
      simp only [Option.bind_some] at q
      split at q
      · cases q; assumption
      · cases q
  | short a n ih =>
    intro x ho ht q
    simp only [value] at q
    cases e : value g a with
    | none => rw [e] at q; cases q
    | some y =>
      rw [e] at q
      simp only [Option.bind_some] at q
      split at q
      · cases q
        rename_i hd
        have hn : 2 ≤ n := (ho (.num .short n) (by simp [rpn])).1
        exact fine_short (by omega) (ih y (fun t h => ho t (by simp [rpn, h])) ht e) hd
      · cases q
  | times a n ih =>
    intro x _ _ q
    simp only [value] at q
    cases e : value g a with
    | none => rw [e] at q; cases q
    | some y =>
      rw [e] at q
      simp only [Option.bind_some] at q
      split at q
      · cases q; assumption
      · cases q
theorem evalS_append (f : Bytes → Line) : ∀ (ts us : List Tok) (st : List Line), evalS f (ts ++ us) st = (evalS f ts st).bind (evalS f us)
  | [], us, st => rfl
  | t :: ts, us, st => by
    show (match made f t st with | none => none | some (y, st') => if fine y then evalS f (ts ++ us) (y :: st') else none) = _
    show _ = Option.bind (match made f t st with | none => none | some (y, st') => if fine y then evalS f ts (y :: st') else none) (evalS f us)
    cases made f t st with
    | none => rfl
    | some p =>
      obtain ⟨y, st'⟩ := p
      simp only
      split
      · exact evalS_append f ts us (y :: st')
      · rfl
theorem evalS_one {f : Bytes → Line} {t : Tok} {st st' : List Line} {y : Line} (h : made f t st = some (y, st')) : evalS f [t] st = if fine y then some (y :: st') else none := by
  show (match made f t st with | none => none | some (y, st') => if fine y then evalS f [] (y :: st') else none) = _
  rw [h]; rfl
theorem evalS_op {f : Bytes → Line} {t : Tok} {x : Line} {st : List Line} (h : made f t (x :: st) = (opLine t x).map fun y => (y, st)) : evalS f [t] (x :: st) = (opLine t x).bind fun y => if fine y then some (y :: st) else none := by
  cases e : opLine t x with
  | none =>
    rw [e] at h
    show (match made f t (x :: st) with | none => none | some (y, st') => if fine y then evalS f [] (y :: st') else none) = _
    rw [h]; rfl
  | some y =>
    rw [e] at h
    exact evalS_one h
theorem evalS_rpn {g : Bytes → Option Line} {f : Bytes → Line} : ∀ (e : Expr) (st : List Line), okE e → Tells g f (names e) → evalS f (rpn e) st = (value g e).map fun x => x :: st := by
  have op1 : ∀ (a : Expr) (t : Tok) (st : List Line) (v : Option Line), (∀ x, made f t (x :: st) = (opLine t x).map fun y => (y, st)) → evalS f (rpn a) st = (value g a).map (fun x => x :: st) →
      v = ((value g a).bind fun x => (opLine t x).bind fun y => if fine y then some y else none) → evalS f (rpn a ++ [t]) st = v.map fun x => x :: st := by
    intro a t st v hm ha hv
    rw [evalS_append, ha, hv]
    cases value g a with
    | none => rfl
    | some x =>
      show evalS f [t] (x :: st) = _
      rw [evalS_op (hm x)]
      simp only [Option.bind_some]
      cases opLine t x with
      | none => rfl
      | some y =>
        simp only [Option.bind_some]
        split <;> rfl
  intro e
  induction e with
  | name w =>
    intro st _ h
    obtain ⟨h1, h2⟩ := h w (by simp [names])
    show evalS f [.name w] st = _
    rw [evalS_one (y := f w) (st' := st) rfl, if_pos h2]
    simp only [value]; rw [h1]; rfl
  | rest n =>
    intro st ho _
    show evalS f [.rest n] st = _
    rw [evalS_one (y := [⟨none, n⟩]) (st' := st) rfl, if_pos (fine_rest (ho (.rest n) (by simp [rpn])))]
    rfl
  | join a b iha ihb =>
    intro st ho ht
    have ha := iha st (fun t h => ho t (by simp [rpn, h])) (fun w h => ht w (by simp [names, h]))
    have hb := fun x => ihb (x :: st) (fun t h => ho t (by simp [rpn, h])) (fun w h => ht w (by simp [names, h]))
    show evalS f (rpn a ++ rpn b ++ [.plus]) st = _
    rw [evalS_append, evalS_append, ha]
    simp only [value]
    cases ea : value g a with
    | none => cases value g b <;> rfl
    | some x =>
      simp only [Option.map_some, Option.bind_some]
      rw [hb x]
      cases eb : value g b with
      | none => rfl
      | some y =>
        show evalS f [.plus] (y :: x :: st) = _
        rw [evalS_one (y := x ++ y) (st' := st) rfl]
        simp only
        split <;> rfl
  | up a n ih =>
    intro st ho ht
    exact op1 a (.num .up n) st _ (fun _ => rfl) (ih st (fun t h => ho t (by simp [rpn, h])) ht) rfl
  | down a n ih =>
    intro st ho ht
    exact op1 a (.num .down n) st _ (fun _ => rfl) (ih st (fun t h => ho t (by simp [rpn, h])) ht) rfl
  | over a ih =>
    intro st ho ht
    exact op1 a .over st _ (fun _ => rfl) (ih st (fun t h => ho t (by simp [rpn, h])) ht) rfl
  | back a ih =>
    intro st ho ht
    refine op1 a .back st _ (fun _ => rfl) (ih st (fun t h => ho t (by simp [rpn, h])) ht) ?_
    simp only [value]
    cases ea : value g a with
    | none => rfl
    | some x =>
      have := value_fine a x (fun t h => ho t (by simp [rpn, h])) ht ea
      simp [opLine, fine_reverse this]
  | long a n ih =>
    intro st ho ht
    exact op1 a (.num .long n) st _ (fun _ => rfl) (ih st (fun t h => ho t (by simp [rpn, h])) ht) rfl
  | short a n ih =>
    intro st ho ht
    refine op1 a (.num .short n) st _ (fun _ => rfl) (ih st (fun t h => ho t (by simp [rpn, h])) ht) ?_
    simp only [value]
    cases ea : value g a with
    | none => rfl
    | some x =>
      have hf := value_fine a x (fun t h => ho t (by simp [rpn, h])) ht ea
      have hn : 2 ≤ n := (ho (.num .short n) (by simp [rpn])).1
      simp only [Option.bind_some, opLine]
      split
      · rename_i hd
        simp [fine_short (by omega) hf hd]
      · rfl
  | times a n ih =>
    intro st ho ht
    exact op1 a (.num .times n) st _ (fun _ => rfl) (ih st (fun t h => ho t (by simp [rpn, h])) ht) rfl

/-! ### an expression's text by its steps -/
def isJoin : Expr → Bool
  | .join _ _ => true
  | _ => false
def asItem (p : Bytes × Bool) : Bytes := if p.2 then ascii "( " ++ p.1 ++ ascii " )" else p.1
def opText : Tok → Bytes
  | .over => ascii "over"
  | .back => ascii "back"
  | .num o n => o.word ++ 32 :: decimal n
  | _ => []
def textT : Tok → List (Bytes × Bool) → Option (List (Bytes × Bool))
  | .name w, st => some ((w, false) :: st)
  | .rest n, st => some ((ascii "r:" ++ decimal n, false) :: st)
  | .plus, r :: l :: st => some ((l.1 ++ ascii " + " ++ asItem r, true) :: st)
  | .plus, _ => none
  | t, x :: st => some ((asItem x ++ 32 :: opText t, false) :: st)
  | _, [] => none
def textS : List Tok → List (Bytes × Bool) → Option (List (Bytes × Bool))
  | [], st => some st
  | t :: ts, st => (textT t st).bind (textS ts)
theorem textS_append : ∀ (ts us : List Tok) (st : List (Bytes × Bool)), textS (ts ++ us) st = (textS ts st).bind (textS us)
  | [], us, st => rfl
  | t :: ts, us, st => by
    show (textT t st).bind (textS (ts ++ us)) = ((textT t st).bind (textS ts)).bind (textS us)
    cases textT t st with
    | none => rfl
    | some s => exact textS_append ts us s
theorem asItem_text (e : Expr) : asItem (text e false, isJoin e) = text e true := by
  cases e <;> simp [asItem, isJoin, text]
theorem textS_rpn : ∀ (e : Expr) (st : List (Bytes × Bool)), textS (rpn e) st = some ((text e false, isJoin e) :: st) := by
  have op1 : ∀ (a : Expr) (t : Tok) (st : List (Bytes × Bool)) (v : Bytes), (∀ x, textT t (x :: st) = some ((asItem x ++ 32 :: opText t, false) :: st)) → textS (rpn a) st = some ((text a false, isJoin a) :: st) →
      v = text a true ++ 32 :: opText t → textS (rpn a ++ [t]) st = some ((v, false) :: st) := by
    intro a t st v hm ha hv
    rw [textS_append, ha]
    show (textT t ((text a false, isJoin a) :: st)).bind (textS []) = _
    rw [hm, asItem_text, hv]; rfl
  intro e
  induction e with
  | name w => intro st; rfl
  | rest n => intro st; rfl
  | join a b iha ihb =>
    intro st
    show textS (rpn a ++ rpn b ++ [.plus]) st = _
    rw [textS_append, textS_append, iha]
    simp only [Option.bind_some]
    rw [ihb]
    show some ((text a false ++ ascii " + " ++ asItem (text b false, isJoin b), true) :: st) = _
    rw [asItem_text]; rfl
  | up a n ih => intro st; refine op1 a (.num .up n) st _ (fun _ => rfl) (ih st) (by simp [text, opText, NOp.word]; rfl)
  | down a n ih => intro st; refine op1 a (.num .down n) st _ (fun _ => rfl) (ih st) (by simp [text, opText, NOp.word]; rfl)
  | over a ih => intro st; refine op1 a .over st _ (fun _ => rfl) (ih st) (by simp [text, opText]; rfl)
  | back a ih => intro st; refine op1 a .back st _ (fun _ => rfl) (ih st) (by simp [text, opText]; rfl)
  | long a n ih => intro st; refine op1 a (.num .long n) st _ (fun _ => rfl) (ih st) (by simp [text, opText, NOp.word]; rfl)
  | short a n ih => intro st; refine op1 a (.num .short n) st _ (fun _ => rfl) (ih st) (by simp [text, opText, NOp.word]; rfl)
  | times a n ih => intro st; refine op1 a (.num .times n) st _ (fun _ => rfl) (ih st) (by simp [text, opText, NOp.word]; rfl)

/-! ### names, each once -/
def once (l : List Bytes) : List Bytes := l.foldl (fun l n => if l.contains n then l else l ++ [n]) []
theorem once_go : ∀ (l acc : List Bytes), acc.Nodup → (l.foldl (fun l n => if l.contains n then l else l ++ [n]) acc).Nodup ∧ ∀ w, w ∈ l.foldl (fun l n => if l.contains n then l else l ++ [n]) acc ↔ w ∈ acc ∨ w ∈ l
  | [], acc, h => ⟨h, by simp⟩
  | x :: l, acc, h => by
    simp only [List.foldl_cons]
    by_cases c : acc.contains x = true
    · rw [if_pos c]
      obtain ⟨h1, h2⟩ := once_go l acc h
      refine ⟨h1, fun w => ?_⟩
      rw [h2]
      have hx : x ∈ acc := by simpa using c
      constructor
      · rintro (q | q)
        · exact .inl q
        · exact .inr (List.mem_cons_of_mem _ q)
      · rintro (q | q)
        · exact .inl q
        · rcases List.mem_cons.mp q with rfl | q
          · exact .inl hx
          · exact .inr q
    · rw [if_neg c]
      have hx : x ∉ acc := by simpa using c
      obtain ⟨h1, h2⟩ := once_go l (acc ++ [x]) (by
        rw [List.nodup_append]
        refine ⟨h, by simp, fun a ha b hb => ?_⟩
        rw [List.mem_singleton.mp hb]
        rintro rfl
        exact hx ha)
      refine ⟨h1, fun w => ?_⟩
      rw [h2, List.mem_append, List.mem_singleton, List.mem_cons, or_assoc]
theorem once_nodup (l : List Bytes) : (once l).Nodup := (once_go l [] (by simp)).1
theorem mem_once {l : List Bytes} {w : Bytes} : w ∈ once l ↔ w ∈ l := by
  unfold once
  rw [(once_go l [] (by simp)).2]
  simp
end Pb
end
section
namespace Pb
open Cp12

def has (b : Book) (w : Bytes) : Bool := b.any fun d => d.name == w
def usesD (d : Def) : List Bytes := match d.body with
  | .theme _ => []
  | .part e => once (names e)
theorem has_iff {b : Book} {w : Bytes} : has b w = true ↔ w ∈ b.map (·.name) := by
  simp [has]
theorem find_of_mem {b : Book} (nd : (b.map (·.name)).Nodup) {d : Def} (h : d ∈ b) : (b.find? fun x => x.name == d.name) = some d := by
  induction b with
  | nil => simp at h
  | cons x r ih =>
    simp only [List.map_cons, List.nodup_cons] at nd
    rcases List.mem_cons.mp h with rfl | h
    · simp
    · have hne : x.name ≠ d.name := fun q => nd.1 (q ▸ List.mem_map.mpr ⟨d, h, rfl⟩)
      rw [List.find?_cons]
      simp only [beq_eq_false_iff_ne.mpr hne]
      exact ih nd.2 h
theorem find_none {b : Book} {w : Bytes} (h : has b w = false) : (b.find? fun x => x.name == w) = none := by
  rw [List.find?_eq_none]
  intro x hx
  simp only [has, List.any_eq_false] at h
  exact h x hx
theorem mem_of_has {b : Book} {w : Bytes} (h : has b w = true) : ∃ d ∈ b, d.name = w := by
  rw [has_iff] at h
  exact List.mem_map.mp h
theorem has_of_mem {b : Book} {d : Def} (h : d ∈ b) : has b d.name = true := has_iff.mpr (List.mem_map.mpr ⟨d, h, rfl⟩)
theorem mem_uniq {b : Book} (nd : (b.map (·.name)).Nodup) {d d' : Def} (h : d ∈ b) (h' : d' ∈ b) (e : d.name = d'.name) : d = d' := by
  have h1 := find_of_mem nd h
  have h2 := find_of_mem nd h'
  rw [e, h2] at h1
  exact (Option.some.inj h1).symm
theorem uses_mem {b : Book} (nd : (b.map (·.name)).Nodup) {d : Def} (h : d ∈ b) : uses b d.name = usesD d := by
  unfold uses usesD
  rw [find_of_mem nd h]
  obtain ⟨n, bd⟩ := d
  cases bd <;> rfl
theorem uses_none {b : Book} {w : Bytes} (h : has b w = false) : uses b w = [] := by
  unfold uses
  rw [find_none h]
def okD (d : Def) : Prop := isName d.name = true ∧ match d.body with
  | .theme l => fine l = true ∧ 1 ≤ l.length ∧ l.length ≤ THEME
  | .part e => okE e
structure Good (b : Book) : Prop where
  nd : (b.map (·.name)).Nodup
  closed : ∀ d ∈ b, ∀ w ∈ usesD d, has b w = true
  acyc : ∃ rk : Bytes → Nat, ∀ d ∈ b, ∀ w ∈ usesD d, rk w < rk d.name
  len : b.length ≤ DEFS
  ok : ∀ d ∈ b, okD d
theorem Good.nil : Good [] := ⟨by simp, by simp, ⟨fun _ => 0, by simp⟩, by simp, by simp⟩

/-! ### the order in which definitions can be entered -/
def ready (done : List Bytes) (d : Def) : Bool := !done.contains d.name && (usesD d).all done.contains
def orderP (b : Book) : Nat → List Bytes → List Bytes
  | 0, done => done
  | k + 1, done => match b.find? (ready done) with
    | none => done
    | some d => orderP b k (done ++ [d.name])
/-- each name behind those that it uses -/
def Topo (b : Book) (o : List Bytes) : Prop := ∀ (i : Nat) (w : Bytes), o[i]? = some w → ∃ d ∈ b, d.name = w ∧ ∀ u ∈ usesD d, u ∈ o.take i
theorem Topo.snoc {b : Book} {o : List Bytes} (h : Topo b o) {d : Def} (hd : d ∈ b) (hu : ∀ u ∈ usesD d, u ∈ o) : Topo b (o ++ [d.name]) := by
  intro i w hw
  by_cases c : i < o.length
  · rw [List.getElem?_append_left c] at hw
    obtain ⟨d', h1, h2, h3⟩ := h i w hw
    refine ⟨d', h1, h2, fun u q => ?_⟩
    rw [List.take_append_of_le_length (by omega)]
    exact h3 u q
  · have : i = o.length := by
      have := (List.getElem?_eq_some_iff.mp hw).1
      simp at this; omega
    subst this
    simp at hw
    subst hw
    refine ⟨d, hd, rfl, fun u q => ?_⟩
    simp [hu u q]
theorem exists_ready {b : Book} (G : Good b) {done : List Bytes} (h : ∃ d ∈ b, d.name ∉ done) : ∃ d, b.find? (ready done) = some d := by
  obtain ⟨rk, hrk⟩ := G.acyc
  have key : ∀ (n : Nat) (d : Def), d ∈ b → d.name ∉ done → rk d.name ≤ n → ∃ d ∈ b, ready done d = true := by
    intro n
    induction n with
    | zero =>
      intro d hd hn hr
      refine ⟨d, hd, ?_⟩
      have : usesD d = [] := by
        cases e : usesD d with
        | nil => rfl
        | cons u r =>
          have := hrk d hd u (by rw [e]; simp)
          omega
      simp [ready, hn, this]
    | succ n ih =>
      intro d hd hn hr
      by_cases c : (usesD d).all done.contains = true
      · refine ⟨d, hd, ?_⟩
        unfold ready
        rw [c]
        simp [hn]
      · simp only [List.all_eq_true, Classical.not_forall] at c
        obtain ⟨u, hu, hc⟩ := c
        obtain ⟨d', hd', rfl⟩ := mem_of_has (G.closed d hd u hu)
        have := hrk d hd _ hu
        exact ih d' hd' (by simpa using hc) (by omega)
  obtain ⟨d, hd, hn⟩ := h
  obtain ⟨d', h1, h2⟩ := key _ d hd hn (Nat.le_refl _)
  cases e : b.find? (ready done) with
  | some x => exact ⟨x, rfl⟩
  | none => exact absurd h2 (List.find?_eq_none.mp e d' h1)
theorem ready_spec {b : Book} {done : List Bytes} {d : Def} (h : b.find? (ready done) = some d) : d ∈ b ∧ d.name ∉ done ∧ ∀ u ∈ usesD d, u ∈ done := by
  have h1 := List.mem_of_find?_eq_some h
  have h2 := List.find?_some h
  unfold ready at h2
  simp only [Bool.and_eq_true, Bool.not_eq_true', List.all_eq_true] at h2
  exact ⟨h1, by simpa using h2.1, fun u hu => by simpa using h2.2 u hu⟩
/-- an order so far -/
structure Ord (b : Book) (o : List Bytes) : Prop where
  nd : o.Nodup
  sub : ∀ w ∈ o, has b w = true
  topo : Topo b o
theorem Ord.nil (b : Book) : Ord b [] := ⟨by simp, by simp, fun i w h => by simp at h⟩
theorem Ord.snoc {b : Book} {o : List Bytes} (O : Ord b o) {d : Def} (h : b.find? (ready o) = some d) : Ord b (o ++ [d.name]) := by
  obtain ⟨h1, h2, h3⟩ := ready_spec h
  refine ⟨?_, ?_, O.topo.snoc h1 h3⟩
  · rw [List.nodup_append]
    refine ⟨O.nd, by simp, fun a ha c hc => ?_⟩
    rw [List.mem_singleton.mp hc]
    rintro rfl
    exact h2 ha
  · intro w hw
    rcases List.mem_append.mp hw with q | q
    · exact O.sub w q
    · rw [List.mem_singleton.mp q]; exact has_of_mem h1
theorem nodup_sub_length : ∀ {o l : List Bytes}, o.Nodup → (∀ w ∈ o, w ∈ l) → o.length ≤ l.length
  | [], l, _, _ => by simp
  | x :: r, l, nd, h => by
    simp only [List.nodup_cons] at nd
    have hx := h x (by simp)
    have : r.length ≤ (l.erase x).length := nodup_sub_length nd.2 fun w hw => by
      refine (List.mem_erase_of_ne ?_).mpr (h w (List.mem_cons_of_mem _ hw))
      rintro rfl
      exact nd.1 hw
    rw [List.length_erase_of_mem hx] at this
    have := List.length_pos_of_mem hx
    simp only [List.length_cons]; omega
theorem Ord.le {b : Book} {o : List Bytes} (O : Ord b o) : o.length ≤ b.length := by
  have := nodup_sub_length (l := b.map (·.name)) O.nd fun w hw => has_iff.mp (O.sub w hw)
  simpa using this
/-- an order that is not yet whole leaves a definition out -/
theorem Ord.open {b : Book} {o : List Bytes} (nd : (b.map (·.name)).Nodup) (O : Ord b o) (h : o.length < b.length) : ∃ d ∈ b, d.name ∉ o := by
  apply Classical.byContradiction
  intro c
  have : b.length ≤ o.length := by
    have := nodup_sub_length (o := b.map (·.name)) (l := o) nd fun w hw => by
      obtain ⟨d, hd, rfl⟩ := List.mem_map.mp hw
      apply Classical.byContradiction
      intro q
      exact c ⟨d, hd, q⟩
    simpa using this
  omega
theorem Ord.all {b : Book} {o : List Bytes} (nd : (b.map (·.name)).Nodup) (O : Ord b o) (h : b.length ≤ o.length) : ∀ d ∈ b, d.name ∈ o := by
  intro d hd
  apply Classical.byContradiction
  intro c
  have : (d.name :: o).length ≤ b.length := by
    have := nodup_sub_length (o := d.name :: o) (l := b.map (·.name)) (List.nodup_cons.mpr ⟨c, O.nd⟩) fun w hw => by
      rcases List.mem_cons.mp hw with rfl | hw
      · exact List.mem_map.mpr ⟨d, hd, rfl⟩
      · exact has_iff.mp (O.sub w hw)
    simpa using this
  simp only [List.length_cons] at this
  omega
theorem orderP_ord {b : Book} (G : Good b) : ∀ (k : Nat) (o : List Bytes), Ord b o → o.length + k = b.length → Ord b (orderP b k o) ∧ (orderP b k o).length = b.length
  | 0, o, O, h => ⟨O, by simpa [orderP] using h⟩
  | k + 1, o, O, h => by
    obtain ⟨d, hd⟩ := exists_ready G (O.open G.nd (by omega))
    have : orderP b (k + 1) o = orderP b k (o ++ [d.name]) := by simp only [orderP, hd]
    rw [this]
    exact orderP_ord G k _ (O.snoc hd) (by simp; omega)
/-- the whole order -/
theorem good_order {b : Book} (G : Good b) : ∃ o, Ord b o ∧ o.length = b.length := ⟨_, orderP_ord G b.length [] (Ord.nil b) (by simp)⟩
theorem find_filter_congr {α : Type} {p q r : α → Bool} : ∀ {b : List α}, (∀ d ∈ b, (p d && q d) = r d) → (b.filter p).find? q = b.find? r
  | [], _ => rfl
  | x :: l, h => by
    have ih := find_filter_congr (b := l) fun d hd => h d (List.mem_cons_of_mem _ hd)
    have hx := h x (by simp)
    rw [List.filter_cons]
    cases hp : p x with
    | false =>
      rw [hp] at hx
      have : r x = false := by simpa using hx.symm
      rw [if_neg (by decide), ih, List.find?_cons, this]
    | true =>
      rw [hp] at hx
      have : r x = q x := by simpa using hx.symm
      rw [if_pos rfl, List.find?_cons, List.find?_cons, this]
      cases q x with
      | true => rfl
      | false => exact ih
theorem filter_filter_congr {α : Type} {p q r : α → Bool} : ∀ {b : List α}, (∀ d ∈ b, (p d && q d) = r d) → (b.filter p).filter q = b.filter r
  | [], _ => rfl
  | x :: l, h => by
    have ih := filter_filter_congr (b := l) fun d hd => h d (List.mem_cons_of_mem _ hd)
    have hx := h x (by simp)
    rw [List.filter_cons, List.filter_cons]
    cases hp : p x with
    | false =>
      rw [hp] at hx
      have : r x = false := by simpa using hx.symm
      rw [if_neg (by decide), ih, this, if_neg (by decide)]
    | true =>
      rw [hp] at hx
      have : r x = q x := by simpa using hx.symm
      rw [if_pos rfl, List.filter_cons, this, ih]
/-- the specification's order: the rest of the definitions, again and again the first that is ready -/
theorem ordered_eq {b : Book} (nd : (b.map (·.name)).Nodup) : ∀ (k : Nat) (o done : List Bytes), (∀ w, w ∈ done ↔ w ∈ o) →
    orderP b k o = o ++ (ordered k done (b.filter fun d => !o.contains d.name)).map (·.name) ∧ ∀ d ∈ ordered k done (b.filter fun d => !o.contains d.name), d ∈ b
  | 0, o, done, _ => by simp [orderP, ordered]
  | k + 1, o, done, hdo => by
    have nd' : ((b.filter fun d => !o.contains d.name).map (·.name)).Nodup := nd.sublist (List.Sublist.map _ List.filter_sublist)
    have hdc : ∀ w, done.contains w = o.contains w := fun w => by
      rw [Bool.eq_iff_iff]; simp [hdo w]
    have hall : ∀ l : List Bytes, l.all done.contains = l.all o.contains := fun l => by
      congr 1; funext w; exact hdc w
    have e1 : ((b.filter fun d => !o.contains d.name).find? fun d => (uses (b.filter fun d => !o.contains d.name) d.name).all done.contains || (match d.body with
        | .theme _ => true
        | .part e => (names e).all done.contains)) = b.find? (ready o) := by
      refine find_filter_congr fun d hd => ?_
      by_cases c : o.contains d.name = true
      · have c' : d.name ∈ o := by simpa using c
        simp [ready, c']
      · have c' : (!o.contains d.name) = true := by simpa using c
        have hm : d ∈ b.filter fun d => !o.contains d.name := List.mem_filter.mpr ⟨hd, c'⟩
        rw [uses_mem nd' hm]
        unfold ready
        rw [c', hall]
        obtain ⟨n, bd⟩ := d
        cases bd with
        | theme l => simp [usesD]
        | part e =>
          have : (names e).all done.contains = (once (names e)).all o.contains := by
            rw [hall, Bool.eq_iff_iff]
            simp only [List.all_eq_true]
            exact ⟨fun h w hw => h w (mem_once.mp hw), fun h w hw => h w (mem_once.mpr hw)⟩
          simp only [usesD, this, Bool.or_self, Bool.true_and]
    have e2 : ordered (k + 1) done (b.filter fun d => !o.contains d.name) = match b.find? (ready o) with
        | none => []
        | some d => d :: ordered k (d.name :: done) ((b.filter fun d => !o.contains d.name).filter fun x => x.name != d.name) := by
      rw [← e1]; rfl
    rw [e2]
    simp only [orderP]
    cases hf : b.find? (ready o) with
    | none => simp
    | some d =>
      obtain ⟨h1, h2, h3⟩ := ready_spec hf
      have e3 : ((b.filter fun d => !o.contains d.name).filter fun x => x.name != d.name) = b.filter fun x => !(o ++ [d.name]).contains x.name := by
        refine filter_filter_congr fun x _ => ?_
        rw [Bool.eq_iff_iff]
        simp
      obtain ⟨i1, i2⟩ := ordered_eq nd k (o ++ [d.name]) (d.name :: done) fun w => by
        rw [List.mem_cons, List.mem_append, List.mem_singleton, hdo w]
        exact or_comm
      simp only
      rw [e3]
      refine ⟨?_, fun x hx => ?_⟩
      · rw [i1]; simp
      · rcases List.mem_cons.mp hx with rfl | hx
        · exact h1
        · exact i2 x hx

/-! ### lines -/
theorem value_congr {g g' : Bytes → Option Line} : ∀ (e : Expr), (∀ w ∈ names e, g w = g' w) → value g e = value g' e := by
  intro e
  induction e with
  | name w => intro h; exact h w (by simp [names])
  | rest n => intro _; rfl
  | join a b iha ihb =>
    intro h
    simp only [value]
    rw [iha fun w hw => h w (by simp [names, hw]), ihb fun w hw => h w (by simp [names, hw])]
  | up a n ih | down a n ih | over a ih | back a ih | long a n ih | short a n ih | times a n ih =>
    intro h
    simp only [value]
    rw [ih h]
def lineD (g : Bytes → Option Line) (d : Def) : Option Line := match d.body with
  | .theme l => some l
  | .part e => value g e
theorem mem_usesD {d : Def} {e : Expr} (h : d.body = .part e) {w : Bytes} : w ∈ usesD d ↔ w ∈ names e := by
  unfold usesD
  rw [h]
  exact mem_once
theorem lineD_congr {g g' : Bytes → Option Line} {d : Def} (h : ∀ w ∈ usesD d, g w = g' w) : lineD g d = lineD g' d := by
  unfold lineD
  cases hb : d.body with
  | theme l => rfl
  | part e => exact value_congr e fun w hw => h w ((mem_usesD hb).mpr hw)
theorem unroll_succ {b : Book} (nd : (b.map (·.name)).Nodup) {d : Def} (h : d ∈ b) (k : Nat) : unroll b (k + 1) d.name = lineD (unroll b k) d := by
  simp only [unroll]
  rw [find_of_mem nd h]
  rfl
theorem unroll_none {b : Book} {w : Bytes} (h : has b w = false) (k : Nat) : unroll b k w = none := by
  cases k with
  | zero => rfl
  | succ k =>
    simp only [unroll]
    rw [find_none h]
theorem topo_unroll {b : Book} (nd : (b.map (·.name)).Nodup) {o : List Bytes} (T : Topo b o) : ∀ (n i : Nat) (w : Bytes), i < n → o[i]? = some w → ∀ k, i + 1 ≤ k → unroll b k w = unroll b (i + 1) w
  | 0, i, w, hn, _, _, _ => by omega
  | n + 1, i, w, hn, hw, k, hk => by
    obtain ⟨d, hd, rfl, hu⟩ := T i w hw
    obtain ⟨k', rfl⟩ : ∃ k', k = k' + 1 := ⟨k - 1, by omega⟩
    rw [unroll_succ nd hd, unroll_succ nd hd]
    refine lineD_congr fun u hu' => ?_
    have hm := hu u hu'
    obtain ⟨j, hj⟩ := List.mem_iff_getElem?.mp hm
    have hji : j < i := by
      have := (List.getElem?_eq_some_iff.mp hj).1
      rw [List.length_take] at this
      omega
    rw [List.getElem?_take] at hj
    rw [if_pos hji] at hj
    rw [topo_unroll nd T n j u (by omega) hj k' (by omega), topo_unroll nd T n j u (by omega) hj i (by omega)]
theorem line_fix {b : Book} (G : Good b) {d : Def} (h : d ∈ b) : line b d.name = lineD (line b) d := by
  obtain ⟨o, O, ol⟩ := good_order G
  have hl := G.len
  show unroll b (DEFS + 1) d.name = _
  rw [unroll_succ G.nd h]
  refine lineD_congr fun u hu => ?_
  obtain ⟨d', hd', rfl⟩ := mem_of_has (G.closed d h u hu)
  obtain ⟨j, hj⟩ := List.mem_iff_getElem?.mp (O.all G.nd (by omega) d' hd')
  have hjl := (List.getElem?_eq_some_iff.mp hj).1
  show unroll b DEFS d'.name = unroll b (DEFS + 1) d'.name
  have : DEFS = 12 := rfl
  rw [topo_unroll G.nd O.topo (j + 1) j _ (by omega) hj DEFS (by omega), topo_unroll G.nd O.topo (j + 1) j _ (by omega) hj (DEFS + 1) (by omega)]
theorem line_none {b : Book} {w : Bytes} (h : has b w = false) : line b w = none := unroll_none h _
/-- a name's line stays when another one, that it does not use, goes -/
theorem unroll_drop {b : Book} (nd : (b.map (·.name)).Nodup) {n : Bytes} (hu : ∀ d ∈ b, n ∉ usesD d) : ∀ (k : Nat) (w : Bytes), w ≠ n → unroll (b.filter fun d => d.name != n) k w = unroll b k w
  | 0, _, _ => rfl
  | k + 1, w, hw => by
    have nd' : ((b.filter fun d => d.name != n).map (·.name)).Nodup := nd.sublist (List.Sublist.map _ List.filter_sublist)
    by_cases c : has b w = true
    · obtain ⟨d, hd, rfl⟩ := mem_of_has c
      have hd' : d ∈ b.filter fun d => d.name != n := List.mem_filter.mpr ⟨hd, by simpa using hw⟩
      rw [unroll_succ nd' hd', unroll_succ nd hd]
      exact lineD_congr fun u hu' => unroll_drop nd hu k u fun e => hu d hd (e ▸ hu')
    · have c : has b w = false := by simpa using c
      have c' : has (b.filter fun d => d.name != n) w = false := by
        unfold has at c ⊢
        rw [List.any_eq_false] at c ⊢
        intro x hx
        exact c x (List.mem_filter.mp hx).1
      rw [unroll_none c, unroll_none c']

/-! ### what is reached -/
inductive Reach (b : Book) : Bytes → Bytes → Prop where
  | refl (w : Bytes) : Reach b w w
  | step {w u v : Bytes} : u ∈ uses b w → Reach b u v → Reach b w v
theorem reach_closed {b : Book} {F : Bytes → Prop} (h : ∀ w, F w → ∀ u ∈ uses b w, F u) {w v : Bytes} (r : Reach b w v) : F w → F v := by
  induction r with
  | refl w => exact id
  | step hu _ ih => exact fun hw => ih (h _ hw _ hu)
theorem mem_defined {b : Book} {d' x : Def} (h : x ∈ defined b d') : x = d' ∨ (x ∈ b ∧ x.name ≠ d'.name) := by
  unfold defined at h
  split at h
  · obtain ⟨y, hy, e⟩ := List.mem_map.mp h
    split at e
    · exact .inl e.symm
    · subst e; exact .inr ⟨hy, by assumption⟩
  · rename_i c
    rcases List.mem_append.mp h with h | h
    · refine .inr ⟨h, fun e => c ?_⟩
      rw [List.any_eq_true]
      exact ⟨x, h, by simp [e]⟩
    · exact .inl (List.mem_singleton.mp h)
theorem names_defined (b : Book) (d' : Def) : (defined b d').map (·.name) = if has b d'.name then b.map (·.name) else b.map (·.name) ++ [d'.name] := by
  unfold defined has
  split
  · rw [List.map_map]
    apply List.map_congr_left
    intro x _
    show (if x.name = d'.name then d' else x).name = x.name
    split
    · rename_i e; exact e.symm
    · rfl
  · simp
theorem defined_nd {b : Book} (nd : (b.map (·.name)).Nodup) (d' : Def) : ((defined b d').map (·.name)).Nodup := by
  rw [names_defined]
  split
  · exact nd
  · rename_i c
    rw [List.nodup_append]
    refine ⟨nd, by simp, fun a ha c' hc => ?_⟩
    rw [List.mem_singleton.mp hc]
    rintro rfl
    exact c (has_iff.mpr ha)
theorem mem_defined_self (b : Book) (d' : Def) : d' ∈ defined b d' := by
  unfold defined
  split
  · rename_i c
    rw [List.any_eq_true] at c
    obtain ⟨x, hx, e⟩ := c
    have e : x.name = d'.name := by simpa using e
    exact List.mem_map.mpr ⟨x, hx, by rw [if_pos e]⟩
  · simp
theorem mem_defined_other {b : Book} {d' x : Def} (h : x ∈ b) (ne : x.name ≠ d'.name) : x ∈ defined b d' := by
  unfold defined
  split
  · exact List.mem_map.mpr ⟨x, h, by rw [if_neg ne]⟩
  · exact List.mem_append_left _ h
theorem has_defined (b : Book) (d' : Def) (w : Bytes) : has (defined b d') w = (has b w || w == d'.name) := by
  rw [Bool.eq_iff_iff, has_iff, names_defined]
  split
  · rename_i c
    rw [Bool.or_eq_true, beq_iff_eq, has_iff]
    constructor
    · exact .inl
    · rintro (h | rfl)
      · exact h
      · exact has_iff.mp c
  · rw [Bool.or_eq_true, beq_iff_eq, has_iff, List.mem_append, List.mem_singleton]
theorem uses_defined {b : Book} (nd : (b.map (·.name)).Nodup) {d' : Def} {w : Bytes} (h : w ≠ d'.name) : uses (defined b d') w = uses b w := by
  by_cases c : has b w = true
  · obtain ⟨d, hd, rfl⟩ := mem_of_has c
    rw [uses_mem nd hd, uses_mem (defined_nd nd d') (mem_defined_other hd h)]
  · have c : has b w = false := by simpa using c
    have c' : has (defined b d') w = false := by rw [has_defined, c]; simpa using h
    rw [uses_none c, uses_none c']
theorem ring_reach {b : Book} (nd : (b.map (·.name)).Nodup) {d' : Def} : ∀ (k : Nat) (l : List Bytes), ring (defined b d') d'.name k l = true → ∃ u ∈ l, Reach b u d'.name
  | 0, _, h => by simp [ring] at h
  | k + 1, l, h => by
    simp only [ring, Bool.or_eq_true] at h
    rcases h with h | h
    · exact ⟨d'.name, by simpa using h, .refl _⟩
    · obtain ⟨v, hv, r⟩ := ring_reach nd k _ h
      obtain ⟨u, hu, hvu⟩ := List.mem_flatMap.mp hv
      by_cases c : u = d'.name
      · subst c; exact ⟨_, hu, .refl _⟩
      · rw [uses_defined nd c] at hvu
        exact ⟨u, hu, .step hvu r⟩
theorem reach_ring {b : Book} (nd : (b.map (·.name)).Nodup) {o : List Bytes} (T : Topo b o) {d' : Def} : ∀ (n i : Nat) (u : Bytes), i < n → o[i]? = some u → Reach b u d'.name → ∀ k, i < k → ∀ l, u ∈ l → ring (defined b d') d'.name k l = true
  | 0, i, u, hn, _, _, _, _, _, _ => by omega
  | n + 1, i, u, hn, hu, r, k, hk, l, hl => by
    obtain ⟨k', rfl⟩ : ∃ k', k = k' + 1 := ⟨k - 1, by omega⟩
    simp only [ring, Bool.or_eq_true]
    by_cases c : u = d'.name
    · subst c; exact .inl (by simpa using hl)
    · refine .inr ?_
      cases r with
      | refl => exact absurd rfl c
      | step hv r' =>
        obtain ⟨d, hd, rfl, hud⟩ := T i u hu
        rename_i v
        have hv' := hv
        rw [uses_mem nd hd] at hv'
        have hm := hud v hv'
        obtain ⟨j, hj⟩ := List.mem_iff_getElem?.mp hm
        have hji : j < i := by
          have := (List.getElem?_eq_some_iff.mp hj).1
          rw [List.length_take] at this
          omega
        rw [List.getElem?_take, if_pos hji] at hj
        refine reach_ring nd T n j v (by omega) hj r' k' (by omega) _ (List.mem_flatMap.mpr ⟨d.name, hl, ?_⟩)
        rw [uses_defined nd c]
        exact hv
theorem ring_iff {b : Book} (G : Good b) (d' : Def) (l : List Bytes) (hl : ∀ w ∈ l, has b w = true) : ring (defined b d') d'.name (DEFS + 1) l = true ↔ ∃ u ∈ l, Reach b u d'.name := by
  refine ⟨ring_reach G.nd _ l, ?_⟩
  rintro ⟨u, hu, r⟩
  obtain ⟨o, O, ol⟩ := good_order G
  obtain ⟨d, hd, rfl⟩ := mem_of_has (hl u hu)
  obtain ⟨j, hj⟩ := List.mem_iff_getElem?.mp (O.all G.nd (by omega) d hd)
  have hjl := (List.getElem?_eq_some_iff.mp hj).1
  have h12 := G.len
  exact reach_ring G.nd O.topo (j + 1) j _ (by omega) hj r (DEFS + 1) (by omega) l hu
theorem rank_le {rk : Bytes → Nat} : ∀ {l : List Bytes} {w : Bytes}, w ∈ l → rk w ≤ (l.map rk).sum
  | x :: l, w, h => by
    simp only [List.map_cons, List.sum_cons]
    rcases List.mem_cons.mp h with rfl | h
    · omega
    · have := rank_le (rk := rk) h
      omega
theorem Good.define {b : Book} (G : Good b) (d' : Def) (ok : okD d') (cl : ∀ w ∈ usesD d', has b w = true) (nr : ∀ w ∈ usesD d', ¬ Reach b w d'.name) (ln : has b d'.name = true ∨ b.length < DEFS) : Good (defined b d') := by
  have nd' := defined_nd G.nd d'
  refine ⟨nd', fun d hd w hw => ?_, ?_, ?_, fun d hd => ?_⟩
  · rw [has_defined]
    rcases mem_defined hd with rfl | ⟨hd, _⟩
    · rw [cl w hw]; rfl
    · rw [G.closed d hd w hw]; rfl
  · obtain ⟨rk, hrk⟩ := G.acyc
    have : ∃ rk' : Bytes → Nat, (∀ w, Reach b w d'.name → rk' w = rk w + ((usesD d').map rk).sum + 1) ∧ (∀ w, ¬ Reach b w d'.name → rk' w = rk w) := by
      have := Classical.propDecidable
      refine ⟨fun w => if Reach b w d'.name then rk w + ((usesD d').map rk).sum + 1 else rk w, fun w h => if_pos h, fun w h => if_neg h⟩
    obtain ⟨rk', h1, h2⟩ := this
    refine ⟨rk', fun d hd w hw => ?_⟩
    rcases mem_defined hd with rfl | ⟨hd, ne⟩
    · rw [h2 w (nr w hw), h1 _ (.refl _)]
      have := rank_le (rk := rk) hw
      omega
    · have hlt := hrk d hd w hw
      by_cases c : Reach b w d'.name
      · have c' : Reach b d.name d'.name := .step (by rw [uses_mem G.nd hd]; exact hw) c
        rw [h1 w c, h1 _ c']
        omega
      · rw [h2 w c]
        by_cases c' : Reach b d.name d'.name
        · rw [h1 _ c']; omega
        · rw [h2 _ c']; exact hlt
  · have : (defined b d').length = ((defined b d').map (·.name)).length := by simp
    rw [this, names_defined]
    have hl := G.len
    split
    · simpa using hl
    · rename_i c
      have := ln.resolve_left c
      simp only [List.length_append, List.length_map, List.length_singleton]
      omega
  · rcases mem_defined hd with rfl | ⟨hd, _⟩
    · exact ok
    · exact G.ok d hd
theorem Good.drop {b : Book} (G : Good b) {n : Bytes} (hu : ∀ d ∈ b, n ∉ usesD d) : Good (b.filter fun d => d.name != n) := by
  refine ⟨G.nd.sublist (List.Sublist.map _ List.filter_sublist), fun d hd w hw => ?_, ?_, Nat.le_trans (List.length_filter_le _ _) G.len, fun d hd => G.ok d (List.mem_filter.mp hd).1⟩
  · have hd := (List.mem_filter.mp hd).1
    obtain ⟨d', hd', rfl⟩ := mem_of_has (G.closed d hd w hw)
    refine has_of_mem (List.mem_filter.mpr ⟨hd', ?_⟩)
    have : d'.name ≠ n := fun e => hu d hd (e ▸ hw)
    simpa using this
  · obtain ⟨rk, hrk⟩ := G.acyc
    exact ⟨rk, fun d hd w hw => hrk d (List.mem_filter.mp hd).1 w hw⟩
theorem users_nil {b : Book} (nd : (b.map (·.name)).Nodup) {n : Bytes} (h : users b n = []) : ∀ d ∈ b, n ∉ usesD d := by
  intro d hd hn
  have : d.name ∈ users b n := List.mem_map.mpr ⟨d, List.mem_filter.mpr ⟨hd, by rw [uses_mem nd hd]; simpa using hn⟩, rfl⟩
  rw [h] at this
  cases this
end Pb
end
section
namespace Pb
open Cp12
/-! ### commands by their words -/
def changeP : List Bytes → Option Cmd
  | w :: n :: x :: r => if isName n = false then none else if w = ascii "theme" then (if THEME < (x :: r).length then none else (allEvents (x :: r)).map fun l => .theme n l) else (readW (x :: r)).map fun e => .part n e
  | _ => none
def cmdP : List Bytes → Option Cmd
  | [] => none
  | w :: args => if w = ascii "theme" ∨ w = ascii "part" then changeP (w :: args) else match args with
    | [] => if w = ascii "list" then some .list else if w = ascii "undo" then some .undo else if w = ascii "dump" then some .dump else none
    | [n] => if isName n = false then none else if w = ascii "drop" then some (.drop n) else if w = ascii "show" then some (.show n) else if w = ascii "long" then some (.long n) else if w = ascii "uses" then some (.uses n) else if w = ascii "users" then some (.users n) else none
    | [n, x] => if isName n = false then none else if w = ascii "at" then (num? 0 9999 x).map fun k => .at_ n k else if w = ascii "same" then (if isName x then some (.same n x) else none) else none
    | _ => none
theorem parted_ne' (c : Nat) (u : Bytes) : parted c u ≠ [] := by
  cases u with
  | nil => simp [parted]
  | cons y v =>
    simp only [parted]
    split
    · simp
    · split <;> simp
theorem parted_free (c : Nat) : ∀ (u : Bytes), ∀ w ∈ parted c u, c ∉ w
  | [], w, h => by simp [parted] at h; subst h; simp
  | x :: u, w, h => by
    have ih := parted_free c u
    by_cases e : x = c
    · subst e
      simp only [parted, if_true, List.mem_cons] at h
      rcases h with rfl | h
      · simp
      · exact ih w h
    · simp only [parted, if_neg e] at h
      cases q : parted c u with
      | nil => exact absurd q (parted_ne' c u)
      | cons v r =>
        rw [q] at h ih
        rcases List.mem_cons.mp h with rfl | h
        · intro hm
          rcases List.mem_cons.mp hm with rfl | hm
          · exact e rfl
          · exact ih v (by simp) hm
        · exact ih w (by simp [h])
theorem parted_none {c : Nat} : ∀ {w : Bytes}, c ∉ w → parted c w = [w]
  | [], _ => rfl
  | x :: w, h => by
    have hx : x ≠ c := fun e => h (by simp [e])
    have ih := parted_none (c := c) (w := w) fun m => h (List.mem_cons_of_mem _ m)
    simp [parted, hx, ih]
theorem parted_app {c : Nat} : ∀ {w : Bytes} (r : Bytes), c ∉ w → parted c (w ++ c :: r) = w :: parted c r
  | [], r, _ => by simp [parted]
  | x :: w, r, h => by
    have hx : x ≠ c := fun e => h (by simp [e])
    have ih := parted_app (c := c) (w := w) r fun m => h (List.mem_cons_of_mem _ m)
    simp [parted, hx, ih]
theorem parted_joined {c : Nat} : ∀ {ws : List Bytes}, ws ≠ [] → (∀ w ∈ ws, c ∉ w) → parted c (joined c ws) = ws
  | [], h, _ => absurd rfl h
  | [w], _, h => by simp only [joined]; exact parted_none (h w (by simp))
  | w :: x :: r, _, h => by
    show parted c (w ++ c :: joined c (x :: r)) = _
    rw [parted_app _ (h w (by simp)), parted_joined (by simp) fun u hu => h u (List.mem_cons_of_mem _ hu)]
theorem read_joined {ws : List Bytes} (hne : ws ≠ []) (hf : ∀ w ∈ ws, 32 ∉ w) (he : ∀ w ∈ ws, w ≠ []) : Cp12.read (joined 32 ws) = readW ws := by
  have ht : tokens (joined 32 ws) = ws := by
    unfold tokens
    rw [parted_joined hne hf, List.filter_eq_self]
    intro w hw
    have := he w hw
    cases w with
    | nil => exact absurd rfl this
    | cons _ _ => rfl
  unfold Cp12.read readW
  rw [ht]
  rfl
theorem toks_empty : ∀ (n : Nat) (ws : List Bytes), ws.length ≤ n → [] ∈ ws → toks? ws = none
  | _, [], _, h => by cases h
  | 0, _ :: _, hn, _ => by simp at hn
  | n + 1, w :: r, hn, h => by
    simp only [List.length_cons] at hn
    cases e : nop? w with
    | none =>
      rw [toks_plain r e]
      rcases List.mem_cons.mp h with h | h
      · subst h; rfl
      · rw [toks_empty n r (by omega) h]
        cases tok1? w <;> rfl
    | some o =>
      cases r with
      | nil => exact toks_num1 e
      | cons v s =>
        rw [toks_num s e]
        rcases List.mem_cons.mp h with h | h
        · subst h; cases e
        · rcases List.mem_cons.mp h with h | h
          · subst h; rfl
          · simp only [List.length_cons] at hn
            rw [toks_empty n s (by omega) h]
            cases num? o.lo o.hi v <;> rfl
theorem readW_empty {ws : List Bytes} (h : [] ∈ ws) : readW ws = none := by
  have q := order_read ws
  rw [toks_empty _ ws (Nat.le_refl _) h] at q
  cases hr : readW ws with
  | none => rfl
  | some e => rw [hr] at q; cases q
theorem allEvents_empty : ∀ {ws : List Bytes}, [] ∈ ws → allEvents ws = none
  | w :: r, h => by
    rcases List.mem_cons.mp h with h | h
    · subst h; rfl
    · simp only [allEvents]
      rw [allEvents_empty h]
      cases event? w <;> rfl
theorem cmd_eq (t : Bytes) : cmd? t = cmdP (parted 32 t) := by
  have hfree := parted_free 32 t
  unfold cmd?
  simp only
  generalize parted 32 t = ws at hfree
  by_cases c : ws.any (fun w => w.isEmpty) = true
  · rw [if_pos c]
    have hm : [] ∈ ws := by
      rw [List.any_eq_true] at c
      obtain ⟨w, hw, e⟩ := c
      cases w with
      | nil => exact hw
      | cons _ _ => cases e
    symm
    match ws, hm with
    | [w], hm =>
      obtain rfl : w = [] := (List.mem_singleton.mp hm).symm
      decide
    | [w, n], hm =>
      simp only [cmdP]
      split
      · rfl
      · rcases List.mem_cons.mp hm with h | h
        · subst h
          rename_i c2
          split
          · rfl
          · simp (decide := true) only [if_false]
        · obtain rfl : n = [] := (List.mem_singleton.mp h).symm
          rfl
    | w :: n :: x :: r, hm =>
      rcases List.mem_cons.mp hm with h | h
      · subst h
        have e : cmdP ([] :: n :: x :: r) = match (n :: x :: r) with
            | [] => none
            | [n] => none
            | [n, x] => if isName n = false then none else if ([] : Bytes) = ascii "at" then (num? 0 9999 x).map fun k => .at_ n k else if ([] : Bytes) = ascii "same" then (if isName x then some (.same n x) else none) else none
            | _ => none := by
          simp only [cmdP]
          rw [if_neg (by decide)]
          cases r <;> rfl
        rw [e]
        cases r with
        | nil =>
          simp only
          rw [if_neg (show ¬ ([] : Bytes) = ascii "at" by decide), if_neg (show ¬ ([] : Bytes) = ascii "same" by decide)]
          split <;> rfl
        | cons _ _ => rfl
      · rcases List.mem_cons.mp h with h | h
        · subst h
          simp only [cmdP]
          split
          · rfl
          · cases r <;> rfl
        · simp only [cmdP]
          split
          · simp only [changeP]
            split
            · rfl
            · split
              · split
                · rfl
                · rw [allEvents_empty h]; rfl
              · rw [readW_empty h]; rfl
          · cases r with
            | nil =>
              obtain rfl : x = [] := (List.mem_singleton.mp h).symm
              simp only
              split
              · rfl
              · split
                · rfl
                · split <;> rfl
            | cons _ _ => rfl
  · rw [if_neg c]
    have hne : ∀ w ∈ ws, w ≠ [] := by
      intro w hw e
      subst e
      exact c (List.any_eq_true.mpr ⟨_, hw, rfl⟩)
    match ws, hfree, hne with
    | [], _, _ => rfl
    | [w], _, _ =>
      simp only [cmdP]
      by_cases h : w = ascii "theme" ∨ w = ascii "part"
      · rw [if_pos h]
        rcases h with rfl | rfl <;> simp (decide := true) only [changeP, if_false]
      · rw [if_neg h]
    | [w, n], _, _ =>
      simp only [cmdP]
      by_cases h : w = ascii "theme" ∨ w = ascii "part"
      · rw [if_pos h]
        rcases h with rfl | rfl <;> simp (decide := true) only [changeP, if_false, ite_self]
      · rw [if_neg h]
    | w :: n :: x :: r, hfree, hne =>
      have hr : Cp12.read (joined 32 (x :: r)) = readW (x :: r) := read_joined (by simp) (fun u hu => hfree u (List.mem_cons_of_mem _ (List.mem_cons_of_mem _ hu))) (fun u hu => hne u (List.mem_cons_of_mem _ (List.mem_cons_of_mem _ hu)))
      simp only [cmdP, hr]
      by_cases c1 : w = ascii "theme"
      · rw [if_pos c1, if_pos (show w = ascii "theme" ∨ w = ascii "part" from .inl c1)]
        simp only [changeP, if_pos c1]
      · by_cases c2 : w = ascii "part"
        · rw [if_neg c1, if_pos c2, if_pos (show w = ascii "theme" ∨ w = ascii "part" from .inr c2)]
          simp only [changeP, if_neg c1]
        · rw [if_neg c1, if_neg c2, if_neg (show ¬ (w = ascii "theme" ∨ w = ascii "part") from fun h => h.elim c1 c2)]
          cases r with
          | nil => rfl
          | cons y s =>
            simp only
            split
            · rfl
            · split
              · rfl
              · split <;> rfl
/-! ### what a command is made of -/
def okC : Cmd → Prop
  | .theme n l => isName n = true ∧ fine l = true ∧ 1 ≤ l.length ∧ l.length ≤ THEME
  | .part n e => isName n = true ∧ okE e
  | _ => True
theorem event_fine {w : Bytes} {v : Event} (h : event? w = some v) : fine [v] = true := by
  have hl := event_len h
  have hn : (match v.n with | none => true | some n => isNote n) = true := by
    unfold event? at h
    split at h
    · rename_i a b _
      cases hnum : num? 1 LENGTH b with
      | none => rw [hnum] at h; cases h
      | some n =>
        rw [hnum] at h
        simp only [Option.bind_some] at h
        split at h
        · cases h
        · split at h
          · split at h
            · cases h; rfl
            · cases h
          · split at h
            · cases h
            · rename_i i hi
              split at h
              · cases h
              · rename_i o ho
                split at h
                · cases h
                · rename_i hd
                  obtain ⟨s, hs, rfl⟩ := Option.map_eq_some_iff.mp h
                  have hi7 : i < 7 := by
                    obtain ⟨h1, _⟩ := List.findIdx?_eq_some_iff_getElem.mp hi
                    exact h1
                  have hdig : 48 ≤ o ∧ o ≤ 57 := by
                    have : digit o = true := by simpa using hd
                    simpa only [digit, Bool.and_eq_true, decide_eq_true_eq] using this
                  have hsm := List.mem_of_find?_eq_some hs
                  have hs2 : -2 ≤ s.2 ∧ s.2 ≤ 2 := by
                    have e : signs = [(ascii "bb", -2), (ascii "b", -1), (ascii "#", 1), (ascii "x", 2), ([], 0)] := rfl
                    rw [e] at hsm
                    simp only [List.mem_cons, List.not_mem_nil, or_false] at hsm
                    rcases hsm with rfl | rfl | rfl | rfl | rfl <;> decide
                  show isNote ⟨7 * ((o - 48 : Nat) : Int) + (i : Int), s.2⟩ = true
                  simp only [isNote, Bool.and_eq_true, decide_eq_true_eq]
                  omega
    · cases h
  rw [fine_iff]
  refine ⟨by simp [MOST], fun e he => ?_⟩
  rw [List.mem_singleton.mp he]
  exact ⟨hn, hl⟩
theorem allEvents_ok : ∀ {ws : List Bytes} {l : Line}, allEvents ws = some l → l.length = ws.length ∧ ∀ e ∈ l, fine [e] = true
  | [], l, h => by cases h; simp
  | w :: r, l, h => by
    simp only [allEvents] at h
    cases e1 : event? w with
    | none => rw [e1] at h; cases h
    | some v =>
      rw [e1] at h
      cases e2 : allEvents r with
      | none => rw [e2] at h; cases h
      | some m =>
        rw [e2] at h
        cases h
        obtain ⟨h1, h2⟩ := allEvents_ok e2
        refine ⟨by simp [h1], fun e he => ?_⟩
        rcases List.mem_cons.mp he with rfl | he
        · exact event_fine e1
        · exact h2 e he
theorem fine_of {l : Line} (h : ∀ e ∈ l, fine [e] = true) (hl : l.length ≤ MOST) : fine l = true := by
  rw [fine_iff]
  refine ⟨hl, fun e he => ?_⟩
  exact (fine_iff.mp (h e he)).2 e (by simp)
theorem changeP_ok {ws : List Bytes} {c : Cmd} (h : changeP ws = some c) : okC c := by
  unfold changeP at h
  split at h
  · rename_i w n x r
    split at h
    · cases h
    · rename_i hn
      have hn : isName n = true := by simpa using hn
      split at h
      · split at h
        · cases h
        · rename_i hl
          obtain ⟨l, e, rfl⟩ := Option.map_eq_some_iff.mp h
          obtain ⟨h1, h2⟩ := allEvents_ok e
          have hT : THEME = 32 := rfl
          have hM : MOST = 200 := rfl
          simp only [List.length_cons] at h1 hl
          exact ⟨hn, fine_of h2 (by omega), by omega, by omega⟩
      · obtain ⟨e, he, rfl⟩ := Option.map_eq_some_iff.mp h
        exact ⟨hn, readW_ok he⟩
  · cases h
theorem cmdP_ok {ws : List Bytes} {c : Cmd} (h : cmdP ws = some c) : okC c := by
  unfold cmdP at h
  split at h
  · cases h
  · split at h
    · exact changeP_ok h
    · split at h
      · split at h
        · cases h; trivial
        split at h
        · cases h; trivial
        split at h
        · cases h; trivial
        · cases h
      · split at h
        · cases h
        split at h
        · cases h; trivial
        split at h
        · cases h; trivial
        split at h
        · cases h; trivial
        split at h
        · cases h; trivial
        split at h
        · cases h; trivial
        · cases h
      · split at h
        · cases h
        split at h
        · obtain ⟨k, _, rfl⟩ := Option.map_eq_some_iff.mp h; trivial
        split at h
        · split at h
          · cases h; trivial
          · cases h
        · cases h
      · cases h
theorem mrun_len : ∀ (ts : List Tok) (m : Mc) (us : List Tok), mrun m ts = some us → us.length ≤ m.st.length + ts.length + 1
  | [], m, us, h => by
    simp only [mrun, mend] at h
    split at h
    · cases h
    · cases h
      rw [List.length_append]
      have : (pend (m.wt.headD false)).length ≤ 1 := by cases m.wt.headD false <;> simp [pend]
      simp only [List.length_nil]; omega
  | t :: r, m, us, h => by
    simp only [mrun] at h
    cases e : mstep m t with
    | none => rw [e] at h; cases h
    | some m' =>
      rw [e] at h
      have hm : m' = mnext m t := by
        unfold mstep at e
        split at e
        · cases e
        · split at e
          · cases e
          · cases e; rfl
      subst hm
      have ih := mrun_len r _ us h
      have hl : (mnext m t).st.length ≤ m.st.length + 1 := by
        have hp : ∀ b, (pend b).length ≤ 1 := fun b => by cases b <;> simp [pend]
        cases t <;> simp only [mnext, List.length_append, List.length_singleton] <;> first | omega | (have := hp (m.wt.headD false); omega)
      simp only [List.length_cons]; omega
end Pb
end
section
namespace Pb
open Cp12
/-! ### the signs that commands have -/
def csl : Bytes := ascii " #()+:0123456789abcdefghijklmnopqrstuvwxyz"
def sgn (w : Bytes) : Prop := ∀ x ∈ w, x ∈ csl
def sub (n : Nat) : Nat := if csl.contains n then n else 63
theorem csl_small : ∀ x, x < 123 → small x = true → x ∈ csl := by decide +kernel
theorem csl_digit : ∀ x, x < 123 → digit x = true → x ∈ csl := by decide +kernel
theorem sgn_small {w : Bytes} (h : w.all small = true) : sgn w := fun x hx => by
  have := List.all_eq_true.mp h x hx
  refine csl_small x ?_ this
  simp only [small, Bool.and_eq_true, decide_eq_true_eq] at this
  omega
theorem sgn_digit {w : Bytes} (h : w.all digit = true) : sgn w := fun x hx => by
  have := List.all_eq_true.mp h x hx
  refine csl_digit x ?_ this
  simp only [digit, Bool.and_eq_true, decide_eq_true_eq] at this
  omega
theorem sgn_name {w : Bytes} (h : isName w = true) : sgn w := by
  simp only [isName, Bool.and_eq_true] at h
  exact sgn_small h.2.2.1
theorem sgn_num {lo hi : Nat} {w : Bytes} {n : Nat} (h : num? lo hi w = some n) : sgn w := by
  unfold num? at h
  split at h
  · cases h
  · rename_i c
    refine sgn_digit ?_
    cases e : w.all digit with
    | true => rfl
    | false => exact absurd (.inr (.inr (.inl e))) c
theorem parted_in {c : Nat} : ∀ {t : Bytes} {x : Nat}, x ∈ t → x = c ∨ ∃ w ∈ parted c t, x ∈ w
  | y :: t, x, h => by
    by_cases e : y = c
    · rcases List.mem_cons.mp h with rfl | h
      · exact .inl e
      · rcases parted_in (c := c) h with h | ⟨w, hw, hx⟩
        · exact .inl h
        · exact .inr ⟨w, by simp [parted, e, hw], hx⟩
    · cases q : parted c t with
      | nil => exact absurd q (parted_ne' c t)
      | cons v r =>
        have ep : parted c (y :: t) = (y :: v) :: r := by simp [parted, e, q]
        rw [ep]
        rcases List.mem_cons.mp h with rfl | h
        · exact .inr ⟨x :: v, by simp, by simp⟩
        · rcases parted_in (c := c) h with h | ⟨w, hw, hx⟩
          · exact .inl h
          · rw [q] at hw
            rcases List.mem_cons.mp hw with rfl | hw
            · exact .inr ⟨y :: w, by simp, List.mem_cons_of_mem _ hx⟩
            · exact .inr ⟨w, List.mem_cons_of_mem _ hw, hx⟩
theorem sgn_event {w : Bytes} {v : Event} (h : event? w = some v) : sgn w := by
  unfold event? at h
  split at h
  · rename_i a b hab
    cases hnum : num? 1 LENGTH b with
    | none => rw [hnum] at h; cases h
    | some n =>
      rw [hnum] at h
      simp only [Option.bind_some] at h
      have ha : sgn a := by
        split at h
        · cases h
        · rename_i c r
          split at h
          · rename_i hc
            split at h
            · rename_i hr
              subst hr hc
              intro x hx
              rw [List.mem_singleton.mp hx]; decide
            · cases h
          · split at h
            · cases h
            · rename_i i hi
              split at h
              · cases h
              · rename_i o ho
                split at h
                · cases h
                · rename_i hd
                  obtain ⟨s, hs, _⟩ := Option.map_eq_some_iff.mp h
                  have hlet : c ∈ letters := by
                    obtain ⟨h1, h2, _⟩ := List.findIdx?_eq_some_iff_getElem.mp hi
                    have : letters[i] = c := by simpa using h2
                    rw [← this]; exact List.getElem_mem _
                  have hdr : s.1 = r.dropLast := by simpa using List.find?_some hs
                  have hsm := List.mem_of_find?_eq_some hs
                  have hdig : digit o = true := by simpa using hd
                  have hrl : r = r.dropLast ++ [o] := by
                    obtain ⟨l, e⟩ := List.getLast?_eq_some_iff.mp ho
                    rw [e, List.dropLast_concat]
                  intro x hx
                  rcases List.mem_cons.mp hx with rfl | hx
                  · exact (by decide : ∀ y ∈ letters, y ∈ csl) x hlet
                  · rw [hrl] at hx
                    rcases List.mem_append.mp hx with hx | hx
                    · rw [← hdr] at hx
                      exact (by decide : ∀ p ∈ signs, ∀ y ∈ p.1, y ∈ csl) s hsm x hx
                    · rw [List.mem_singleton.mp hx]
                      refine csl_digit o ?_ hdig
                      simp only [digit, Bool.and_eq_true, decide_eq_true_eq] at hdig
                      omega
      have hb := sgn_num hnum
      intro x hx
      rcases parted_in (c := 58) hx with rfl | ⟨u, hu, hxu⟩
      · decide
      · rw [hab] at hu
        simp only [List.mem_cons, List.not_mem_nil, or_false] at hu
        rcases hu with rfl | rfl
        · exact ha x hxu
        · exact hb x hxu
  · cases h
theorem sgn_lit {w : Bytes} {s : String} (h : w = ascii s) (hs : ∀ x ∈ ascii s, x ∈ csl := by decide) : sgn w := by
  subst h; exact hs
theorem sgn_tok1 {w : Bytes} {t : Tok} (h : tok1? w = some t) : sgn w := by
  unfold tok1? at h
  split at h
  · rename_i e; subst e; unfold sgn; decide
  split at h
  · rename_i e; subst e; unfold sgn; decide
  split at h
  · rename_i e; subst e; unfold sgn; decide
  split at h
  · rename_i e; exact sgn_lit e
  split at h
  · rename_i e; exact sgn_lit e
  split at h
  · rename_i e; exact sgn_name e
  split at h
  · rename_i e; exact sgn_event e
  · cases h
theorem sgn_nop {w : Bytes} {o : NOp} (h : nop? w = some o) : sgn w := by
  unfold nop? at h
  split at h
  · rename_i e; exact sgn_lit e
  split at h
  · rename_i e; exact sgn_lit e
  split at h
  · rename_i e; exact sgn_lit e
  split at h
  · rename_i e; exact sgn_lit e
  split at h
  · rename_i e; exact sgn_lit e
  · cases h
theorem sgn_toks : ∀ (n : Nat) (ws : List Bytes) (ts : List Tok), ws.length ≤ n → toks? ws = some ts → ∀ w ∈ ws, sgn w
  | _, [], _, _, _ => fun w h => by cases h
  | 0, _ :: _, _, hn, _ => by simp at hn
  | n + 1, u :: r, ts, hn, h => by
    simp only [List.length_cons] at hn
    cases e : nop? u with
    | none =>
      rw [toks_plain r e] at h
      cases h1 : tok1? u with
      | none => rw [h1] at h; cases h
      | some t =>
        rw [h1] at h
        cases h2 : toks? r with
        | none => rw [h2] at h; cases h
        | some us =>
          intro w hw
          rcases List.mem_cons.mp hw with rfl | hw
          · exact sgn_tok1 h1
          · exact sgn_toks n r us (by omega) h2 w hw
    | some o =>
      cases r with
      | nil => rw [toks_num1 e] at h; cases h
      | cons v s =>
        rw [toks_num s e] at h
        cases h1 : num? o.lo o.hi v with
        | none => rw [h1] at h; cases h
        | some k =>
          rw [h1] at h
          cases h2 : toks? s with
          | none => rw [h2] at h; cases h
          | some us =>
            intro w hw
            simp only [List.length_cons] at hn
            rcases List.mem_cons.mp hw with rfl | hw
            · exact sgn_nop e
            · rcases List.mem_cons.mp hw with rfl | hw
              · exact sgn_num h1
              · exact sgn_toks n s us (by omega) h2 w hw
theorem sgn_readW {ws : List Bytes} {e : Expr} (h : readW ws = some e) : ∀ w ∈ ws, sgn w := by
  have q := order_read ws
  rw [h] at q
  cases et : toks? ws with
  | none => rw [et] at q; cases q
  | some ts => exact sgn_toks _ ws ts (Nat.le_refl _) et
theorem sgn_events : ∀ {ws : List Bytes} {l : Line}, allEvents ws = some l → ∀ w ∈ ws, sgn w
  | [], _, _ => fun w h => by cases h
  | u :: r, l, h => by
    simp only [allEvents] at h
    cases e1 : event? u with
    | none => rw [e1] at h; cases h
    | some v =>
      rw [e1] at h
      cases e2 : allEvents r with
      | none => rw [e2] at h; cases h
      | some m =>
        intro w hw
        rcases List.mem_cons.mp hw with rfl | hw
        · exact sgn_event e1
        · exact sgn_events e2 w hw
theorem sgn_change {ws : List Bytes} {c : Cmd} (hw : ∀ u r, ws = u :: r → sgn u) (h : changeP ws = some c) : ∀ w ∈ ws, sgn w := by
  unfold changeP at h
  split at h
  · rename_i w n x r
    have h0 := hw w _ rfl
    split at h
    · cases h
    · rename_i hn
      have hn : isName n = true := by simpa using hn
      have hr : ∀ u ∈ x :: r, sgn u := by
        split at h
        · split at h
          · cases h
          · obtain ⟨l, e, _⟩ := Option.map_eq_some_iff.mp h
            exact sgn_events e
        · obtain ⟨e, he, _⟩ := Option.map_eq_some_iff.mp h
          exact sgn_readW he
      intro u hu
      rcases List.mem_cons.mp hu with rfl | hu
      · exact h0
      · rcases List.mem_cons.mp hu with rfl | hu
        · exact sgn_name hn
        · exact hr u hu
  · cases h
theorem sgn_cmdP {ws : List Bytes} {c : Cmd} (h : cmdP ws = some c) : ∀ w ∈ ws, sgn w := by
  unfold cmdP at h
  split at h
  · cases h
  · rename_i u args
    split at h
    · rename_i hc
      refine sgn_change (fun v r e => ?_) h
      cases e
      rcases hc with hc | hc
      · exact sgn_lit hc
      · exact sgn_lit hc
    · split at h
      · intro w hw
        rw [List.mem_singleton.mp hw]
        split at h
        · rename_i e; exact sgn_lit e
        split at h
        · rename_i e; exact sgn_lit e
        split at h
        · rename_i e; exact sgn_lit e
        · cases h
      · rename_i n
        split at h
        · cases h
        rename_i hn
        have hn : isName n = true := by simpa using hn
        have hu : sgn u := by
          split at h
          · rename_i e; exact sgn_lit e
          split at h
          · rename_i e; exact sgn_lit e
          split at h
          · rename_i e; exact sgn_lit e
          split at h
          · rename_i e; exact sgn_lit e
          split at h
          · rename_i e; exact sgn_lit e
          · cases h
        intro w hw
        simp only [List.mem_cons, List.not_mem_nil, or_false] at hw
        rcases hw with rfl | rfl
        · exact hu
        · exact sgn_name hn
      · rename_i n x
        split at h
        · cases h
        rename_i hn
        have hn : isName n = true := by simpa using hn
        have hu : sgn u ∧ sgn x := by
          split at h
          · rename_i e
            obtain ⟨k, hk, _⟩ := Option.map_eq_some_iff.mp h
            exact ⟨sgn_lit e, sgn_num hk⟩
          split at h
          · rename_i e
            split at h
            · rename_i hx
              exact ⟨sgn_lit e, sgn_name hx⟩
            · cases h
          · cases h
        intro w hw
        simp only [List.mem_cons, List.not_mem_nil, or_false] at hw
        rcases hw with rfl | rfl | rfl
        · exact hu.1
        · exact sgn_name hn
        · exact hu.2
      · cases h
theorem cmd_signs {t : Bytes} {c : Cmd} (h : cmd? t = some c) : sgn t := by
  rw [cmd_eq] at h
  intro x hx
  rcases parted_in (c := 32) hx with rfl | ⟨w, hw, hxw⟩
  · decide
  · exact sgn_cmdP h w hw x hxw
/-- signs that no command has may be told as one of them -/
theorem cmd_sub (t : Bytes) : cmd? (t.map sub) = cmd? t := by
  by_cases h : ∀ x ∈ t, x ∈ csl
  · have : t.map sub = t := by
      have e : t.map sub = t.map id := List.map_congr_left fun x hx => by
        unfold sub
        rw [if_pos (by simpa using h x hx)]; rfl
      rw [e, List.map_id]
    rw [this]
  · have h2 : ∃ x, x ∈ t ∧ x ∉ csl := by
      have := Classical.not_forall.mp h
      obtain ⟨x, hx⟩ := this
      exact ⟨x, Classical.not_imp.mp hx⟩
    obtain ⟨x, hx, hn⟩ := h2
    have e1 : cmd? t = none := by
      cases e : cmd? t with
      | none => rfl
      | some c => exact absurd (cmd_signs e x hx) hn
    have e2 : cmd? (t.map sub) = none := by
      cases e : cmd? (t.map sub) with
      | none => rfl
      | some c =>
        have hm : sub x ∈ t.map sub := List.mem_map.mpr ⟨x, hx, rfl⟩
        have := cmd_signs e _ hm
        have e3 : sub x = 63 := by unfold sub; rw [if_neg (by simpa using hn)]
        rw [e3] at this
        exact absurd this (by decide)
    rw [e1, e2]
theorem said_sub (s : Desk) (t : Bytes) : said s (t.map sub) = said s t := by
  unfold said
  rw [cmd_sub]
end Pb
end
section
namespace Pb
open Cp12
/-! ### calls told as one list of numbers -/
inductive Told : List Int → List (List Int) → Prop where
  | nil : Told [] []
  | cons {ns t : List Int} {r : List (List Int)} : ns.length ≤ 419 → Told t r → Told (1 :: (ns.length : Int) :: (ns ++ 0 :: t)) (ns :: r)
def says (s : Desk) (ns : List Int) : List Int := (Cp12.step s (.say ns)).2.v :: (Cp12.step s (.say ns)).2.l
def outs : Desk → List (List Int) → List Int
  | _, [] => []
  | s, ns :: r => ((says s ns).length : Int) :: says s ns ++ outs (Cp12.step s (.say ns)).1 r
theorem rows_len : ∀ (k : Nat) (l : List Int) (xs : List (List Int)) (t : List Int), PyFlat.rows k l = some (xs, t) → xs.length = k
  | 0, l, xs, t, h => by cases h; rfl
  | k + 1, l, xs, t, h => by
    simp only [PyFlat.rows] at h
    split at h
    · cases h
    · split at h
      · cases h
      · rename_i h2
        cases h
        simp [rows_len _ _ _ _ h2]
theorem call_told {l : List Int} {c : List (List Int)} {t : List Int} (h : PyWide.call l = some (c, t)) (ha : Cp12Neutral.asked1 c = true) : ∃ ns : List Int, c = [1 :: ns] ∧ ns.length ≤ 419 ∧ l = 1 :: (ns.length : Int) :: (ns ++ 0 :: t) := by
  cases l with
  | nil => cases h
  | cons p r =>
    simp only [PyWide.call] at h
    split at h
    · cases h
    · cases h
    · rename_i ns k t' hrow
      split at h
      · rename_i hk
        split at h
        · cases h
        · rename_i xs u hrows
          cases h
          simp only [Cp12Neutral.asked1, Bool.and_eq_true, beq_iff_eq, List.length_cons, List.headD_cons] at ha
          obtain ⟨h1, _, h3, h4⟩ := ha
          have hxs : xs = [] := List.length_eq_zero_iff.mp (by omega)
          have hl := rows_len _ _ _ _ hrows
          rw [hxs, List.length_nil] at hl
          have hk0 : k = 0 := by omega
          subst hk0 hxs
          have hp : p = 1 := by
            unfold Cp12Neutral.callOf at h4
            split at h4
            · rename_i e
              exact (List.cons.inj e).1
            · cases h4
          subst hp
          have h3 : (1 :: ns).length ≤ 420 := by simpa [Cp12Neutral.listed] using h3
          simp only [List.length_cons] at h3
          have ht : t' = t := by
            have : PyFlat.rows (0 : Int).toNat t' = some ([], t') := rfl
            rw [this] at hrows
            exact (Prod.mk.inj (Option.some.inj hrows)).2
          subst ht
          refine ⟨ns, rfl, by omega, ?_⟩
          cases r with
          | nil => cases hrow
          | cons n r' =>
            simp only [PyFlat.row] at hrow
            split at hrow
            · rename_i hn
              obtain ⟨e1, e2⟩ := Prod.mk.inj (Option.some.inj hrow)
              have e3 : (ns.length : Int) = n := by
                rw [← e1, List.length_take]; omega
              rw [e3, ← e1, ← e2, List.take_append_drop]
            · cases hrow
      · cases h
theorem calls_told : ∀ (f : Nat) (l : List Int) (cs : List (List (List Int))), PyWide.calls f l = some cs → cs.all Cp12Neutral.asked1 = true → ∃ r, Told l r ∧ cs = r.map fun ns => [1 :: ns]
  | f, [], cs, h, _ => by
    have : cs = [] := by cases f <;> (simp [PyWide.calls] at h; exact h)
    exact ⟨[], .nil, by rw [this]; rfl⟩
  | 0, _ :: _, cs, h, _ => by simp [PyWide.calls] at h
  | f + 1, p :: r, cs, h, ha => by
    simp only [PyWide.calls] at h
    split at h
    · cases h
    · rename_i c t hc
      split at h
      · cases h
      · rename_i cs' hcs
        cases h
        rw [List.all_cons, Bool.and_eq_true] at ha
        obtain ⟨ns, e1, e2, e3⟩ := call_told hc ha.1
        obtain ⟨r', h1, h2⟩ := calls_told f t cs' hcs ha.2
        refine ⟨ns :: r', ?_, by rw [e1, h2]; rfl⟩
        rw [e3]
        exact .cons e2 h1
theorem told_outs : ∀ (r : List (List Int)) (s : Desk), PyFlat.told (PyFlat.played Cp12Neutral.step s (r.map fun ns => [1 :: ns])) = outs s r
  | [], _ => rfl
  | ns :: r, s => by
    have ih := told_outs r (Cp12.step s (.say ns)).1
    show ((says s ns).length : Int) :: says s ns ++ PyFlat.told (PyFlat.played Cp12Neutral.step (Cp12.step s (.say ns)).1 (r.map fun ns => [1 :: ns])) = _
    rw [ih]; rfl
theorem answers_outs {l : List Int} (h : PyCp12.answers_asked l = true) : ∃ r, Told l r ∧ PyCp12.answers l = outs start r ∧ (outs start r).length ≤ 10000000 := by
  unfold PyCp12.answers_asked at h
  have ea : PyCp12.answers l = match PyCp12.calls l with
    | none => []
    | some cs => PyFlat.told (PyFlat.played Cp12Neutral.step Cp12Neutral.start cs) := rfl
  cases hc : PyCp12.calls l with
  | none => rw [hc] at h; cases h
  | some cs =>
    rw [hc] at h ea
    simp only [Bool.and_eq_true] at h
    obtain ⟨⟨_, h2⟩, h3⟩ := h
    unfold Cp12Neutral.asked at h2
    rw [Bool.and_eq_true] at h2
    obtain ⟨r, hr, er⟩ := calls_told _ _ _ hc h2.1
    have e : PyCp12.answers l = outs start r := by
      rw [ea]
      simp only
      rw [er]
      exact told_outs r start
    refine ⟨r, hr, e, ?_⟩
    rw [e] at h3
    exact of_decide_eq_true h3
end Pb
end
set_option maxRecDepth 100000
set_option maxHeartbeats 4000000
namespace Pbd
open PySem PySem.Spec PyProof.Rows L2 TL
open Cp12 (Bytes ascii)
abbrev Ev := Cp12.Event
abbrev Line := Cp12.Line
/-! ### the text -/
def top (i : Nat) : Stmt := PySem.Challenge.pw_piecebookdesk_s01_answers.main.body.getD i (.Pass ⟨0, 0, 0, 0⟩)
/-- a text by its codes -/
def tx (w : Bytes) : Str := ⟨w.toArray⟩
theorem tl_tx (w : Bytes) : tl (tx w) = w := rfl
theorem lit (s : String) : Str.ofString s = tx (ascii s) := ext_tl (tl_ofString s)
theorem tx_inj {v w : Bytes} (h : tx v = tx w) : v = w := congrArg tl h
theorem tx_eq {v w : Bytes} : decide (V.str (tx v) = V.str (tx w)) = decide (v = w) := by
  by_cases c : v = w
  · subst c; simp
  · rw [decide_eq_false c, decide_eq_false]
    intro h
    exact c (tx_inj (V.str.inj h))
theorem tx_len (w : Bytes) : (tx w).length = w.length := by simp [tx, Str.length]
theorem tx_append (v w : Bytes) : tx v ++ tx w = tx (v ++ w) := ext_tl (by rw [tl_append]; rfl)
theorem tx_num (n : Nat) : Str.ofString (toString ((n : Nat) : Int)) = tx (Cp12.decimal n) := ext_tl (by rw [tl_num]; rfl)
theorem eq_lit (u : Bytes) (s : String) : decide (V.str (tx u) = V.str (Str.ofString s)) = decide (u = ascii s) := by rw [lit]; exact tx_eq
theorem ne_lit (u : Bytes) (s : String) : (!decide (V.str (tx u) = V.str (Str.ofString s))) = !decide (u = ascii s) := by rw [eq_lit]
def OptR {α : Type} (R : Hp → V → α → Prop) (G : Hp) (v : V) : Option α → Prop
  | none => v = .non
  | some x => R G v x
theorem szL : sizeLine = 16777216 := rfl
/-! ### if -/
theorem if_t {c : Bool} {A B : Prop} (hc : c = true) (h : A) : if c = true then A else B := by rw [if_pos hc]; exact h
theorem if_f {c : Bool} {A B : Prop} (hc : c = false) (h : B) : if c = true then A else B := by rw [hc, if_neg Bool.false_ne_true]; exact h
theorem if_b {c : Bool} {A B : Prop} (h1 : c = true → A) (h2 : c = false → B) : if c = true then A else B := by
  cases c
  · exact if_f rfl (h2 rfl)
  · exact if_t rfl (h1 rfl)
/-! ### names of the top, defs called -/
section
variable {X : Cx}
theorem pe_gint {x : Str} {pos : Pos} {i : Int} (hg : Gl X x) (hm : ∃ t, X.mg x = some (.int i t)) (hd : (x == ("__debug__" : Str)) = false := by decide) : PE X (.Name x pos) (tC (.int i)) := by
  obtain ⟨t, h⟩ := hm
  exact pe_glob hg h ⟨t, rfl⟩ hd
theorem pe_gstr {x : Str} {pos : Pos} {z : Str} (hg : Gl X x) (hm : ∃ t, X.mg x = some (.str z t)) (hd : (x == ("__debug__" : Str)) = false := by decide) : PE X (.Name x pos) (tC (.str z)) := by
  obtain ⟨t, h⟩ := hm
  exact pe_glob hg h ⟨t, rfl⟩ hd
theorem pe_gref {x : Str} {pos : Pos} {a : Addr} (hg : Gl X x) (hm : X.mg x = some (.ref a)) (hd : (x == ("__debug__" : Str)) = false := by decide) : PE X (.Name x pos) (tC (.ref a)) := pe_glob hg hm rfl hd
end
section
variable {X : Cx}
theorem ix_tupK (K : PySem.W.Frag) (h : X.K = K := by rfl) : IxR X (rIxT K) := h ▸ ix_tup
theorem ix_listK (K : PySem.W.Frag) (h : X.K = K := by rfl) : IxR X (rIxL K) := h ▸ ix_list
theorem op_in_seqK (K : PySem.W.Frag) (h : X.K = K := by rfl) : OpR X (compareOp .In) (rIn K false) := h ▸ op_in_seq
theorem op_notIn_seqK (K : PySem.W.Frag) (h : X.K = K := by rfl) : OpR X (compareOp .NotIn) (rIn K true) := h ▸ op_notIn_seq
end
structure Callee (P : Program) (w : World) (K : PySem.W.Frag) (mg : Str → Option Value) (base : Heap) (n : Str) (k : Nat) (ps : List Str) (sp : Sp) : Prop where
  ex : ∃ f fd, FnOk P w K mg base CX0 k f fd ps sp ∧ mg n = some (.ref f) ∧ PySem.W.keepIn K (.ref f) = true ∧ Binds K fd ps []
/-- the promise over the arguments -/
def tDo (sp : Sp) (t : TA) : TE := fun σ H Q => t σ H fun vs H1 => sp vs H1 Q E0
section
variable {X : Cx} {x : Str} {k j : Nat} {ps : List Str} {sp : Sp} {p pos : Pos} {e : Expr} {es : List Expr} {t : TA}
theorem pe_do (C : Callee X.prog X.w X.K X.mg X.base x k ps sp) (hr : Room j X.A) (hk : k ≤ j) (hg : Gl X x) (ha : PA X (e :: es) t) (hdb : (x == ("__debug__" : Str)) = false := by decide)
    (he : starEach (e :: es) X.env = (false, eval e X.env) :: starEach es X.env := by rfl) (hpl : (backTo pos (starEach es X.env)).any (·.1) = false := by rfl) :
    PE X (.Call (.Name x p) (e :: es) [] pos) (tDo sp t) := by
  obtain ⟨f, fd, F, hm, hkp, hb⟩ := C.ex
  have q := pe_call (p := p) F (hr.mono hk) hg hm hkp hb .nil (pass0 (X := X)) ha hdb he hpl
  have e0 : tCall sp [] E0 t = tDo sp t := by
    funext σ H Q
    show t σ H (fun vs H1 => sp (vs ++ []) H1 Q E0) = t σ H (fun vs H1 => sp vs H1 Q E0)
    simp only [List.append_nil]
  rw [← e0]
  exact q
end
/-- a dict of the top whose keys are written texts -/
def KTab (K : PySem.W.Frag) (w : World) (a : Addr) (ks : List (Str × Value)) : Prop := ∃ es n, K.lookup a = some ⟨.type "dict", none, .dict es n, #[]⟩ ∧ PySem.W.KeysLit w.params es.toList ∧ (a == sysModules) = false ∧
  Paired (fun (e : DictEntry) (p : Str × Value) => (∃ t, e.key = .str p.1 t) ∧ e.val = p.2) es.toList ks
def rangesOf (f : Pb.NOp → Addr) : List (Str × Value) := [("up", .ref (f .up)), ("down", .ref (f .down)), ("long", .ref (f .long)), ("short", .ref (f .short)), ("times", .ref (f .times))]
/-- what the words behind a command's first one are -/
def behind : List (String × List Str) := [("drop", ["name"]), ("undo", []), ("show", ["name"]), ("long", ["name"]), ("at", ["name", "time"]), ("same", ["name", "name"]), ("uses", ["name"]), ("users", ["name"]), ("list", []), ("dump", [])]
/-- what the top has written: constants, and the built-in names as they are -/
structure Txt (K : PySem.W.Frag) (w : World) (mg : Str → Option Value) (aMarks aRes aPlain aStarts aRanges aBehind : Addr) : Prop where
  b_len : mg "len" = none
  b_int : mg "int" = none
  b_str : mg "str" = none
  b_list : mg "list" = none
  b_dict : mg "dict" = none
  b_abs : mg "abs" = none
  b_min : mg "min" = none
  b_sum : mg "sum" = none
  b_all : mg "all" = none
  b_any : mg "any" = none
  b_ord : mg "ord" = none
  b_zip : mg "zip" = none
  b_enumerate : mg "enumerate" = none
  b_range : mg "range" = none
  b_reversed : mg "reversed" = none
  g_STEP_LETTERS : ∃ t, mg "STEP_LETTERS" = some (.str "cdefgab" t)
  g_WIDEST_ALTERATION : ∃ t, mg "WIDEST_ALTERATION" = some (.int 2 t)
  g_HIGHEST_STEP : ∃ t, mg "HIGHEST_STEP" = some (.int 69 t)
  g_LONGEST_EVENT : ∃ t, mg "LONGEST_EVENT" = some (.int 1024 t)
  g_MOST_LETTERS : ∃ t, mg "MOST_LETTERS" = some (.int 8 t)
  g_MOST_DIGITS : ∃ t, mg "MOST_DIGITS" = some (.int 4 t)
  g_MOST_EVENTS : ∃ t, mg "MOST_EVENTS" = some (.int 200 t)
  g_DEEPEST_NESTING : ∃ t, mg "DEEPEST_NESTING" = some (.int 8 t)
  g_MOST_THEME_EVENTS : ∃ t, mg "MOST_THEME_EVENTS" = some (.int 32 t)
  g_LATEST_TIME : ∃ t, mg "LATEST_TIME" = some (.int 9999 t)
  g_MOST_NAMES : ∃ t, mg "MOST_NAMES" = some (.int 12 t)
  g_MOST_UNDONE : ∃ t, mg "MOST_UNDONE" = some (.int 20 t)
  g_MOST_BYTES : ∃ t, mg "MOST_BYTES" = some (.int 400 t)
  g_LOWEST_BYTE : ∃ t, mg "LOWEST_BYTE" = some (.int 32 t)
  g_HIGHEST_BYTE : ∃ t, mg "HIGHEST_BYTE" = some (.int 126 t)
  g_COMMAND_SIGNS : ∃ t, mg "COMMAND_SIGNS" = some (.str " #()+:0123456789abcdefghijklmnopqrstuvwxyz" t)
  g_OTHER_SIGN : ∃ t, mg "OTHER_SIGN" = some (.str "?" t)
  g_ALTERATION_MARKS : mg "ALTERATION_MARKS" = some (.ref aMarks)
  g_RESERVED_WORDS : mg "RESERVED_WORDS" = some (.ref aRes)
  g_PLAIN_WORDS : mg "PLAIN_WORDS" = some (.ref aPlain)
  g_ITEM_STARTS : mg "ITEM_STARTS" = some (.ref aStarts)
  g_NUMBER_RANGES : mg "NUMBER_RANGES" = some (.ref aRanges)
  g_WORDS_BEHIND : mg "WORDS_BEHIND" = some (.ref aBehind)
  q_marks : ∀ H, SqT K H aMarks ((["bb", "b", "", "#", "x"] : List Str).map V.str)
  t_ranges : ∃ f : Pb.NOp → Addr, KTab K w aRanges (rangesOf f) ∧ ∀ o H, SqT K H (f o) [.int (o.lo : Nat), .int (o.hi : Nat)]
  t_behind : ∃ f : String → Addr, KTab K w aBehind (behind.map fun p => (Str.ofString p.1, .ref (f p.1))) ∧ ∀ p ∈ behind, ∀ H, SqT K H (f p.1) (p.2.map V.str)
  k_marks : ∃ o, K.lookup aMarks = some o ∧ o.cls = .type "tuple" ∧ o.dict = none
  q_res : ∀ H, SqT K H aRes ((["up", "down", "over", "back", "long", "short", "times", "r"] : List Str).map V.str)
  q_plain : ∀ H, SqT K H aPlain ((["(", ")", "+", "over", "back"] : List Str).map V.str)
  q_starts : ∀ H, SqT K H aStarts ((["(", "name", "rest"] : List Str).map V.str)
/-! ### heaps: G is the part of H in which nothing changes any more -/
theorem same_new {H : Hp} {p : Addr} {o : HO} (h : H p = none) : Same H (upd H p o) := fun b x e => by
  rw [upd_ne (ne_of_none e h)]
  exact e
/-- what G tells stands in H when an object outside of G changes -/
theorem same_out {G H : Hp} {p : Addr} {o : HO} (s : Same G H) (h : G p = none) : Same G (upd H p o) := fun b x e => by
  rw [upd_ne (ne_of_none e h)]
  exact s b x e
/-- H has grown to H', G within it to G' by new objects alone -/
structure Grow (G H G' H' : Hp) : Prop where
  h : Same H H'
  g : Same G G'
  i : Same G' H'
  n : ∀ b, H b ≠ none → G b = none → G' b = none
theorem Grow.refl {G H : Hp} (s : Same G H) : Grow G H G H := ⟨Same.refl _, Same.refl _, s, fun _ _ h => h⟩
theorem Grow.trans {G H G1 H1 G2 H2 : Hp} (a : Grow G H G1 H1) (b : Grow G1 H1 G2 H2) : Grow G H G2 H2 :=
  ⟨a.h.trans b.h, a.g.trans b.g, b.i, fun x h1 h2 => b.n x (fun q => by
    cases e : H x with
    | none => exact h1 e
    | some o => rw [a.h x o e] at q; cases q) (a.n x h1 h2)⟩
/-- H alone has grown -/
theorem Grow.more {G H G' H' H2 : Hp} (a : Grow G H G' H') (s : Same H' H2) : Grow G H G' H2 := ⟨a.h.trans s, a.g, a.i.trans s, a.n⟩
theorem Grow.of {G H H' : Hp} (s : Same G H) (t : Same H H') : Grow G H G H' := (Grow.refl s).more t
/-- a new object that will not change -/
theorem Grow.new {G H : Hp} {p : Addr} {o : HO} (s : Same G H) (h : H p = none) : Grow G H (upd G p o) (upd H p o) := by
  have hg : G p = none := s.free h
  refine ⟨same_new h, same_new hg, fun b x e => ?_, fun b h1 h2 => ?_⟩
  · by_cases c : b = p
    · subst c; rw [upd_same] at e ⊢; exact e
    · rw [upd_ne c] at e ⊢; exact s b x e
  · have c : b ≠ p := fun q => h1 (q ▸ h)
    rw [upd_ne c]; exact h2
/-- an object that was made since then, and that changes no more -/
theorem Grow.put {G H G' H' : Hp} {p : Addr} {o : HO} (a : Grow G H G' H') (h0 : H p = none) (h : H' p = some o) (hg : G' p = none) : Grow G H (upd G' p o) H' := by
  refine ⟨a.h, a.g.trans (same_new hg), fun b x e => ?_, fun b h1 h2 => ?_⟩
  · by_cases c : b = p
    · subst c; rw [upd_same] at e; rw [h]; exact e
    · rw [upd_ne c] at e; exact a.i b x e
  · have c : b ≠ p := fun q => h1 (q ▸ h0)
    rw [upd_ne c]; exact a.n b h1 h2
/-- an object that was there and is outside of G stays outside -/
theorem Grow.out {G H G' H' : Hp} (a : Grow G H G' H') {p : Addr} {o : HO} (h : H p = some o) (g : G p = none) : G' p = none := a.n p (by rw [h]; exact fun q => by cases q) g
/-- what changes outside of G, made since then -/
theorem Grow.set {G H G' H' : Hp} {p : Addr} {o : HO} (a : Grow G H G' H') (h0 : H p = none) (hg : G' p = none) : Grow G H G' (upd H' p o) :=
  ⟨fun b x e => by rw [upd_ne (ne_of_none e h0)]; exact a.h b x e, a.g, same_out a.i hg, a.n⟩
/-! ### events and lines -/
def evV (e : Ev) : List V := match e.n with
  | none => [.non, .int 0, .int e.len]
  | some n => [.int n.d, .int n.a, .int e.len]
def EvAt (G : Hp) (v : V) (e : Ev) : Prop := ∃ a, v = .ref a ∧ G a = some (.tup (evV e))
theorem EvAt.mono {G G' : Hp} {v : V} {e : Ev} (s : Same G G') (h : EvAt G v e) : EvAt G' v e := by
  obtain ⟨a, h1, h2⟩ := h
  exact ⟨a, h1, s _ _ h2⟩
theorem paired_mono {α β : Type} {F G : α → β → Prop} {l : List α} {m : List β} (h : Paired F l m) (f : ∀ a b, F a b → G a b) : Paired G l m := Paired.mapP h f
def Seq {α : Type} (R : Hp → V → α → Prop) (G : Hp) (v : V) (l : List α) : Prop := ∃ a vs, v = .ref a ∧ G a = some (.lst vs) ∧ Paired (R G) vs l
theorem Seq.mono {α : Type} {R : Hp → V → α → Prop} (hR : ∀ {G G' : Hp} {v : V} {x : α}, Same G G' → R G v x → R G' v x) {G G' : Hp} {v : V} {l : List α} (s : Same G G') (h : Seq R G v l) : Seq R G' v l := by
  obtain ⟨a, vs, h1, h2, h3⟩ := h
  exact ⟨a, vs, h1, s _ _ h2, paired_mono h3 fun _ _ q => hR s q⟩
abbrev LineAt (G : Hp) (v : V) (l : Line) : Prop := Seq EvAt G v l
theorem LineAt.mono {G G' : Hp} {v : V} {l : Line} (s : Same G G') (h : LineAt G v l) : LineAt G' v l := Seq.mono (R := EvAt) (fun s q => EvAt.mono s q) s h
theorem paired_get {α β : Type} {F : α → β → Prop} : ∀ {l : List α} {m : List β} {i : Nat} {x : α}, Paired F l m → l[i]? = some x → ∃ y, m[i]? = some y ∧ F x y
  | _, _, _, _, .nil, e => by simp at e
  | _, _, 0, _, .cons r _, e => by simp at e; subst e; exact ⟨_, rfl, r⟩
  | _, _, i + 1, x, .cons _ t, e => by
    obtain ⟨y, h1, h2⟩ := paired_get (i := i) (x := x) t (by simpa using e)
    exact ⟨y, by simpa using h1, h2⟩
theorem paired_get' {α β : Type} {F : α → β → Prop} : ∀ {l : List α} {m : List β} {i : Nat} {y : β}, Paired F l m → m[i]? = some y → ∃ x, l[i]? = some x ∧ F x y
  | _, _, _, _, .nil, e => by simp at e
  | _, _, 0, _, .cons r _, e => by simp at e; subst e; exact ⟨_, rfl, r⟩
  | _, _, i + 1, y, .cons _ t, e => by
    obtain ⟨x, h1, h2⟩ := paired_get' (i := i) (y := y) t (by simpa using e)
    exact ⟨x, by simpa using h1, h2⟩
theorem paired_snoc {α β : Type} {F : α → β → Prop} : ∀ {l : List α} {m : List β} {x : α} {y : β}, Paired F l m → F x y → Paired F (l ++ [x]) (m ++ [y])
  | _, _, _, _, .nil, h => .cons h .nil
  | _, _, _, _, .cons r t, h => .cons r (paired_snoc t h)
theorem paired_append {α β : Type} {F : α → β → Prop} : ∀ {l l' : List α} {m m' : List β}, Paired F l m → Paired F l' m' → Paired F (l ++ l') (m ++ m')
  | _, _, _, _, .nil, h => h
  | _, _, _, _, .cons r t, h => .cons r (paired_append t h)
theorem paired_reverse {α β : Type} {F : α → β → Prop} : ∀ {l : List α} {m : List β}, Paired F l m → Paired F l.reverse m.reverse
  | _, _, .nil => .nil
  | _, _, .cons r t => by
    rw [List.reverse_cons, List.reverse_cons]
    exact paired_snoc (paired_reverse t) r
theorem paired_len {α β : Type} {F : α → β → Prop} {l : List α} {m : List β} (h : Paired F l m) : l.length = m.length := Paired.length h
theorem take_more {α : Type} {l : List α} {i : Nat} {x : α} (h : l[i]? = some x) : l.take (i + 1) = l.take i ++ [x] := by
  rw [List.take_add_one, h]; rfl
/-! ### comprehensions -/
/-- [elt for x in xs]: each element is known ahead -/
theorem lc_vals {K : PySem.W.Frag} {a : Addr} {xs ys : List V} {i0 : Nat} {te : TE} {σ : L2.St} {H1 : Hp} {D : Addr} {Qd : Hp → Prop} (hS : SqL K H1 a xs) (hD : H1 D = none) (hl : ys.length = xs.length) (hb : xs.length ≤ 100000)
    (hw : ∀ x : V, wipe ((wipe σ [i0]).set i0 (some x)) [i0] = wipe σ [i0])
    (hs : ∀ (i : Nat) (x y : V) (H : Hp) (Q : VK), xs[i]? = some x → ys[i]? = some y → Same H1 H → (∀ H', Same H H' → Q y H') → te ((wipe σ [i0]).set i0 (some x)) H Q)
    (hd : ∀ H, Same H1 H → H D = some (.lst ys) → Qd H) :
    ∃ W : Nat → Nat → Hp → Prop, (∃ m, W 0 m (upd H1 D (.lst []))) ∧ ∀ i m H, W i m H →
      ((Itl K a).stop i H ∧ Qd H) ∨ ((Itl K a).go i H ∧ ∃ Nx : Hp → Prop, (∀ H', Nx H' → ∃ m', m' < m ∧ W (i + 1) m' H') ∧ ∀ x H', (Itl K a).yld i H x H' → gName i0 x (wipe σ [i0]) H' fun σ2 H2 => wipe σ2 [i0] = wipe σ [i0] ∧ tYes σ2 H2 fun b H3 =>
        if b = true then te σ2 H3 fun y H4 => ∃ acc, H4 D = some (.lst acc) ∧ acc.length < sizeLine ∧ Nx (upd H4 D (.lst (acc ++ [y]))) else Nx H3) := by
  refine lc_list (K := K) (a := a) (xs := xs) (fun i H => Same H1 H ∧ H D = some (.lst (ys.take i))) ⟨same_new hD, by rw [upd_same]; rfl⟩ (fun i H _ ⟨s, _⟩ => s.seq hS) (fun i x H hx ⟨s, hh⟩ => ?_) (fun H ⟨s, hh⟩ => hd H s (by rw [hh, ← hl, List.take_length]))
  have hi : i < ys.length := by rw [hl]; exact (List.getElem?_eq_some_iff.mp hx).1
  have hy : ys[i]? = some ys[i] := List.getElem?_eq_getElem hi
  refine ⟨hw x, ?_⟩
  refine hs i x _ H _ hx hy s fun H' s' => ?_
  refine ⟨_, s' _ _ hh, ?_, fun b o e => ?_, ?_⟩
  · rw [List.length_take]
    have : (16777216 : Nat) = sizeLine := by decide
    omega
  · rw [upd_ne (ne_of_none e hD)]; exact s' _ _ (s _ _ e)
  · rw [upd_same, take_more hy]
/-- [elt for x in xs]: each element stands for a datum, in G, which grows -/
theorem lc_data {K : PySem.W.Frag} {α : Type} {R : Hp → V → α → Prop} (hR : ∀ {G G' : Hp} {v : V} {x : α}, Same G G' → R G v x → R G' v x) {a : Addr} {xs : List V} {ys : List α} {i0 : Nat} {te : TE} {σ : L2.St} {G1 H1 : Hp} {D : Addr} {Qd : Hp → Prop}
    (hG : Same G1 H1) (hS : SqL K H1 a xs) (hD : H1 D = none) (hl : ys.length = xs.length) (hb : xs.length ≤ 100000)
    (hw : ∀ x : V, wipe ((wipe σ [i0]).set i0 (some x)) [i0] = wipe σ [i0])
    (hs : ∀ (i : Nat) (x : V) (y : α) (G H : Hp) (Q : VK), xs[i]? = some x → ys[i]? = some y → Same G1 G → Same G H → (∀ v G' H', Grow G H G' H' → R G' v y → Q v H') → te ((wipe σ [i0]).set i0 (some x)) H Q)
    (hd : ∀ G H vs, Grow G1 H1 G H → G D = none → H D = some (.lst vs) → Paired (R G) vs ys → Qd H) :
    ∃ W : Nat → Nat → Hp → Prop, (∃ m, W 0 m (upd H1 D (.lst []))) ∧ ∀ i m H, W i m H →
      ((Itl K a).stop i H ∧ Qd H) ∨ ((Itl K a).go i H ∧ ∃ Nx : Hp → Prop, (∀ H', Nx H' → ∃ m', m' < m ∧ W (i + 1) m' H') ∧ ∀ x H', (Itl K a).yld i H x H' → gName i0 x (wipe σ [i0]) H' fun σ2 H2 => wipe σ2 [i0] = wipe σ [i0] ∧ tYes σ2 H2 fun b H3 =>
        if b = true then te σ2 H3 fun y H4 => ∃ acc, H4 D = some (.lst acc) ∧ acc.length < sizeLine ∧ Nx (upd H4 D (.lst (acc ++ [y]))) else Nx H3) := by
  have hgD : G1 D = none := hG.free hD
  refine lc_list (K := K) (a := a) (xs := xs) (fun i H => ∃ G vs, Grow G1 H1 G H ∧ G D = none ∧ H D = some (.lst vs) ∧ Paired (R G) vs (ys.take i))
    ⟨G1, [], (Grow.refl hG).set hD hgD, hgD, upd_same, by simpa using Paired.nil⟩ (fun i H _ ⟨G, vs, g, _⟩ => g.h.seq hS) (fun i x H hx ⟨G, vs, g, gD, hh, hp⟩ => ?_)
    (fun H ⟨G, vs, g, gD, hh, hp⟩ => hd G H vs g gD hh (by rw [← hl, List.take_length] at hp; exact hp))
  have hi : i < ys.length := by rw [hl]; exact (List.getElem?_eq_some_iff.mp hx).1
  have hy : ys[i]? = some ys[i] := List.getElem?_eq_getElem hi
  refine ⟨hw x, ?_⟩
  refine hs i x _ G H _ hx hy g.g g.i fun v G' H' g' r => ?_
  have gD' : G' D = none := g'.out hh gD
  refine ⟨_, g'.h _ _ hh, ?_, G', _, (g.trans g').set hD gD', gD', upd_same, ?_⟩
  · have : (16777216 : Nat) = sizeLine := by decide
    have := paired_len hp
    rw [List.length_take] at this
    omega
  · rw [take_more hy]
    exact paired_snoc (paired_mono hp fun _ _ q => hR g'.g q) r
end Pbd
namespace Pbd
open PySem PySem.Spec PyProof.Rows L2 TL
open Cp12 (Bytes ascii)
/-! ### signs -/
def Asc (w : Bytes) : Prop := ∀ c ∈ w, c < 128
theorem alpha128 : ∀ c, c < 128 → Unicode.isAlpha c = ((decide (65 ≤ c) && decide (c ≤ 90)) || (decide (97 ≤ c) && decide (c ≤ 122))) := by decide +kernel
theorem lower128 : ∀ c, c < 128 → Unicode.isLower c = (decide (97 ≤ c) && decide (c ≤ 122)) := by decide +kernel
theorem upper128 : ∀ c, c < 128 → (Unicode.isUpper c || Unicode.isTitle c) = (decide (65 ≤ c) && decide (c ≤ 90)) := by decide +kernel
theorem digit128 : ∀ c, c < 128 → Unicode.isDigit c = (decide (48 ≤ c) && decide (c ≤ 57)) := by decide +kernel
theorem isdigit_tx {w : Bytes} (h : Asc w) : Txt.isdigit (tx w) = (decide (1 ≤ w.length) && w.all Cp12.digit) := by
  unfold Txt.isdigit
  rw [tx_len]
  have : (tx w).cps.all Unicode.isDigit = w.all Cp12.digit := by
    show w.toArray.all Unicode.isDigit = _
    rw [List.all_toArray, Bool.eq_iff_iff, List.all_eq_true, List.all_eq_true]
    constructor
    · intro q c hc; have := q c hc; rw [digit128 c (h c hc)] at this; exact this
    · intro q c hc; rw [digit128 c (h c hc)]; exact q c hc
  rw [this]; rfl
theorem name_tx {w : Bytes} (h : Asc w) : (Txt.isalpha (tx w) && Txt.islower (tx w)) = (decide (1 ≤ w.length) && w.all Cp12.small) := by
  unfold Txt.isalpha Txt.islower
  rw [tx_len]
  show ((decide (w.length > 0) && w.toArray.all Unicode.isAlpha) && (w.toArray.any Unicode.isLower && !w.toArray.any fun c => Unicode.isUpper c || Unicode.isTitle c)) = _
  rw [List.all_toArray, List.any_toArray, List.any_toArray, Bool.eq_iff_iff]
  simp only [Bool.and_eq_true, decide_eq_true_eq, List.all_eq_true, List.any_eq_true, Bool.not_eq_true', List.any_eq_false]
  constructor
  · rintro ⟨⟨h1, h2⟩, _, h4⟩
    refine ⟨h1, fun c hc => ?_⟩
    have a := h2 c hc
    have b := h4 c hc
    rw [alpha128 c (h c hc)] at a
    rw [upper128 c (h c hc)] at b
    simp only [Bool.or_eq_true, Bool.and_eq_true, decide_eq_true_eq] at a b
    simp only [Cp12.small, Bool.and_eq_true, decide_eq_true_eq]
    omega
  · rintro ⟨h1, h2⟩
    have k : ∀ c ∈ w, 97 ≤ c ∧ c ≤ 122 := fun c hc => by
      have := h2 c hc
      simpa only [Cp12.small, Bool.and_eq_true, decide_eq_true_eq] using this
    refine ⟨⟨h1, fun c hc => ?_⟩, ?_, fun c hc => ?_⟩
    · rw [alpha128 c (h c hc)]; have := k c hc; simp only [Bool.or_eq_true, Bool.and_eq_true, decide_eq_true_eq]; omega
    · cases w with
      | nil => exact absurd h1 (by decide)
      | cons c r => exact ⟨c, by simp, by rw [lower128 c (h c (by simp))]; have := k c (by simp); simp only [Bool.and_eq_true, decide_eq_true_eq]; omega⟩
    · rw [upper128 c (h c hc)]; have := k c hc; simp only [Bool.and_eq_true, decide_eq_true_eq]; omega
theorem int_tx {u : Bytes} (h : u.all Cp12.digit = true) (h1 : u ≠ []) (h2 : u.length ≤ 640) : PySem.intText? (tx u) = some ((u.foldl (fun n c => 10 * n + (c - 48)) 0 : Nat) : Int) := by
  have e := intText_digits (x := tx u) (fun c hc => by
    have := List.all_eq_true.mp h c hc
    simpa only [Cp12.digit, Bool.and_eq_true, decide_eq_true_eq] using this) h1 (by rw [tx_len]; omega)
  rw [e]
  have : (fun (acc c : Nat) => acc * 10 + (c - 48)) = fun n c => 10 * n + (c - 48) := by
    funext a c; rw [Nat.mul_comm]
  show some ((u.foldl (fun acc c => acc * 10 + (c - 48)) 0 : Nat) : Int) = _
  rw [this]
theorem spl_parted (c : Nat) : ∀ (u acc : Bytes), spl [c] 0 acc u = match Cp12.parted c u with
    | [] => [acc]
    | w :: r => (acc ++ w) :: r
  | [], acc => by simp [Cp12.parted, spl]
  | x :: u, acc => by
    by_cases e : x = c
    · subst e
      rw [spl_hit (by simp [pre])]
      have := spl_parted x u []
      simp only [List.length_singleton, Nat.sub_self]
      rw [this]
      have ne : Cp12.parted x u ≠ [] := by
        cases u with
        | nil => simp [Cp12.parted]
        | cons y v =>
          simp only [Cp12.parted]
          split
          · simp
          · split <;> simp
      simp only [Cp12.parted, if_true]
      cases q : Cp12.parted x u with
      | nil => exact absurd q ne
      | cons w r => simp
    · rw [spl_miss (by simp [pre, e]), spl_parted c u]
      simp only [Cp12.parted, if_neg e]
      cases q : Cp12.parted c u with
      | nil => simp
      | cons w r => simp
theorem parted_ne (c : Nat) (u : Bytes) : Cp12.parted c u ≠ [] := by
  cases u with
  | nil => simp [Cp12.parted]
  | cons y v =>
    simp only [Cp12.parted]
    split
    · simp
    · split <;> simp
theorem split_tx (u : Bytes) (c : Nat) (hc : c < 256) : Txt.split (tx u) (tx [c]) = (Cp12.parted c u).map tx := by
  apply map_tl_inj
  rw [split_spl (tx u) (tx [c]) (by simp [tl_tx]) (kind_ok (by simp [tx, hc])), tl_tx, tl_tx, spl_parted]
  rw [List.map_map]
  have : (tl ∘ tx) = id := by funext x; rfl
  rw [this, List.map_id]
  cases q : Cp12.parted c u with
  | nil => exact absurd q (parted_ne c u)
  | cons w r => simp
theorem parted_mem (c : Nat) : ∀ (u : Bytes), ∀ w ∈ Cp12.parted c u, (∀ x ∈ w, x ∈ u) ∧ w.length ≤ u.length
  | [], w, h => by simp [Cp12.parted] at h; subst h; simp
  | x :: u, w, h => by
    have ih := parted_mem c u
    by_cases e : x = c
    · subst e
      simp only [Cp12.parted, if_true, List.mem_cons] at h
      rcases h with rfl | h
      · simp
      · obtain ⟨h1, h2⟩ := ih w h
        exact ⟨fun y hy => List.mem_cons_of_mem _ (h1 y hy), by simp only [List.length_cons]; omega⟩
    · simp only [Cp12.parted, if_neg e] at h
      cases q : Cp12.parted c u with
      | nil => exact absurd q (parted_ne c u)
      | cons v r =>
        rw [q] at h ih
        rcases List.mem_cons.mp h with rfl | h
        · obtain ⟨h1, h2⟩ := ih v (by simp)
          refine ⟨fun y hy => ?_, by simp only [List.length_cons]; omega⟩
          rcases List.mem_cons.mp hy with rfl | hy
          · simp
          · exact List.mem_cons_of_mem _ (h1 y hy)
        · obtain ⟨h1, h2⟩ := ih w (by simp [h])
          exact ⟨fun y hy => List.mem_cons_of_mem _ (h1 y hy), by simp only [List.length_cons]; omega⟩
theorem parted_asc {c : Nat} {u : Bytes} (h : Asc u) : ∀ w ∈ Cp12.parted c u, Asc w := fun w hw x hx => h x ((parted_mem c u w hw).1 x hx)
/-- a note's letter, mark, octave -/
def note? (a : Bytes) (n : Nat) : Option Ev := match a with
  | [] => none
  | c :: r => match Cp12.letters.findIdx? fun x => x == c with
    | none => none
    | some i => match r.getLast? with
      | none => none
      | some o => if Cp12.digit o = false then none else (Cp12.signs.find? fun s => s.1 == r.dropLast).map fun s => (⟨some ⟨7 * ((o - 48 : Nat) : Int) + (i : Int), s.2⟩, n⟩ : Ev)
theorem event_eq (u : Bytes) : Cp12.event? u = match Cp12.parted 58 u with
    | [a, b] => (Cp12.num? 1 1024 b).bind fun n => if a = [114] then some ⟨none, n⟩ else note? a n
    | _ => none := by
  unfold Cp12.event?
  split
  · rename_i a b hq
    rw [hq]
    show ((Cp12.num? 1 1024 b).bind _) = (Cp12.num? 1 1024 b).bind _
    congr 1
    funext n
    cases a with
    | nil => rfl
    | cons c r =>
      by_cases e : c = 114
      · subst e
        by_cases er : r = []
        · subst er; rfl
        · simp only [if_true]
          rw [if_neg er, if_neg (by simp [er])]
          show none = note? (114 :: r) n
          simp only [note?]
          rw [show (Cp12.letters.findIdx? fun x => x == 114) = none by decide]
      · simp only
        rw [if_neg e, if_neg (by simp [e])]
        rfl
  · rename_i h
    split
    · rename_i a b q; exact absurd q (h a b)
    · rfl
theorem find_letter : ∀ c, c < 128 → Txt.find (Str.ofString "cdefgab") (tx [c]) = match (Cp12.letters.findIdx? fun x => x == c) with
    | none => -1
    | some i => (i : Int) := by decide +kernel
theorem letter_lt {c i : Nat} (h : (Cp12.letters.findIdx? fun x => x == c) = some i) : i < 7 := by
  have := List.findIdx?_eq_some_iff_getElem.mp h
  obtain ⟨h1, _⟩ := this
  exact h1
theorem cut_mark (c o : Nat) (m : Bytes) : cutS (tx (c :: (m ++ [o]))) (some 1) (some (-1)) = tx m := by
  apply ext_tl
  show ((c :: (m ++ [o])).drop _).take _ = m
  rw [tx_len]
  have l : (c :: (m ++ [o])).length = m.length + 2 := by simp
  rw [l]
  have e1 : HT.sIx (m.length + 2) 0 (some 1) = 1 := by
    show (if (1 : Int) < 0 then ((1 : Int) + ((m.length + 2 : Nat) : Int)).toNat else min (1 : Int).toNat (m.length + 2)) = 1
    rw [if_neg (by decide)]
    show min 1 (m.length + 2) = 1
    omega
  have e2 : HT.sIx (m.length + 2) (m.length + 2) (some (-1)) = m.length + 1 := by
    show (if (-1 : Int) < 0 then ((-1 : Int) + ((m.length + 2 : Nat) : Int)).toNat else min (-1 : Int).toNat (m.length + 2)) = _
    rw [if_pos (by decide)]
    omega
  rw [e1, e2]
  simp
theorem inV_strs (w : Bytes) (ss : List Str) : inV (.str (tx w)) (ss.map V.str) = (ss.map tl).contains w := by
  unfold inV
  induction ss with
  | nil => rfl
  | cons s r ih =>
    rw [List.map_cons, List.any_cons, ih, List.map_cons, List.contains_cons]
    congr 1
    show eqV (.str s) (.str (tx w)) = _
    by_cases c : s = tx w
    · subst c; simp [eqV, tl_tx]
    · have : w ≠ tl s := fun q => c (ext_tl (by rw [tl_tx]; exact q.symm))
      simp only [eqV]
      rw [beq_eq_false_iff_ne.mpr c, beq_eq_false_iff_ne.mpr this]
section
variable {P : Program} {w : World} {K : PySem.W.Frag} {mg : Str → Option Value} {base : Heap} {aM aR aP aS aN aB : Addr}
/-! ### is_name -/
abbrev s_is_name : Stmt := top 9
abbrev n_is_name : List Str := ["word"]
theorem sc_is_name : FnScope n_is_name ["word"] (defScope s_is_name) := ⟨rfl, rfl, rfl, by decide +kernel, rfl, by decide +kernel, by decide +kernel⟩

def sp_is_name : Sp := fun vs H Q _ => ∃ u, vs = [.str (tx u)] ∧ Asc u ∧ u.length ≤ 1000 ∧ Q (.bl (Cp12.isName u)) H
theorem ok_is_name {f : Addr} {fd : FuncData} (F : Fun K "is_name" "is_name" s_is_name f fd) (T : Txt K w mg aM aR aP aS aN aB) : FnOk P w K mg base CX0 1 f fd ["word"] sp_is_name := by
  refine F.ok sc_is_name (fun vs H Q E h => ?_) (fun cdv A outer s H vs Q E hr h => ?_)
  · obtain ⟨u, rfl, _⟩ := h; rfl
  · have hu := hu_of hr
    obtain ⟨u, rfl, ha, hl, q⟩ := h
    refine ⟨_, (pss_cons (ps_if (PW.pt (pw_or (pt_not (pt_val (pe_m0 PySem.F.slot_str_isalpha PySem.F.type_str_isalpha mt_isalpha (pv 0)))) (pw_or1 (pt_not (pt_val (pe_m0 PySem.F.slot_str_islower PySem.F.type_str_islower mt_islower (pv 0))))))) (pss_one (ps_ret pe_bl)) pss_nil) (pss_one (ps_ret (pe_and (pe_cmpR op_le (pe_callB call_len_str (by rfl) T.b_len (by decide +kernel) (pa_cons (pv 0) pa_nil)) (pe_gint (by rfl) T.g_MOST_LETTERS) (nomark _)) (pe_one (pe_cmpR op_notIn_seq (pv 0) (pe_gref (by rfl) T.g_RESERVED_WORDS) rfl)))))), ?_⟩
    have key := name_tx ha
    have key2 : Cp12.isName u = ((Txt.isalpha (tx u) && Txt.islower (tx u)) && (decide (u.length ≤ 8) && !Cp12.KEPT.contains u)) := by
      rw [key]
      unfold Cp12.isName
      cases decide (1 ≤ u.length) <;> cases u.all Cp12.small <;> simp
    refine ⟨_, rfl, ⟨_, rfl⟩, _, rfl, rfl, trivial, _, rfl, if_b (fun c1 => ?_) (fun c1 => ?_)⟩
    · have : Txt.isalpha (tx u) = false := by simpa using c1
      rw [key2, this] at q
      exact q
    · have c1 : Txt.isalpha (tx u) = true := by simpa using c1
      refine ⟨_, rfl, ⟨_, rfl⟩, _, rfl, rfl, trivial, _, rfl, if_b (fun c2 => ?_) (fun c2 => ?_)⟩
      · have : Txt.islower (tx u) = false := by simpa using c2
        rw [key2, this, Bool.and_false] at q
        exact q
      · have c2 : Txt.islower (tx u) = true := by simpa using c2
        rw [key2, c1, c2] at q
        simp only [Bool.true_and] at q
        refine ⟨_, rfl, _, rfl, by rw [tx_len]; exact Nat.le_of_lt (small1000 hl), _, _, rfl, rfl, _, rfl, if_b (fun c3 => ?_) (fun c3 => ?_)⟩
        · rw [tx_len] at c3
          have c3 : u.length ≤ 8 := by simp at c3; omega
          rw [decide_eq_true c3] at q
          refine ⟨_, rfl, _, _, rfl, .inr (T.q_res _), rfl, rfl, ?_⟩
          show Q (.bl (!inV (.str (tx u)) _)) H
          rw [inV_strs]
          exact q
        · rw [tx_len] at c3
          have c3 : ¬ u.length ≤ 8 := by simp at c3; omega
          rw [decide_eq_false c3] at q
          exact q
/-! ### read_number -/
abbrev s_read_number : Stmt := top 10
abbrev n_read_number : List Str := ["word", "low", "high", "number"]
theorem sc_read_number : FnScope n_read_number ["word", "low", "high"] (defScope s_read_number) := ⟨rfl, rfl, rfl, by decide +kernel, rfl, by decide +kernel, by decide +kernel⟩

def numV : Option Nat → V
  | none => .non
  | some n => .int n
def sp_read_number : Sp := fun vs H Q _ => ∃ (u : Bytes) (lo hi : Nat), vs = [.str (tx u), .int lo, .int hi] ∧ Asc u ∧ u.length ≤ 1000 ∧ Q (numV (Cp12.num? lo hi u)) H
theorem ok_read_number {f : Addr} {fd : FuncData} (F : Fun K "read_number" "read_number" s_read_number f fd) (T : Txt K w mg aM aR aP aS aN aB) : FnOk P w K mg base CX0 1 f fd ["word", "low", "high"] sp_read_number := by
  refine F.ok sc_read_number (fun vs H Q E h => ?_) (fun cdv A outer s H vs Q E hr h => ?_)
  · obtain ⟨u, lo, hi, rfl, _⟩ := h; rfl
  · have hu := hu_of hr
    obtain ⟨u, lo, hi, rfl, ha, hl, q⟩ := h
    refine ⟨_, (pss_cons (ps_if (PW.pt (pw_or (pt_not (pt_val (pe_m0 PySem.F.slot_str_isdigit PySem.F.type_str_isdigit mt_isdigit (pv 0)))) (pw_or1 (pt_cmpR op_gt (pe_callB call_len_str (by rfl) T.b_len (by decide +kernel) (pa_cons (pv 0) pa_nil)) (pe_gint (by rfl) T.g_MOST_DIGITS) (nomark _))))) (pss_one (ps_ret pe_non)) pss_nil) (pss_cons (ps_if (PW.pt (pw_and (pt_cmpR op_eq (pe_ix ix_str (pv 0) pe_int (fun _ _ => rfl)) pe_str (nomark _)) (pw_and1 (pt_cmpR op_gt (pe_callB call_len_str (by rfl) T.b_len (by decide +kernel) (pa_cons (pv 0) pa_nil)) pe_int (nomark _))))) (pss_one (ps_ret pe_non)) pss_nil) (pss_cons (ps_set (i := 3) sc_read_number.nd rfl (Or.inl rfl) (pe_callTy call_int_str (by rfl) T.b_int (by decide +kernel) (pa_cons (pv 0) pa_nil))) (pss_one (ps_ret (pe_ifExp (pt_chain op_le op_le (pv 1) (pv 3) (pv 2)) (pv 3) pe_non)))))), ?_⟩
    have hz : (tx u).length ≤ sizeLine := by rw [tx_len]; exact Nat.le_of_lt (small1000 hl)
    refine ⟨_, rfl, ⟨_, rfl⟩, _, rfl, rfl, trivial, _, rfl, if_b (fun c1 => ?_) (fun c1 => ?_)⟩
    · have c1 : Txt.isdigit (tx u) = false := by simpa using c1
      have e : Cp12.num? lo hi u = none := by
        rw [isdigit_tx ha] at c1
        unfold Cp12.num?
        rw [if_pos]
        cases u with
        | nil => exact .inl rfl
        | cons c r =>
          refine .inr (.inr (.inl ?_))
          simpa using c1
      rw [e] at q
      exact q
    · have c1 : Txt.isdigit (tx u) = true := by simpa using c1
      rw [isdigit_tx ha] at c1
      simp only [Bool.and_eq_true, decide_eq_true_eq] at c1
      obtain ⟨c1, c1'⟩ := c1
      have une : u ≠ [] := fun q => by rw [q] at c1; simp at c1
      refine ⟨_, rfl, _, rfl, hz, _, _, rfl, rfl, _, rfl, if_b (fun c2 => ?_) (fun c2 => ?_)⟩
      · rw [tx_len] at c2
        have c2 : 4 < u.length := by simp at c2; omega
        have e : Cp12.num? lo hi u = none := by
          unfold Cp12.num?
          rw [if_pos (.inr (.inl c2))]
        rw [e] at q
        exact q
      · rw [tx_len] at c2
        have c2 : u.length ≤ 4 := by simp at c2; omega
        obtain ⟨c, r, rfl⟩ : ∃ c r, u = c :: r := by
          cases u with
          | nil => exact absurd rfl une
          | cons c r => exact ⟨c, r, rfl⟩
        have fin : (1 < (c :: r).length → c ≠ 48) → ∀ (σ : L2.St), σ = [some (.str (tx (c :: r))), some (.int lo), some (.int hi), none] →
            (tSeq (tAsg (tCB (fun xs H Q => ∃ a n, xs = [.str a] ∧ PySem.intText? a = some n ∧ a.length ≤ 640 ∧ Q (.int n) H) (tCons (tVar 0) tNil)) (gName 3))
              (tRet (tIf (tTest (tChain (rI0 fun i j => .bl (decide (i ≤ j))) (rI0 fun i j => .bl (decide (i ≤ j))) (tVar 1) (tVar 3) (tVar 2))) (tVar 3) (tC .non)))) { nx := fun _ H' => Q .non H', rt := Q } σ H := by
          rintro h0 σ rfl
          refine ⟨_, rfl, _, _, rfl, int_tx c1' une (by omega), by rw [tx_len]; omega, ?_⟩
          have e : Cp12.num? lo hi (c :: r) = if lo ≤ (c :: r).foldl (fun n c => 10 * n + (c - 48)) 0 ∧ (c :: r).foldl (fun n c => 10 * n + (c - 48)) 0 ≤ hi then some ((c :: r).foldl (fun n c => 10 * n + (c - 48)) 0) else none := by
            unfold Cp12.num?
            rw [if_neg]
            rintro (z | z | z | z)
            · cases z
            · omega
            · rw [c1'] at z; cases z
            · exact h0 z.1 z.2
          rw [e] at q
          generalize (c :: r).foldl (fun n c => 10 * n + (c - 48)) 0 = n at q
          refine ⟨_, rfl, _, rfl, _, _, rfl, rfl, _, rfl, if_b (fun c5 => ?_) (fun c5 => ?_)⟩
          · have c5 : lo ≤ n := by simp at c5; omega
            refine ⟨_, rfl, _, _, rfl, rfl, _, rfl, if_b (fun c6 => ?_) (fun c6 => ?_)⟩
            · have c6 : n ≤ hi := by simp at c6; omega
              rw [if_pos ⟨c5, c6⟩] at q
              exact ⟨_, rfl, q⟩
            · have c6 : ¬ n ≤ hi := by simp at c6; omega
              rw [if_neg (fun z => c6 z.2)] at q
              exact q
          · have c5 : ¬ lo ≤ n := by simp at c5; omega
            rw [if_neg (fun z => c5 z.1)] at q
            exact ⟨_, rfl, q⟩
        refine ⟨_, rfl, tx (c :: r), 0, c, rfl, rfl, hz, atI_nat (j := 0) rfl, rfl, _, rfl, if_b (fun c3 => ?_) (fun c3 => ?_)⟩
        · have c3 : c = 48 := by
            have : decide (V.str (tx [c]) = V.str (Str.ofString "0")) = true := c3
            rw [eq_lit] at this
            have := of_decide_eq_true this
            exact (List.cons.inj this).1
          refine ⟨_, rfl, _, rfl, hz, _, _, rfl, rfl, _, rfl, if_b (fun c4 => ?_) (fun c4 => ?_)⟩
          · rw [tx_len] at c4
            have c4 : 1 < (c :: r).length := by have := of_decide_eq_true c4; omega
            have e : Cp12.num? lo hi (c :: r) = none := by
              unfold Cp12.num?
              rw [if_pos (.inr (.inr (.inr ⟨c4, c3⟩)))]
            rw [e] at q
            exact q
          · rw [tx_len] at c4
            have c4 : ¬ 1 < (c :: r).length := by have := of_decide_eq_false c4; omega
            exact fin (fun z => absurd z c4) _ rfl
        · have c3 : c ≠ 48 := by
            rintro rfl
            have : decide (V.str (tx [48]) = V.str (Str.ofString "0")) = false := c3
            rw [eq_lit] at this
            exact absurd this (by decide)
          exact fin (fun _ => c3) _ rfl
/-! ### is_rest, is_in_range -/
abbrev s_is_rest : Stmt := top 13
abbrev n_is_rest : List Str := ["event"]
theorem sc_is_rest : FnScope n_is_rest ["event"] (defScope s_is_rest) := ⟨rfl, rfl, rfl, by decide +kernel, rfl, by decide +kernel, by decide +kernel⟩

def sp_is_rest : Sp := fun vs H Q _ => ∃ (v : V) (e : Ev), vs = [v] ∧ EvAt H v e ∧ Q (.bl e.n.isNone) H
theorem ok_is_rest {f : Addr} {fd : FuncData} (F : Fun K "is_rest" "is_rest" s_is_rest f fd) (T : Txt K w mg aM aR aP aS aN aB) : FnOk P w K mg base CX0 1 f fd ["event"] sp_is_rest := by
  refine F.ok sc_is_rest (fun vs H Q E h => ?_) (fun cdv A outer s H vs Q E hr h => ?_)
  · obtain ⟨v, e, rfl, _⟩ := h; rfl
  · obtain ⟨v, e, rfl, ⟨a, rfl, he⟩, q⟩ := h
    refine ⟨_, (pss_one (ps_ret (pe_cmpR op_isN (pe_ix ix_tup (pv 0) pe_int (fun _ _ => rfl)) pe_non (nomark _)))), ?_⟩
    obtain ⟨en, el⟩ := e
    cases en with
    | none => exact ⟨_, rfl, a, _, 0, _, rfl, rfl, SqT.of he, atI_nat (j := 0) rfl, rfl, q⟩
    | some n => exact ⟨_, rfl, a, _, 0, _, rfl, rfl, SqT.of he, atI_nat (j := 0) rfl, rfl, q⟩
def okEv (e : Ev) : Bool := (match e.n with
  | none => true
  | some n => Cp12.isNote n) && (decide (1 ≤ e.len) && decide (e.len ≤ 1024))
theorem ev2 (e : Ev) : (evV e)[2]? = some (.int e.len) := by
  obtain ⟨en, el⟩ := e
  cases en <;> rfl
abbrev s_is_in_range : Stmt := top 14
abbrev n_is_in_range : List Str := ["event"]
theorem sc_is_in_range : FnScope n_is_in_range ["event"] (defScope s_is_in_range) := ⟨rfl, rfl, rfl, by decide +kernel, rfl, by decide +kernel, by decide +kernel⟩

def sp_is_in_range : Sp := fun vs H Q _ => ∃ (v : V) (e : Ev), vs = [v] ∧ EvAt H v e ∧ Q (.bl (okEv e)) H
theorem ok_is_in_range {f : Addr} {fd : FuncData} (F : Fun K "is_in_range" "is_in_range" s_is_in_range f fd) (T : Txt K w mg aM aR aP aS aN aB) (f_is_rest : Callee P w K mg base "is_rest" 1 ["event"] sp_is_rest) : FnOk P w K mg base CX0 2 f fd ["event"] sp_is_in_range := by
  refine F.ok sc_is_in_range (fun vs H Q E h => ?_) (fun cdv A outer s H vs Q E hr h => ?_)
  · obtain ⟨v, e, rfl, _⟩ := h; rfl
  · obtain ⟨v, e, rfl, ⟨a, rfl, he⟩, q⟩ := h
    refine ⟨_, (pss_cons (ps_if (PW.pt (pw_or (pt_cmpR op_lt (pe_ix ix_tup (pv 0) pe_int (fun _ _ => rfl)) pe_int (nomark _)) (pw_or1 (pt_cmpR op_gt (pe_ix ix_tup (pv 0) pe_int (fun _ _ => rfl)) (pe_gint (by rfl) T.g_LONGEST_EVENT) (nomark _))))) (pss_one (ps_ret pe_bl)) pss_nil) (pss_cons (ps_if (pt_val (pe_do f_is_rest hr (by decide) (by rfl) (pa_cons (pv 0) pa_nil))) (pss_one (ps_ret pe_bl)) pss_nil) (pss_one (ps_ret (pe_and (pe_chain op_le op_le pe_int (pe_ix ix_tup (pv 0) pe_int (fun _ _ => rfl)) (pe_gint (by rfl) T.g_HIGHEST_STEP)) (pe_one (pe_cmpR op_le (pe_callB call_abs (by rfl) T.b_abs (by decide +kernel) (pa_cons (pe_ix ix_tup (pv 0) pe_int (fun _ _ => rfl)) pa_nil)) (pe_gint (by rfl) T.g_WIDEST_ALTERATION) (nomark _)))))))), ?_⟩
    refine ⟨_, rfl, a, _, 2, _, rfl, rfl, SqT.of he, atI_nat (j := 2) (ev2 e), _, _, rfl, rfl, _, rfl, if_b (fun c1 => ?_) (fun c1 => ?_)⟩
    · have c1 : ¬ 1 ≤ e.len := by simp at c1; omega
      have : okEv e = false := by simp [okEv, c1]
      rw [this] at q
      exact q
    · have c1 : 1 ≤ e.len := by simp at c1; omega
      refine ⟨_, rfl, a, _, 2, _, rfl, rfl, SqT.of he, atI_nat (j := 2) (ev2 e), _, _, rfl, rfl, _, rfl, if_b (fun c2 => ?_) (fun c2 => ?_)⟩
      · have c2 : ¬ e.len ≤ 1024 := by simp at c2; omega
        have : okEv e = false := by simp [okEv, c2]
        rw [this] at q
        exact q
      · have c2 : e.len ≤ 1024 := by simp at c2; omega
        refine ⟨_, rfl, _, e, rfl, ⟨a, rfl, he⟩, _, rfl, ?_⟩
        obtain ⟨en, el⟩ := e
        cases en with
        | none =>
          have : okEv ⟨none, el⟩ = true := by simp [okEv]; exact ⟨c1, c2⟩
          rw [this] at q
          exact q
        | some n =>
          obtain ⟨d, al⟩ := n
          have : okEv ⟨some ⟨d, al⟩, el⟩ = Cp12.isNote ⟨d, al⟩ := by
            unfold okEv
            rw [decide_eq_true (show 1 ≤ el from c1), decide_eq_true (show el ≤ 1024 from c2)]
            simp
          rw [this] at q
          refine ⟨_, rfl, a, _, 0, _, rfl, rfl, SqT.of he, atI_nat (j := 0) rfl, _, _, rfl, rfl, _, rfl, if_b (fun c3 => ?_) (fun c3 => ?_)⟩
          · have c3 : 0 ≤ d := by simpa using c3
            refine ⟨_, _, rfl, rfl, ?_⟩
            refine ⟨_, rfl, if_b (fun c4 => ?_) (fun c4 => ?_)⟩
            · have c4 : d ≤ 69 := by simpa using c4
              refine ⟨_, rfl, a, _, 1, _, rfl, rfl, SqT.of he, atI_nat (j := 1) rfl, _, rfl, _, _, rfl, rfl, ?_⟩
              have : Cp12.isNote ⟨d, al⟩ = decide ((if al < 0 then -al else al) ≤ 2) := by
                simp only [Cp12.isNote, decide_eq_true c3, decide_eq_true c4, Bool.true_and]
                rw [Bool.eq_iff_iff]
                simp only [Bool.and_eq_true, decide_eq_true_eq]
                split <;> omega
              rw [this] at q
              exact q
            · have c4 : ¬ d ≤ 69 := by simpa using c4
              have : Cp12.isNote ⟨d, al⟩ = false := by simp [Cp12.isNote, c4]
              rw [this] at q
              exact q
          · have c3 : ¬ 0 ≤ d := by simpa using c3
            have : Cp12.isNote ⟨d, al⟩ = false := by simp [Cp12.isNote, c3]
            rw [this] at q
            exact ⟨_, rfl, q⟩
/-! ### read_note, read_event -/
abbrev s_read_note : Stmt := top 12
abbrev n_read_note : List Str := ["pitch", "length", "letter", "mark", "step"]
theorem sc_read_note : FnScope n_read_note ["pitch", "length"] (defScope s_read_note) := ⟨rfl, rfl, rfl, by decide +kernel, rfl, by decide +kernel, by decide +kernel⟩

def sp_read_note : Sp := fun vs H Q _ => ∃ (a : Bytes) (n : Nat) (G : Hp), vs = [.str (tx a), .int n] ∧ Asc a ∧ a.length ≤ 1000 ∧ Same G H ∧ ∀ v G' H', Grow G H G' H' → OptR EvAt G' v (note? a n) → Q v H'
theorem marks_tl : ((["bb", "b", "", "#", "x"] : List Str).map tl) = [[98, 98], [98], [], [35], [120]] := by decide +kernel
theorem mark_ix (m : Bytes) (h : (((["bb", "b", "", "#", "x"] : List Str).map tl)).contains m = true) : ∃ (j : Nat) (s : Bytes × Int), (["bb", "b", "", "#", "x"] : List Str)[j]? = some (tx m) ∧ (∀ i, i < j → (["bb", "b", "", "#", "x"] : List Str)[i]? ≠ some (tx m)) ∧
    (Cp12.signs.find? fun s => s.1 == m) = some s ∧ s.2 = (j : Int) - 2 := by
  rw [marks_tl] at h
  have : m = [98, 98] ∨ m = [98] ∨ m = [] ∨ m = [35] ∨ m = [120] := by simpa using h
  rcases this with rfl | rfl | rfl | rfl | rfl
  · exact ⟨0, (ascii "bb", -2), by decide +kernel, by decide +kernel, by decide +kernel, rfl⟩
  · exact ⟨1, (ascii "b", -1), by decide +kernel, by decide +kernel, by decide +kernel, rfl⟩
  · exact ⟨2, ([], 0), by decide +kernel, by decide +kernel, by decide +kernel, rfl⟩
  · exact ⟨3, (ascii "#", 1), by decide +kernel, by decide +kernel, by decide +kernel, rfl⟩
  · exact ⟨4, (ascii "x", 2), by decide +kernel, by decide +kernel, by decide +kernel, rfl⟩
theorem mark_none (m : Bytes) (h : (((["bb", "b", "", "#", "x"] : List Str).map tl)).contains m = false) : (Cp12.signs.find? fun s => s.1 == m) = none := by
  rw [marks_tl] at h
  have h : m ≠ [98, 98] ∧ m ≠ [98] ∧ m ≠ [] ∧ m ≠ [35] ∧ m ≠ [120] := by simpa using h
  rw [List.find?_eq_none]
  intro s hs
  have : s = ([98, 98], -2) ∨ s = ([98], -1) ∨ s = ([35], 1) ∨ s = ([120], 2) ∨ s = ([], 0) := by
    have e : Cp12.signs = [([98, 98], -2), ([98], -1), ([35], 1), ([120], 2), ([], 0)] := by decide +kernel
    rw [e] at hs
    simpa using hs
  rcases this with rfl | rfl | rfl | rfl | rfl
  · simpa using fun q => h.1 q.symm
  · simpa using fun q => h.2.1 q.symm
  · simpa using fun q => h.2.2.2.1 q.symm
  · simpa using fun q => h.2.2.2.2 q.symm
  · simpa using h.2.2.1
theorem note_eq (c o : Nat) (m : Bytes) (n : Nat) : note? (c :: (m ++ [o])) n = match (Cp12.letters.findIdx? fun x => x == c) with
    | none => none
    | some i => if Cp12.digit o = false then none else (Cp12.signs.find? fun s => s.1 == m).map fun s => (⟨some ⟨7 * ((o - 48 : Nat) : Int) + (i : Int), s.2⟩, n⟩ : Ev) := by
  simp [note?]
theorem short_or (a : Bytes) : (a.length < 2) ∨ ∃ c m o, a = c :: (m ++ [o]) := by
  cases a with
  | nil => exact .inl (by simp)
  | cons c r =>
    rcases List.eq_nil_or_concat r with rfl | ⟨m, o, rfl⟩
    · exact .inl (by simp)
    · exact .inr ⟨c, m, o, by simp⟩
theorem ok_read_note {f : Addr} {fd : FuncData} (F : Fun K "read_note" "read_note" s_read_note f fd) (T : Txt K w mg aM aR aP aS aN aB) : FnOk P w K mg base CX0 1 f fd ["pitch", "length"] sp_read_note := by
  refine F.ok sc_read_note (fun vs H Q E h => ?_) (fun cdv A outer s H vs Q E hr h => ?_)
  · obtain ⟨a, n, G, rfl, _⟩ := h; rfl
  · obtain ⟨a, n, G, rfl, ha, hl, hG, q⟩ := h
    refine ⟨_, (pss_cons (ps_if (PW.pt (pw_or (pt_cmpR op_lt (pe_callB call_len_str (by rfl) T.b_len (by decide +kernel) (pa_cons (pv 0) pa_nil)) pe_int (nomark _)) (pw_or1 (pt_not (pt_val (pe_m0 PySem.F.slot_str_isdigit PySem.F.type_str_isdigit mt_isdigit (pe_ix ix_str (pv 0) (pe_un un_neg pe_int) (fun _ _ => rfl)))))))) (pss_one (ps_ret pe_non)) pss_nil) (pss_cons (ps_set (i := 2) sc_read_note.nd rfl (Or.inl rfl) (pe_m1 PySem.F.slot_str_find PySem.F.type_str_find mt_find (pe_gstr (by rfl) T.g_STEP_LETTERS) (pe_ix ix_str (pv 0) pe_int (fun _ _ => rfl)))) (pss_cons (ps_set (i := 3) sc_read_note.nd rfl (Or.inl rfl) (pe_slice sl_str (pv 0) (po_some pe_int) (po_some (pe_un un_neg pe_int)))) (pss_cons (ps_if (PW.pt (pw_or (pt_cmpR op_lt (pv 2) pe_int (nomark _)) (pw_or1 (pt_cmpR op_notIn_seq (pv 3) (pe_gref (by rfl) T.g_ALTERATION_MARKS) rfl)))) (pss_one (ps_ret pe_non)) pss_nil) (pss_cons (ps_set (i := 4) sc_read_note.nd rfl (Or.inl rfl) (pe_op op_add (pe_op op_mul (pe_callTy call_int_str (by rfl) T.b_int (by decide +kernel) (pa_cons (pe_ix ix_str (pv 0) (pe_un un_neg pe_int) (fun _ _ => rfl)) pa_nil)) (pe_callB call_len_str (by rfl) T.b_len (by decide +kernel) (pa_cons (pe_gstr (by rfl) T.g_STEP_LETTERS) pa_nil))) (pv 2))) (pss_one (ps_ret (pe_tup (pa_cons (pv 4) (pa_cons (pe_op op_sub (pe_bm PySem.F.plainAttrs_tuple PySem.F.slot_tuple_index PySem.F.type_tuple_index mt_tup_index (pe_gref (by rfl) T.g_ALTERATION_MARKS) (pa_cons (pv 3) pa_nil)) (pe_gint (by rfl) T.g_WIDEST_ALTERATION)) (pa_cons (pv 1) pa_nil))))))))))), ?_⟩
    have hz : (tx a).length ≤ sizeLine := by rw [tx_len]; exact Nat.le_of_lt (small1000 hl)
    refine ⟨_, rfl, _, rfl, hz, _, _, rfl, rfl, _, rfl, if_b (fun c1 => ?_) (fun c1 => ?_)⟩
    · rw [tx_len] at c1
      have c1 : a.length < 2 := by have := of_decide_eq_true c1; omega
      have e : note? a n = none := by
        cases a with
        | nil => rfl
        | cons c r =>
          cases r with
          | nil =>
            simp only [note?, List.getLast?_nil]
            split <;> rfl
          | cons d r => simp at c1; omega
      exact q _ _ _ (Grow.refl hG) (by rw [e]; rfl)
    · rw [tx_len] at c1
      have c1 : ¬ a.length < 2 := by have := of_decide_eq_false c1; omega
      obtain ⟨c, m, o, rfl⟩ := (short_or a).resolve_left c1
      have hat : atI (c :: (m ++ [o])) (-1) = some o := atI_last (c :: m) o
      have ho : o < 128 := ha o (by simp)
      have hc : c < 128 := ha c (by simp)
      have adig : Txt.isdigit (tx [o]) = Cp12.digit o := by
        rw [isdigit_tx (fun x hx => by rw [List.mem_singleton.mp hx]; exact ho)]; simp
      rw [note_eq] at q
      refine ⟨_, rfl, _, rfl, tx (c :: (m ++ [o])), -1, o, rfl, rfl, hz, hat, ⟨tx [o], rfl⟩, tx [o], rfl, rfl, trivial, _, rfl, if_b (fun c2 => ?_) (fun c2 => ?_)⟩
      · have c2 : Cp12.digit o = false := by rw [adig] at c2; simpa using c2
        refine q _ _ _ (Grow.refl hG) ?_
        split
        · rfl
        · rw [if_pos c2]; rfl
      · have c2 : Cp12.digit o = true := by rw [adig] at c2; simpa using c2
        refine ⟨⟨_, rfl⟩, _, rfl, tx (c :: (m ++ [o])), 0, c, rfl, rfl, hz, atI_nat (j := 0) rfl, _, tx [c], rfl, rfl, ?_⟩
        refine ⟨_, rfl, 1, rfl, 1, rfl, -1, rfl, _, rfl, hz, ?_⟩
        rw [cut_mark, find_letter c hc]
        cases hf : (Cp12.letters.findIdx? fun x => x == c) with
        | none =>
          rw [hf] at q
          refine ⟨_, rfl, _, _, rfl, rfl, _, rfl, ?_⟩
          exact q _ _ _ (Grow.refl hG) rfl
        | some i =>
          rw [hf] at q
          have hi : i < 7 := letter_lt hf
          refine ⟨_, rfl, _, _, rfl, rfl, _, rfl, if_b (fun c3 => ?_) (fun c3 => ?_)⟩
          · have := of_decide_eq_true c3; simp only at this; omega
          · refine ⟨_, rfl, _, _, rfl, .inr (T.q_marks _), rfl, rfl, _, rfl, if_b (fun c4 => ?_) (fun c4 => ?_)⟩
            · have c4 : (((["bb", "b", "", "#", "x"] : List Str).map tl)).contains m = false := by
                have : (!inV (.str (tx m)) ((["bb", "b", "", "#", "x"] : List Str).map V.str)) = true := c4
                rw [inV_strs] at this
                simpa using this
              have e := mark_none m c4
              simp only [if_neg (show ¬ Cp12.digit o = false by rw [c2]; decide), e, Option.map_none] at q
              exact q _ _ _ (Grow.refl hG) rfl
            · have c4 : (((["bb", "b", "", "#", "x"] : List Str).map tl)).contains m = true := by
                have : (!inV (.str (tx m)) ((["bb", "b", "", "#", "x"] : List Str).map V.str)) = false := c4
                rw [inV_strs] at this
                simpa only [Bool.not_eq_false'] using this
              obtain ⟨j, sg, hj, hjm, hsg, hs2⟩ := mark_ix m c4
              simp only [if_neg (show ¬ Cp12.digit o = false by rw [c2]; decide), hsg, Option.map_some] at q
              have hdig : 48 ≤ o ∧ o ≤ 57 := by simpa only [Cp12.digit, Bool.and_eq_true, decide_eq_true_eq] using c2
              refine ⟨_, rfl, _, rfl, tx (c :: (m ++ [o])), -1, o, rfl, rfl, hz, hat, tx [o], _, rfl, int_tx (u := [o]) (by simp [c2]) (by simp) (by simp), by rw [tx_len]; simp, ?_⟩
              refine ⟨_, rfl, by decide, _, _, rfl, rfl, .inr ⟨by decide, by decide⟩, _, rfl, _, _, rfl, rfl, ?_⟩
              refine ⟨_, rfl, .inr (.inl ⟨rfl, T.k_marks⟩), _, rfl, aM, _, tx m, j, rfl, rfl, T.q_marks _, hj, hjm, _, _, rfl, rfl, _, rfl, (by show 3 ≤ sizeLine; decide), fun p hp => ?_⟩
              refine q _ _ _ (Grow.new hG hp) ⟨p, rfl, ?_⟩
              rw [upd_same]
              show some (HO.tup _) = some (HO.tup [.int (7 * ((o - 48 : Nat) : Int) + (i : Int)), .int sg.2, .int n])
              have e1 : ((([o] : List Nat).foldl (fun n c => 10 * n + (c - 48)) 0 : Nat) : Int) * ((Str.ofString "cdefgab").length : Int) + (i : Int) = 7 * ((o - 48 : Nat) : Int) + (i : Int) := by
                have : (Str.ofString "cdefgab").length = 7 := by decide +kernel
                rw [this]
                show (((10 * 0 + (o - 48) : Nat) : Int)) * ((7 : Nat) : Int) + (i : Int) = _
                omega
              show some (HO.tup [.int (((([o] : List Nat).foldl (fun n c => 10 * n + (c - 48)) 0 : Nat) : Int) * ((Str.ofString "cdefgab").length : Int) + (i : Int)), .int ((j : Int) - 2), .int n]) = _
              rw [e1, hs2]
abbrev s_read_event : Stmt := top 11
abbrev n_read_event : List Str := ["word", "pieces", "length"]
theorem sc_read_event : FnScope n_read_event ["word"] (defScope s_read_event) := ⟨rfl, rfl, rfl, by decide +kernel, rfl, by decide +kernel, by decide +kernel⟩

def sp_read_event : Sp := fun vs H Q _ => ∃ (u : Bytes) (G : Hp), vs = [.str (tx u)] ∧ Asc u ∧ u.length ≤ 1000 ∧ Same G H ∧ ∀ v G' H', Grow G H G' H' → OptR EvAt G' v (Cp12.event? u) → Q v H'
theorem ok_read_event {f : Addr} {fd : FuncData} (F : Fun K "read_event" "read_event" s_read_event f fd) (T : Txt K w mg aM aR aP aS aN aB) (f_read_number : Callee P w K mg base "read_number" 1 ["word", "low", "high"] sp_read_number) (f_read_note : Callee P w K mg base "read_note" 1 ["pitch", "length"] sp_read_note) : FnOk P w K mg base CX0 2 f fd ["word"] sp_read_event := by
  refine F.ok sc_read_event (fun vs H Q E h => ?_) (fun cdv A outer s H vs Q E hr h => ?_)
  · obtain ⟨u, G, rfl, _⟩ := h; rfl
  · obtain ⟨u, G, rfl, ha, hl, hG, q⟩ := h
    refine ⟨_, (pss_cons (ps_set (i := 1) sc_read_event.nd rfl (Or.inl rfl) (pe_split (pv 0) pe_str)) (pss_cons (ps_if (pt_cmpR op_ne (pe_callB call_len_seq (by rfl) T.b_len (by decide +kernel) (pa_cons (pv 1) pa_nil)) pe_int (nomark _)) (pss_one (ps_ret pe_non)) pss_nil) (pss_cons (ps_set (i := 2) sc_read_event.nd rfl (Or.inl rfl) (pe_do f_read_number hr (by decide) (by rfl) (pa_cons (pe_ix ix_list (pv 1) pe_int (fun _ _ => rfl)) (pa_cons pe_int (pa_cons (pe_gint (by rfl) T.g_LONGEST_EVENT) pa_nil))))) (pss_cons (ps_if (pt_cmpR op_isN (pv 2) pe_non (nomark _)) (pss_one (ps_ret pe_non)) pss_nil) (pss_cons (ps_if (pt_cmpR op_eq (pe_ix ix_list (pv 1) pe_int (fun _ _ => rfl)) pe_str (nomark _)) (pss_one (ps_ret (pe_tup (pa_cons pe_non (pa_cons pe_int (pa_cons (pv 2) pa_nil)))))) pss_nil) (pss_one (ps_ret (pe_do f_read_note hr (by decide) (by rfl) (pa_cons (pe_ix ix_list (pv 1) pe_int (fun _ _ => rfl)) (pa_cons (pv 2) pa_nil)))))))))), ?_⟩
    rw [event_eq] at q
    refine ⟨_, rfl, ⟨_, rfl⟩, tx u, tx [58], rfl, by rw [lit]; rfl, by decide, by rw [tx_len, szL]; omega, fun p hp => ?_⟩
    rw [split_tx u 58 (by decide)]
    have hps : SqL K (upd H p (.lst (((Cp12.parted 58 u).map tx).map V.str))) p (((Cp12.parted 58 u).map tx).map V.str) := SqL.of upd_same
    have s1 : Same H (upd H p (.lst (((Cp12.parted 58 u).map tx).map V.str))) := same_new hp
    have g1 : Grow G H G (upd H p (.lst (((Cp12.parted 58 u).map tx).map V.str))) := Grow.of hG s1
    have hmem := parted_mem 58 u
    have hasc := parted_asc (c := 58) ha
    generalize (upd H p (.lst (((Cp12.parted 58 u).map tx).map V.str))) = H1 at *
    generalize Cp12.parted 58 u = ps at *
    refine ⟨_, rfl, p, _, rfl, .inl hps, rfl, _, rfl, if_b (fun c1 => ?_) (fun c1 => ?_)⟩
    · have c1 : ps.length ≠ 2 := by
        intro z
        have : (!decide (V.int ((ps.map tx).map V.str).length = V.int 2)) = true := c1
        rw [List.length_map, List.length_map, z] at this
        exact absurd this (by decide)
      refine q _ _ _ g1 ?_
      split
      · exact absurd rfl c1
      · rfl
    · have c1 : ps.length = 2 := by
        have : (!decide (V.int ((ps.map tx).map V.str).length = V.int 2)) = false := c1
        rw [List.length_map, List.length_map] at this
        have := V.int.inj (of_decide_eq_true (by simpa only [Bool.not_eq_false'] using this))
        omega
      obtain ⟨a, b, rfl⟩ : ∃ a b, ps = [a, b] := by
        match ps, c1 with
        | [a, b], _ => exact ⟨a, b, rfl⟩
      simp only at q
      have hb := hmem b (by simp)
      have hA := hmem a (by simp)
      refine ⟨_, rfl, p, _, 1, _, rfl, rfl, hps, atI_nat (j := 1) rfl, b, 1, 1024, rfl, hasc b (by simp), by omega, ?_⟩
      cases hn : Cp12.num? 1 1024 b with
      | none =>
        rw [hn] at q
        refine ⟨_, rfl, rfl, _, rfl, ?_⟩
        exact q _ _ _ g1 rfl
      | some n =>
        rw [hn] at q
        simp only [Option.bind_some] at q
        refine ⟨_, rfl, rfl, _, rfl, ?_⟩
        refine ⟨_, rfl, p, _, 0, _, rfl, rfl, hps, atI_nat (j := 0) rfl, rfl, _, rfl, if_b (fun c2 => ?_) (fun c2 => ?_)⟩
        · have c2 : a = [114] := by
            have : decide (V.str (tx a) = V.str (Str.ofString "r")) = true := c2
            rw [eq_lit] at this
            exact of_decide_eq_true this
          rw [if_pos c2] at q
          refine ⟨_, rfl, (by show 3 ≤ sizeLine; decide), fun t ht => ?_⟩
          refine q _ _ _ (g1.trans (Grow.new (o := .tup (evV ⟨none, n⟩)) g1.i ht)) ⟨t, rfl, upd_same⟩
        · have c2 : a ≠ [114] := by
            have : decide (V.str (tx a) = V.str (Str.ofString "r")) = false := c2
            rw [eq_lit] at this
            exact of_decide_eq_false this
          rw [if_neg c2] at q
          refine ⟨_, rfl, p, _, 0, _, rfl, rfl, hps, atI_nat (j := 0) rfl, _, rfl, a, n, G, rfl, hasc a (by simp), by omega, g1.i, fun v G' H' g' r => q v G' H' (g1.trans g') r⟩
/-! ### event_text -/
abbrev s_event_text : Stmt := top 15
abbrev n_event_text : List Str := ["event", "length", "letter", "octave", "mark"]
theorem sc_event_text : FnScope n_event_text ["event"] (defScope s_event_text) := ⟨rfl, rfl, rfl, by decide +kernel, rfl, by decide +kernel, by decide +kernel⟩

def sp_event_text : Sp := fun vs H Q _ => ∃ (v : V) (e : Ev), vs = [v] ∧ EvAt H v e ∧ okEv e = true ∧ Q (.str (tx (Cp12.eventText e))) H
theorem log_small {n : Int} (h0 : 0 ≤ n) (h : n < 2 ^ 40) : n.natAbs.log2 < 1920 := by
  have : n.natAbs < 2 ^ 40 := by omega
  by_cases c : n.natAbs = 0
  · rw [c]; decide
  · have := (Nat.log2_lt c).mpr this
    omega
theorem tx_numI {n : Int} (h : 0 ≤ n) : Str.ofString (toString n) = tx (Cp12.decimal n.toNat) := by
  obtain ⟨k, rfl⟩ := Int.eq_ofNat_of_zero_le h
  rw [tx_num]; rfl
theorem joined_len {a b : Bytes} {k : Nat} (h : a.length + b.length ≤ k) : (tx a ++ tx b).length ≤ k := by
  rw [tx_append, tx_len, List.length_append]; exact h
theorem dec_len {n : Nat} (h : n < 10 ^ 12) : (Cp12.decimal n).length ≤ 12 := numL_len (by decide) h
theorem eventText_note (d a : Int) (n : Nat) (hd : 0 ≤ d ∧ d ≤ 69) (ha : -2 ≤ a ∧ a ≤ 2) : ∃ (c : Nat) (m : Str), atI (tl (Str.ofString "cdefgab")) (d % 7) = some c ∧ atI ((["bb", "b", "", "#", "x"] : List Str).map V.str) (a + 2) = some (.str m) ∧
    Cp12.eventText ⟨some ⟨d, a⟩, n⟩ = (([c] ++ tl m) ++ Cp12.decimal (d / 7).toNat ++ [58]) ++ Cp12.decimal n ∧ (tl m).length ≤ 2 := by
  have hc1 : atI (tl (Str.ofString "cdefgab")) (d % 7) = some (Cp12.letters.getD (d % 7).toNat 0) := by
    have : d % 7 = 0 ∨ d % 7 = 1 ∨ d % 7 = 2 ∨ d % 7 = 3 ∨ d % 7 = 4 ∨ d % 7 = 5 ∨ d % 7 = 6 := by omega
    rcases this with h | h | h | h | h | h | h <;> rw [h] <;> decide +kernel
  have hm : ∃ m : Str, atI ((["bb", "b", "", "#", "x"] : List Str).map V.str) (a + 2) = some (.str m) ∧ (((Cp12.signs.find? fun s => s.2 == a).map fun s => s.1).getD []) = tl m ∧ (tl m).length ≤ 2 := by
    have : a = -2 ∨ a = -1 ∨ a = 0 ∨ a = 1 ∨ a = 2 := by omega
    rcases this with rfl | rfl | rfl | rfl | rfl
    · exact ⟨"bb", by decide +kernel, by decide +kernel, by decide +kernel⟩
    · exact ⟨"b", by decide +kernel, by decide +kernel, by decide +kernel⟩
    · exact ⟨"", by decide +kernel, by decide +kernel, by decide +kernel⟩
    · exact ⟨"#", by decide +kernel, by decide +kernel, by decide +kernel⟩
    · exact ⟨"x", by decide +kernel, by decide +kernel, by decide +kernel⟩
  obtain ⟨m, hm1, hm2, hm3⟩ := hm
  refine ⟨_, m, hc1, hm1, ?_, hm3⟩
  unfold Cp12.eventText
  simp only
  rw [hm2]
  simp
theorem ok_event_text {f : Addr} {fd : FuncData} (F : Fun K "event_text" "event_text" s_event_text f fd) (T : Txt K w mg aM aR aP aS aN aB) (f_is_rest : Callee P w K mg base "is_rest" 1 ["event"] sp_is_rest) : FnOk P w K mg base CX0 2 f fd ["event"] sp_event_text := by
  refine F.ok sc_event_text (fun vs H Q E h => ?_) (fun cdv A outer s H vs Q E hr h => ?_)
  · obtain ⟨v, e, rfl, _⟩ := h; rfl
  · obtain ⟨v, e, rfl, ⟨a, rfl, he⟩, ok, q⟩ := h
    refine ⟨_, (pss_cons (ps_set (i := 1) sc_event_text.nd rfl (Or.inl rfl) (pe_ix ix_tup (pv 0) pe_int (fun _ _ => rfl))) (pss_cons (ps_if (pt_val (pe_do f_is_rest hr (by decide) (by rfl) (pa_cons (pv 0) pa_nil))) (pss_one (ps_ret (pe_joined (.cons pe_str (.cons (pe_fmt (pv 1)) .nil))))) pss_nil) (pss_cons (ps_set (i := 2) sc_event_text.nd rfl (Or.inl rfl) (pe_ix ix_str (pe_gstr (by rfl) T.g_STEP_LETTERS) (pe_op op_mod (pe_ix ix_tup (pv 0) pe_int (fun _ _ => rfl)) (pe_callB call_len_str (by rfl) T.b_len (by decide +kernel) (pa_cons (pe_gstr (by rfl) T.g_STEP_LETTERS) pa_nil))) (fun _ _ => rfl))) (pss_cons (ps_set (i := 3) sc_event_text.nd rfl (Or.inl rfl) (pe_op op_fdiv (pe_ix ix_tup (pv 0) pe_int (fun _ _ => rfl)) (pe_callB call_len_str (by rfl) T.b_len (by decide +kernel) (pa_cons (pe_gstr (by rfl) T.g_STEP_LETTERS) pa_nil)))) (pss_cons (ps_set (i := 4) sc_event_text.nd rfl (Or.inl rfl) (pe_ix ix_tup (pe_gref (by rfl) T.g_ALTERATION_MARKS) (pe_op op_add (pe_ix ix_tup (pv 0) pe_int (fun _ _ => rfl)) (pe_gint (by rfl) T.g_WIDEST_ALTERATION)) (fun _ _ => rfl))) (pss_one (ps_ret (pe_joined (.cons (pe_fmt (pv 2)) (.cons (pe_fmt (pv 4)) (.cons (pe_fmt (pv 3)) (.cons pe_str (.cons (pe_fmt (pv 1)) .nil))))))))))))), ?_⟩
    refine ⟨_, rfl, a, _, 2, _, rfl, rfl, SqT.of he, atI_nat (j := 2) (ev2 e), _, rfl, _, e, rfl, ⟨a, rfl, he⟩, _, rfl, ?_⟩
    obtain ⟨en, n⟩ := e
    have hn : n ≤ 1024 := by
      simp only [okEv, Bool.and_eq_true, decide_eq_true_eq] at ok
      exact ok.2.2
    have hlen : (Cp12.decimal n).length ≤ 12 := dec_len (by omega)
    cases en with
    | none =>
      refine ⟨Str.ofString "r:", rfl, by decide +kernel, _, rfl, .inr ⟨(n : Int), rfl, log_small (by omega) (by omega), _, rfl, ?_, ?_⟩⟩
      · rw [lit, show (Str.empty ++ tx (ascii "r:")) = tx (ascii "r:") from by decide +kernel, tx_numI (by omega)]
        refine joined_len ?_
        rw [szL]
        have : (ascii "r:").length = 2 := by decide
        simp only [Int.toNat_natCast]
        omega
      · rw [lit, show (Str.empty ++ tx (ascii "r:")) = tx (ascii "r:") from by decide +kernel, tx_numI (by omega), tx_append]
        exact q
    | some nt =>
      obtain ⟨d, al⟩ := nt
      have hnote : (0 ≤ d ∧ d ≤ 69) ∧ (-2 ≤ al ∧ al ≤ 2) := by
        simp only [okEv, Cp12.isNote, Bool.and_eq_true, decide_eq_true_eq] at ok
        omega
      obtain ⟨c, m, h1, h2, h3, h4⟩ := eventText_note d al n hnote.1 hnote.2
      rw [h3] at q
      have l7 : ((Str.ofString "cdefgab").length : Int) = 7 := by decide +kernel
      have hzl : (Str.ofString "cdefgab").length ≤ sizeLine := by decide +kernel
      have e0 : atI (evV ⟨some ⟨d, al⟩, n⟩) 0 = some (.int d) := atI_nat (j := 0) rfl
      have e1 : atI (evV ⟨some ⟨d, al⟩, n⟩) 1 = some (.int al) := atI_nat (j := 1) rfl
      refine ⟨_, rfl, a, _, 0, _, rfl, rfl, SqT.of he, e0, _, rfl, hzl, _, _, rfl, rfl, (by rw [l7]; show (0 : Int) < 7; decide), _, _, c, rfl, rfl, hzl, by rw [l7]; exact h1, ?_⟩
      refine ⟨_, rfl, a, _, 0, _, rfl, rfl, SqT.of he, e0, _, rfl, hzl, _, _, rfl, rfl, by rw [l7]; exact ⟨by decide, by decide⟩, ?_⟩
      refine ⟨_, rfl, a, _, 1, _, rfl, rfl, SqT.of he, e1, _, _, rfl, rfl, aM, _, _, _, rfl, rfl, T.q_marks _, h2, ?_⟩
      rw [l7]
      have em : m = tx (tl m) := ext_tl rfl
      have z1 : (Str.empty ++ tx [c]) = tx [c] := ext_tl (by rw [tl_append]; rfl)
      have hdl : (Cp12.decimal (d / 7).toNat).length ≤ 12 := dec_len (by omega)
      have lc : (Str.ofString ":") = tx [58] := by rw [lit]; rfl
      refine ⟨_, rfl, .inl ⟨tx [c], rfl, (by rw [tx_len]; show 1 ≤ sizeLine; decide), tx [c], rfl, (by rw [z1, tx_len]; show 1 ≤ sizeLine; decide), ?_⟩⟩
      rw [z1]
      refine ⟨_, rfl, .inl ⟨m, rfl, by rw [em, tx_len, szL]; omega, m, rfl, by rw [em]; exact joined_len (by rw [szL, List.length_singleton]; omega), ?_⟩⟩
      rw [em, tx_append]
      refine ⟨_, rfl, .inr ⟨d / 7, rfl, log_small (by omega) (by omega), _, rfl, by rw [tx_numI (by omega)]; exact joined_len (by simp only [List.length_append, List.length_singleton]; rw [szL]; omega), ?_⟩⟩
      rw [tx_numI (show 0 ≤ d / 7 by omega), tx_append]
      refine ⟨_, rfl, by rw [lc]; exact joined_len (by simp only [List.length_append, List.length_singleton]; rw [szL]; omega), ?_⟩
      rw [lc, tx_append]
      refine ⟨_, rfl, .inr ⟨(n : Int), rfl, log_small (by omega) (by omega), _, rfl, by rw [tx_numI (by omega)]; exact joined_len (by simp only [List.length_append, List.length_singleton, Int.toNat_natCast]; rw [szL]; omega), ?_⟩⟩
      rw [tx_numI (show (0 : Int) ≤ (n : Int) by omega), tx_append]
      exact q
end
end Pbd
/-! list(reversed(xs)) -/
namespace Pbd
open PySem PySem.Spec PyProof.Rows L2 TL RT
section
variable {prog : Program} {w : World} {A : Around} {E : Value → Shared → Prop} {s : Shared}
theorem rev_extend {R : Result → Shared → Prop} {it l : Addr} {items : Array Value} (hh : A.handled = none) (hit : s.heap.IsRevIter it l ((items.size : Int) - 1)) (hl : s.heap.IsList l items) (hne : l ≠ it) (hn : items.size ≤ sizeLine) (S : Addr) (hSi : S ≠ it) (hSl : S ≠ l) (res : Value) (c₀ : Nat)
    (hS : s.heap.get? S = some { cls := .type "list", data := .seq #[] c₀ })
    (hR : ∀ h' tk acc' c', (∀ b o, b ≠ S → b ≠ it → s.heap.get? b = some o → h'.get? b = some o) → h'.get? S = some { cls := .type "list", dict := none, data := .seq acc' c', slots := #[] } → ItemsOf (fun i v => items[items.size - 1 - i]? = some v) acc' items.size → R (.ok (.ret res)) { s with heap := h', toks := tk }) :
    wpAny (model prog w) A.in1 (Builtin.List.listExtendWith (.ref S) (.ref it) res)
      (fun fin s' => match fin with | .done f => R (.ok f) s' | .again c' => c'.quiet = true ∧ codeAny (model prog w) A c' R s') (fun e s' => R (.error e) s') s := by
  have W := (Walks.listRev (prog := prog) (w := w) (A := A.in1) hh it l hne items).toS
  have hSf : S ∉ [it, l] := by simp only [List.mem_cons, List.not_mem_nil, or_false, not_or]; exact ⟨hSi, hSl⟩
  have hT : s.TypeIs (.ref it) "list_reverseiterator" := hit.typeIs
  have h1 : Builtin.List.listSameRef (.ref S) (.ref it) = false := by simp [Builtin.List.listSameRef, hSi]
  unfold Builtin.List.listExtendWith
  refine wpAny_bind (wpAny_typeOf hT ?_)
  rw [if_neg (by rw [h1]; decide)]
  refine wpAny_bind (wpAny_pyIter_revIter hit ?_)
  refine wpAny_bind (wpAny_holding ?_)
  unfold Builtin.List.listLengthHint
  refine wpAny_bind (wpAny_specialOf hT nolen_lri ?_)
  show wpAny _ A.in1 (specialOf (Value.ref it) (Str.ofString "__length_hint__") >>= _) _ _ _
  refine wpAny_bind (wpAny_specialOf hT hint_lri ?_)
  generalize hid : ("list_reverseiterator.__length_hint__" : String) = id0
  wp_delta
  rw [show splitId id0 = some ("list_reverseiterator", "__length_hint__") from by subst hid; decide +kernel]
  subst hid
  refine wpAny_bind (wpAny_isInstance (b := true) hT (by rw [isSubtype_type]; kernel_rfl) ?_)
  refine wpAny_pure ?_
  rw [if_neg (by decide)]
  have e0 : ((items.size : Nat) : Int) - 1 - ((0 : Nat) : Int) = (items.size : Int) - 1 := by omega
  refine wpAny_pure ⟨plainId_quiet F.plain_extend_loop _, codeAny_extend_loopS W hn _ hSf _ items.size 0 _ _ _ rfl (Nat.zero_le _) ⟨Nat.zero_le _, by rw [e0]; exact hit, hl⟩ hS (ItemsOf.nil _) fun s' acc' c' hm hS' hacc => ?_⟩
  rw [Moved.eq_with hm]
  refine hR s'.heap s'.toks acc' c' (fun b o hb hi e => hm.heap b o (fun hmem => ?_) e) hS' hacc
  rcases List.mem_cons.mp hmem with e' | hmem
  · exact hb e'
  · exact hi (List.mem_singleton.mp hmem)
theorem rev_call {Q : Value → Shared → Prop} {it l : Addr} {items : Array Value} (hh : A.handled = none) (hit : s.heap.IsRevIter it l ((items.size : Int) - 1)) (hl : s.heap.IsList l items) (hne : l ≠ it) (hn : items.size ≤ sizeLine)
    (hQ : ∀ h' tk acc' c', (∀ b o, b ≠ it → s.heap.get? b = some o → h'.get? b = some o) → h'.get? s.heap.objs.size = some { cls := .type "list", dict := none, data := .seq acc' c', slots := #[] } → ItemsOf (fun i v => items[items.size - 1 - i]? = some v) acc' items.size → Q (.ref s.heap.objs.size) { s with heap := h', toks := tk }) :
    wpAny (model prog w) A (call (.type "list") [.ref it]) Q E s := by
  refine callType_codes (Q₁ := fun obj s₁ => obj = .ref s.heap.objs.size ∧ s₁ = { s with heap := s.heap.push { cls := .type "list", data := .seq #[] } }) PySem.F.called_list (PySem.F.typeCall_list_1 _) PySem.F.entry_list_init
    (code_list_new _ ⟨rfl, rfl⟩) fun obj s₁ h₁ => ?_
  obtain ⟨rfl, rfl⟩ := h₁
  have hS : (s.heap.push { cls := .type "list", data := .seq #[] }).get? s.heap.objs.size = some { cls := .type "list", data := .seq #[] } := Heap.get?_push_size _ rfl
  obtain ⟨oi, hoi, _⟩ := id hit
  obtain ⟨ol, hol, _⟩ := id hl
  have hSi : s.heap.objs.size ≠ it := Nat.ne_of_gt (Heap.lt_size hoi)
  have hSl : s.heap.objs.size ≠ l := Nat.ne_of_gt (Heap.lt_size hol)
  refine ⟨⟨_, hS, rfl⟩, PySem.F.args_list_init_2 _ _, ?_⟩
  show wpAny _ _ (do let old ← Builtin.List.listItems (.ref s.heap.objs.size); Builtin.List.listUpdate (.ref s.heap.objs.size) (fun _ => #[]); letGo old.toList.reverse; Builtin.List.listExtendWith (.ref s.heap.objs.size) (.ref it) .none) _ _ _
  refine wpAny_bind ?_
  unfold Builtin.List.listItems
  refine wpAny_bind (wpAny_seqItems hS rfl (wpAny_pure ?_))
  show wpAny _ _ (updateSeq s.heap.objs.size (fun _ => #[]) >>= fun _ => letGo (#[] : Array Value).toList.reverse >>= fun _ => Builtin.List.listExtendWith (.ref s.heap.objs.size) (.ref it) .none) _ _ _
  refine wpAny_bind (wpAny_updateSeq hS rfl ?_)
  have hS₂ := Heap.get?_update_self (Obj.mapSeq (fun _ => (#[] : Array Value))) hS rfl
  have oth : ∀ b o, b ≠ s.heap.objs.size → s.heap.get? b = some o → ((s.heap.push { cls := .type "list", data := .seq #[] }).update s.heap.objs.size (Obj.mapSeq (fun _ => (#[] : Array Value)))).get? b = some o :=
    fun b o hb e => (Heap.get?_update_other _ _ (Ne.symm hb)).trans (Heap.get?_push_of_some _ e)
  refine wpAny_bind (wpAny_letGo ?_)
  refine rev_extend (A := A.in1) hh (hit.at fun o e => oth _ _ hSi.symm e) (hl.at fun o e => oth _ _ hSl.symm e) hne hn _ hSi hSl .none _ hS₂ (fun h' tk acc' c' hk hS' hacc => ?_)
  exact ⟨rfl, hQ h' tk acc' c' (fun b o hb e => hk b o (Nat.ne_of_lt (Heap.lt_size e)) hb (oth b o (Nat.ne_of_lt (Heap.lt_size e)) e)) hS' hacc⟩
end
/-- list(reversed(x)), x a list: a new list -/
def tListRev (K : PySem.W.Frag) (te : TE) : TE := fun σ H Q => te σ H fun v H1 => ∃ (a : Addr) (xs : List V), v = .ref a ∧ SqL K H1 a xs ∧ ∀ q, H1 q = none → Q (.ref q) (upd H1 q (.lst xs.reverse))
section
variable {X : Cx}
theorem pe_listRev {e : Expr} {te : TE} {p p2 pos pos2 : Pos} (hc : X.calm = true) (hg : Gl X "list") (hm : X.mg "list" = none) (hg2 : Gl X "reversed") (hm2 : X.mg "reversed" = none) (he : PE X e te)
    (hs : starEach [e] X.env = (false, eval e X.env) :: starEach [] X.env := by rfl)
    (hs2 : starEach [.Call (.Name "reversed" p2) [e] [] pos2] X.env = (false, eval (.Call (.Name "reversed" p2) [e] [] pos2) X.env) :: starEach [] X.env := by rfl) :
    PE X (.Call (.Name "list" p) [.Call (.Name "reversed" p2) [e] [] pos2] [] pos) (tListRev X.K te) := by
  refine ⟨fun pins s σ H Q I h => ?_⟩
  refine Call_ (ld_blt I hg hm boot_list (PyProof.Rows.callWith_type1 (args_cons (Call_ (ld_blt I hg2 hm2 PyProof.Rows.boot_reversed (PyProof.Rows.callWith_type1 (args_cons (thn (he.run pins s σ H _ I h) fun u s1 ⟨v, H1, I1, r1, q1⟩ => args_nil ?_) hs) hs rfl))) hs2) hs2 rfl))
  obtain ⟨a, xs, ev, hq, q⟩ := q1
  subst ev
  obtain rfl : u = Value.ref a := r1
  obtain ⟨its, rv, p', hz⟩ := I1.list hq
  refine call_reversed_list p'.isList (args_nil ?_)
  have k0 : ∀ b o, s1.heap.get? b = some o → (s1.heap.push (revObj a ((its.toArray.size : Int) - 1))).get? b = some o := fun b o e => Heap.get?_push_of_some _ e
  have I2 : Inv X pins σ H1 { s1 with heap := s1.heap.push (revObj a ((its.toArray.size : Int) - 1)) } := I1.kept (t' := s1.toks) k0
  have ff := I1.fpOk (H' := H1) (b := s1.heap.objs.size) (Nat.le_refl _) (I1.hok.fresh (Nat.le_refl _))
  have hl := p'.isList
  obtain ⟨ol, hol, _⟩ := id hl
  have hne : a ≠ s1.heap.objs.size := Nat.ne_of_lt (Heap.lt_size hol)
  have hn : its.toArray.size ≤ sizeLine := by rw [List.size_toArray, ← rv.length]; exact hz
  refine rev_call (s := { s1 with heap := s1.heap.push (revObj a ((its.toArray.size : Int) - 1)) }) (I1.ok.hd hc) ⟨_, Heap.get?_push_size _ rfl, rfl, rfl⟩ (hl.push _) hne hn fun h' tk acc c' hk hD hi => ?_
  refine ⟨.ref (s1.heap.push (revObj a ((its.toArray.size : Int) - 1))).objs.size, upd H1 (s1.heap.push (revObj a ((its.toArray.size : Int) - 1))).objs.size (.lst xs.reverse),
    I2.turnedNew (t' := tk) (ch := [s1.heap.objs.size]) (fun b o hb e => hk b o (fun z => hb (by simp [z])) e) (fun b hb => by rw [List.mem_singleton.mp hb]; exact ff) (Nat.le_refl _)
      ⟨by rw [List.length_reverse]; exact hz, acc.toList, c', vals_rev rv hi, by rw [Array.toArray_toList]; exact hD⟩, rfl, q _ (I2.hok.fresh (Nat.le_refl _))⟩
end
end Pbd
namespace Pbd
open PySem PySem.Spec PyProof.Rows L2 TL
open Cp12 (Bytes ascii)
/-- a loop over enumerate(list) -/
theorem for_enum {K : PySem.W.Frag} {a : Addr} {xs : List V} {g : TG} {tb : TS} {D : Ends} {σ : L2.St} {H : Hp} (Pv : Nat → L2.St → Hp → Prop) (h0 : Pv 0 σ H) (hl : ∀ i σ H, i ≤ xs.length → Pv i σ H → SqL K H a xs)
    (hs : ∀ (i : Nat) (x : V) (T : Addr) (σ : L2.St) (H : Hp), xs[i]? = some x → Pv i σ H → H T = none → g (.ref T) σ (upd H T (.tup [.int (i : Nat), x])) fun σ2 H2 => tb { D with nx := Pv (i + 1), ct := Pv (i + 1), bk := D.nx } σ2 H2) (hd : ∀ σ H, Pv xs.length σ H → D.nx σ H) :
    ∃ W : Nat → Nat → L2.St → Hp → Prop, (∃ m, W 0 m σ H) ∧ ∀ i m σ H, W i m σ H →
      ((Ite K a).stop i H ∧ D.nx σ H) ∨ ((Ite K a).go i H ∧ ∃ N : L2.St → Hp → Prop, (∀ σ' H', N σ' H' → ∃ m', m' < m ∧ W (i + 1) m' σ' H') ∧ ∀ x H', (Ite K a).yld i H x H' → g x σ H' fun σ2 H2 => tb { D with nx := N, ct := N, bk := D.nx } σ2 H2) := by
  refine ⟨fun i m σ H => m = xs.length - i ∧ i ≤ xs.length ∧ Pv i σ H, ⟨xs.length, by simp, Nat.zero_le _, h0⟩, ?_⟩
  rintro i m σ H ⟨rfl, hi, p⟩
  have q := hl i σ H hi p
  by_cases hlt : i < xs.length
  · refine .inr ⟨⟨xs, xs[i], q, by simp [hlt]⟩, Pv (i + 1), fun σ' H' p' => ⟨xs.length - (i + 1), by omega, rfl, hlt, p'⟩, fun x H' y => ?_⟩
    obtain ⟨T, x1, rfl, hT, rfl, hy⟩ := y
    exact hs i x1 T σ _ (hy xs q) p hT
  · have e : i = xs.length := by omega
    subst e
    exact .inl ⟨⟨xs, q, Nat.le_refl _⟩, hd σ H p⟩
/-- [x for x in xs if ..] -/
theorem lc_keep {K : PySem.W.Frag} {α : Type} {a : Addr} {ps : List (V × α)} {keep : V × α → Bool} {i0 : Nat} {tt : TT} {te : TE} {σ : L2.St} {H1 : Hp} {D : Addr} {Qd : Hp → Prop} (hS : SqL K H1 a (ps.map (·.1))) (hD : H1 D = none) (hb : ps.length ≤ 100000)
    (hw : ∀ x : V, wipe ((wipe σ [i0]).set i0 (some x)) [i0] = wipe σ [i0])
    (hs : ∀ (i : Nat) (p : V × α) (H : Hp) (Q : Bool → Hp → Prop), ps[i]? = some p → Same H1 H → (∀ H', Same H H' → Q (keep p) H') → tt ((wipe σ [i0]).set i0 (some p.1)) H Q)
    (hv : ∀ (x : V) (H : Hp) (Q : VK), Q x H → te ((wipe σ [i0]).set i0 (some x)) H Q) (hd : ∀ H, Same H1 H → H D = some (.lst ((ps.filter keep).map (·.1))) → Qd H) :
    ∃ W : Nat → Nat → Hp → Prop, (∃ m, W 0 m (upd H1 D (.lst []))) ∧ ∀ i m H, W i m H →
      ((Itl K a).stop i H ∧ Qd H) ∨ ((Itl K a).go i H ∧ ∃ Nx : Hp → Prop, (∀ H', Nx H' → ∃ m', m' < m ∧ W (i + 1) m' H') ∧ ∀ x H', (Itl K a).yld i H x H' → gName i0 x (wipe σ [i0]) H' fun σ2 H2 => wipe σ2 [i0] = wipe σ [i0] ∧ tt σ2 H2 fun b H3 =>
        if b = true then te σ2 H3 fun y H4 => ∃ acc, H4 D = some (.lst acc) ∧ acc.length < sizeLine ∧ Nx (upd H4 D (.lst (acc ++ [y]))) else Nx H3) := by
  refine lc_list (K := K) (a := a) (xs := ps.map (·.1)) (fun i H => Same H1 H ∧ H D = some (.lst (((ps.take i).filter keep).map (·.1)))) ⟨same_new hD, by rw [upd_same]; rfl⟩ (fun i H _ ⟨s, _⟩ => s.seq hS) (fun i x H hx ⟨s, hh⟩ => ?_) (fun H ⟨s, hh⟩ => hd H s (by rw [hh, List.length_map, List.take_length]))
  rw [List.getElem?_map] at hx
  cases hp : ps[i]? with
  | none => rw [hp] at hx; cases hx
  | some p =>
    rw [hp] at hx
    cases hx
    refine ⟨hw p.1, ?_⟩
    refine hs i p H _ hp s fun H' s' => ?_
    have e : (ps.take (i + 1)).filter keep = (ps.take i).filter keep ++ if keep p then [p] else [] := by
      rw [take_more hp, List.filter_append]
      congr 1
      by_cases c : keep p = true
      · simp [c]
      · have c : keep p = false := by simpa using c
        simp [c]
    have hl : (((ps.take i).filter keep).map (·.1)).length < sizeLine := by
      rw [List.length_map, szL]
      have h1 := List.length_filter_le keep (ps.take i)
      rw [List.length_take] at h1
      omega
    refine if_b (fun c => ?_) (fun c => ?_)
    · refine hv _ _ _ ⟨_, s' _ _ hh, hl, fun b o q => ?_, ?_⟩
      · rw [upd_ne (ne_of_none q hD)]; exact s' _ _ (s _ _ q)
      · rw [upd_same, e, c]; simp
    · refine ⟨s.trans s', ?_⟩
      rw [s' _ _ hh, e, c]; simp
theorem paired_zip {α β : Type} {R : α → β → Prop} : ∀ {l : List α} {m : List β}, Paired R l m → ∃ ps : List (α × β), l = ps.map (·.1) ∧ m = ps.map (·.2) ∧ ∀ p ∈ ps, R p.1 p.2
  | _, _, .nil => ⟨[], rfl, rfl, by simp⟩
  | a :: _, b :: _, .cons r t => by
    obtain ⟨ps, h1, h2, h3⟩ := paired_zip t
    refine ⟨(a, b) :: ps, by rw [h1]; rfl, by rw [h2]; rfl, fun p hp => ?_⟩
    rcases List.mem_cons.mp hp with rfl | hp
    · exact r
    · exact h3 p hp
theorem first_note {α : Type} : ∀ ps : List (α × Ev), (ps.map (·.2)).findSome? (fun e => e.n) = ((ps.filter fun p => p.2.n.isSome).head?).bind fun p => p.2.n
  | [] => rfl
  | p :: r => by
    obtain ⟨v, en, el⟩ := p
    cases en with
    | none => simp [first_note r]
    | some n => simp
theorem fine_eq (l : Line) : Cp12.fine l = (decide (l.length ≤ 200) && l.all okEv) := rfl
theorem length_eq (l : Line) : ((Cp12.length l : Nat) : Int) = (l.map fun e => (e.len : Int)).sum := by
  unfold Cp12.length
  have : ∀ (ns : List Nat) (a : Nat), ((ns.foldl (· + ·) a : Nat) : Int) = (a : Int) + (ns.map fun (n : Nat) => (n : Int)).sum := by
    intro ns
    induction ns with
    | nil => intro a; simp
    | cons n r ih =>
      intro a
      simp only [List.foldl_cons, List.map_cons, List.sum_cons]
      rw [ih]
      omega
  rw [this, List.map_map]
  simp [Function.comp_def]
section
variable {P : Program} {w : World} {K : PySem.W.Frag} {mg : Str → Option Value} {base : Heap} {aM aR aP aS aN aB : Addr}
/-! ### is_valid, line_length -/
abbrev s_is_valid : Stmt := top 18
abbrev n_is_valid : List Str := ["line", "event"]
theorem sc_is_valid : FnScope n_is_valid ["line"] (defScope s_is_valid) := ⟨rfl, rfl, rfl, by decide +kernel, rfl, by decide +kernel, by decide +kernel⟩

def sp_is_valid : Sp := fun vs H Q _ => ∃ (v : V) (l : Line), vs = [v] ∧ LineAt H v l ∧ l.length ≤ 10000 ∧ ∀ H', Same H H' → Q (.bl (Cp12.fine l)) H'
theorem ok_is_valid {f : Addr} {fd : FuncData} (F : Fun K "is_valid" "is_valid" s_is_valid f fd) (T : Txt K w mg aM aR aP aS aN aB) (f_is_in_range : Callee P w K mg base "is_in_range" 2 ["event"] sp_is_in_range) : FnOk P w K mg base CX0 3 f fd ["line"] sp_is_valid := by
  refine F.ok sc_is_valid (fun vs H Q E h => ?_) (fun cdv A outer s H vs Q E hr h => ?_)
  · obtain ⟨v, l, rfl, _⟩ := h; rfl
  · obtain ⟨v, l, rfl, ⟨a, xs, rfl, ha, hp⟩, hl, q⟩ := h
    refine ⟨_, (pss_one (ps_ret (pe_and (pe_cmpR op_le (pe_callB call_len_seq (by rfl) T.b_len (by decide +kernel) (pa_cons (pv 0) pa_nil)) (pe_gint (by rfl) T.g_MOST_EVENTS) (nomark _)) (pe_one (pe_callB (cr_all rfl) (by rfl) T.b_all (by decide +kernel) (pa_cons (pe_lc (own := [("event", 1)]) (g := gName 1) rfl sc_is_valid.nd (pi_list (pv 0)) (blkOk_by (own := [("event", 1)]) (N := n_is_valid) (sc := defScope s_is_valid) (by decide +kernel)) (fun _ _ _ _ _ => pg_name (i := 1) sc_is_valid.nd rfl (Or.inl rfl)) (fun _ _ _ _ _ => pts_nil) (fun _ _ _ _ _ => (pe_do f_is_in_range hr (by decide) (by rfl) (pa_cons (pv 1) pa_nil)))) pa_nil)))))), ?_⟩
    have hxl := paired_len hp
    rw [fine_eq] at q
    refine ⟨_, rfl, a, _, rfl, .inl (SqL.of ha), _, _, rfl, rfl, _, rfl, if_b (fun c1 => ?_) (fun c1 => ?_)⟩
    · have c1 : l.length ≤ 200 := by have := of_decide_eq_true c1; omega
      rw [decide_eq_true c1] at q
      refine ⟨_, rfl, a, rfl, ⟨_, SqL.of ha⟩, fun D hD => lc_vals (xs := xs) (ys := l.map fun e => V.bl (okEv e)) (SqL.of ha) hD (by rw [List.length_map]; exact hxl.symm) (by omega) (fun _ => rfl) (fun i x y H' Q' hx hy s' k => ?_) (fun H' s' hD' => ?_)⟩
      · obtain ⟨e, he, hv⟩ := paired_get hp hx
        rw [List.getElem?_map, he] at hy
        cases hy
        exact ⟨_, rfl, _, e, rfl, hv.mono s', k _ (Same.refl _)⟩
      · refine ⟨D, l.map okEv, rfl, by rw [List.map_map]; exact SqL.of hD', ?_⟩
        rw [List.all_map]
        exact q H' s'
    · have c1 : ¬ l.length ≤ 200 := by have := of_decide_eq_false c1; omega
      rw [decide_eq_false c1] at q
      exact q _ (Same.refl _)
abbrev s_line_length : Stmt := top 19
abbrev n_line_length : List Str := ["line", "event"]
theorem sc_line_length : FnScope n_line_length ["line"] (defScope s_line_length) := ⟨rfl, rfl, rfl, by decide +kernel, rfl, by decide +kernel, by decide +kernel⟩

def sp_line_length : Sp := fun vs H Q _ => ∃ (v : V) (l : Line), vs = [v] ∧ LineAt H v l ∧ l.length ≤ 10000 ∧ ∀ H', Same H H' → Q (.int (Cp12.length l)) H'
theorem ok_line_length {f : Addr} {fd : FuncData} (F : Fun K "line_length" "line_length" s_line_length f fd) (T : Txt K w mg aM aR aP aS aN aB) : FnOk P w K mg base CX0 1 f fd ["line"] sp_line_length := by
  refine F.ok sc_line_length (fun vs H Q E h => ?_) (fun cdv A outer s H vs Q E hr h => ?_)
  · obtain ⟨v, l, rfl, _⟩ := h; rfl
  · obtain ⟨v, l, rfl, ⟨a, xs, rfl, ha, hp⟩, hl, q⟩ := h
    refine ⟨_, (pss_one (ps_ret (pe_callB (cr_sum rfl) (by rfl) T.b_sum (by decide +kernel) (pa_cons (pe_lc (own := [("event", 1)]) (g := gName 1) rfl sc_line_length.nd (pi_list (pv 0)) (blkOk_by (own := [("event", 1)]) (N := n_line_length) (sc := defScope s_line_length) (by decide +kernel)) (fun _ _ _ _ _ => pg_name (i := 1) sc_line_length.nd rfl (Or.inl rfl)) (fun _ _ _ _ _ => pts_nil) (fun _ _ _ _ _ => (pe_ix (ix_tupK K) (pv 1) pe_int (fun _ _ => rfl)))) pa_nil)))), ?_⟩
    have hxl := paired_len hp
    refine ⟨_, rfl, a, rfl, ⟨_, SqL.of ha⟩, fun D hD => lc_vals (xs := xs) (ys := l.map fun e => V.int e.len) (SqL.of ha) hD (by rw [List.length_map]; exact hxl.symm) (by omega) (fun _ => rfl) (fun i x y H' Q' hx hy s' k => ?_) (fun H' s' hD' => ?_)⟩
    · obtain ⟨e, he, t, rfl, ht⟩ := paired_get hp hx
      rw [List.getElem?_map, he] at hy
      cases hy
      exact ⟨_, rfl, t, _, 2, _, rfl, rfl, SqT.of (s' _ _ ht), atI_nat (j := 2) (ev2 e), k _ (Same.refl _)⟩
    · refine ⟨D, l.map fun e => (e.len : Int), rfl, by rw [List.map_map]; exact SqL.of hD', ?_⟩
      rw [← length_eq]
      exact q H' s'
/-! ### lines made anew -/
/-- what a def that makes a line hands back -/
def makes (G H : Hp) (Q : VK) (l : Line) : Prop := ∀ v G' H', Grow G H G' H' → LineAt G' v l → Q v H'
/-- a new list, made of events -/
theorem makes_new {G H G1 H1 : Hp} {Q : VK} {l : Line} {D : Addr} {vs : List V} (q : makes G H Q l) (g : Grow G H G1 H1) (h0 : H D = none) (gD : G1 D = none) (hD : H1 D = some (.lst vs)) (hp : Paired (EvAt G1) vs l) : Q (.ref D) H1 :=
  q _ _ _ (g.put h0 hD gD) ⟨D, vs, rfl, upd_same, paired_mono hp fun _ _ r => r.mono (same_new gD)⟩
theorem evV_move (d a n : Int) (k : Nat) : [V.int (d + n), V.int a, V.int k] = evV ⟨some ⟨d + n, a⟩, k⟩ := rfl
abbrev s_moved : Stmt := top 20
abbrev n_moved : List Str := ["line", "steps", "event"]
theorem sc_moved : FnScope n_moved ["line", "steps"] (defScope s_moved) := ⟨rfl, rfl, rfl, by decide +kernel, rfl, by decide +kernel, by decide +kernel⟩

def sp_moved : Sp := fun vs H Q _ => ∃ (v : V) (n : Int) (l : Line) (G : Hp), vs = [v, .int n] ∧ Same G H ∧ LineAt G v l ∧ l.length ≤ 10000 ∧ makes G H Q (Cp12.move n l)
theorem ok_moved {f : Addr} {fd : FuncData} (F : Fun K "moved" "moved" s_moved f fd) (T : Txt K w mg aM aR aP aS aN aB) (f_is_rest : Callee P w K mg base "is_rest" 1 ["event"] sp_is_rest) : FnOk P w K mg base CX0 2 f fd ["line", "steps"] sp_moved := by
  refine F.ok sc_moved (fun vs H Q E h => ?_) (fun cdv A outer s H vs Q E hr h => ?_)
  · obtain ⟨v, n, l, G, rfl, _⟩ := h; rfl
  · obtain ⟨v, n, l, G, rfl, hG, ⟨a, xs, rfl, ha, hp⟩, hl, q⟩ := h
    refine ⟨_, (pss_one (ps_ret (pe_lc (own := [("event", 2)]) (g := gName 2) rfl sc_moved.nd (pi_list (pv 0)) (blkOk_by (own := [("event", 2)]) (N := n_moved) (sc := defScope s_moved) (by decide +kernel)) (fun _ _ _ _ _ => pg_name (i := 2) sc_moved.nd rfl (Or.inl rfl)) (fun _ _ _ _ _ => pts_nil) (fun _ _ _ _ _ => (pe_ifExp (pt_val (pe_do f_is_rest hr (by decide) (by rfl) (pa_cons (pv 2) pa_nil))) (pv 2) (pe_tup (pa_cons (pe_op op_add (pe_ix (ix_tupK K) (pv 2) pe_int (fun _ _ => rfl)) (pv 1)) (pa_cons (pe_ix (ix_tupK K) (pv 2) pe_int (fun _ _ => rfl)) (pa_cons (pe_ix (ix_tupK K) (pv 2) pe_int (fun _ _ => rfl)) pa_nil))))))))), ?_⟩
    have hxl := paired_len hp
    have hS : SqL K H a xs := SqL.of (hG _ _ ha)
    refine ⟨_, rfl, a, rfl, ⟨_, hS⟩, fun D hD => lc_data (R := EvAt) (fun s r => r.mono s) (xs := xs) (ys := Cp12.move n l) hG hS hD (by rw [Cp12.move, List.length_map]; exact hxl.symm) (by omega) (fun _ => rfl) (fun i x y G1 H1 Q1 hx hy s1 s2 k => ?_) (fun G1 H1 vs g gD hD' hp' => ?_)⟩
    · obtain ⟨e, he, t, rfl, ht⟩ := paired_get hp hx
      rw [Cp12.move, List.getElem?_map, he] at hy
      cases hy
      have ht1 := s1 _ _ ht
      have ht2 := s2 _ _ ht1
      refine ⟨_, rfl, _, e, rfl, ⟨t, rfl, ht2⟩, _, rfl, ?_⟩
      obtain ⟨en, el⟩ := e
      cases en with
      | none => exact ⟨_, rfl, k _ _ _ (Grow.refl s2) ⟨t, rfl, ht1⟩⟩
      | some nt =>
        obtain ⟨d, al⟩ := nt
        refine ⟨_, rfl, t, _, 0, _, rfl, rfl, SqT.of ht2, atI_nat (j := 0) rfl, _, rfl, _, _, rfl, rfl, _, rfl, t, _, 1, _, rfl, rfl, SqT.of ht2, atI_nat (j := 1) rfl, _, rfl, t, _, 2, _, rfl, rfl, SqT.of ht2, atI_nat (j := 2) rfl, (by show 3 ≤ sizeLine; decide), fun p hp => ?_⟩
        exact k _ _ _ (Grow.new s2 hp) ⟨p, rfl, upd_same⟩
    · exact makes_new q g hD gD hD' hp'
abbrev s_stretched : Stmt := top 23
abbrev n_stretched : List Str := ["line", "factor", "event"]
theorem sc_stretched : FnScope n_stretched ["line", "factor"] (defScope s_stretched) := ⟨rfl, rfl, rfl, by decide +kernel, rfl, by decide +kernel, by decide +kernel⟩

def sp_stretched : Sp := fun vs H Q _ => ∃ (v : V) (n : Nat) (l : Line) (G : Hp), vs = [v, .int n] ∧ n ≤ 1000 ∧ Same G H ∧ LineAt G v l ∧ l.length ≤ 10000 ∧ makes G H Q (l.map fun e => ⟨e.n, e.len * n⟩)
theorem ok_stretched {f : Addr} {fd : FuncData} (F : Fun K "stretched" "stretched" s_stretched f fd) (T : Txt K w mg aM aR aP aS aN aB) : FnOk P w K mg base CX0 1 f fd ["line", "factor"] sp_stretched := by
  refine F.ok sc_stretched (fun vs H Q E h => ?_) (fun cdv A outer s H vs Q E hr h => ?_)
  · obtain ⟨v, n, l, G, rfl, _⟩ := h; rfl
  · obtain ⟨v, n, l, G, rfl, hn, hG, ⟨a, xs, rfl, ha, hp⟩, hl, q⟩ := h
    refine ⟨_, (pss_one (ps_ret (pe_lc (own := [("event", 2)]) (g := gName 2) rfl sc_stretched.nd (pi_list (pv 0)) (blkOk_by (own := [("event", 2)]) (N := n_stretched) (sc := defScope s_stretched) (by decide +kernel)) (fun _ _ _ _ _ => pg_name (i := 2) sc_stretched.nd rfl (Or.inl rfl)) (fun _ _ _ _ _ => pts_nil) (fun _ _ _ _ _ => (pe_tup (pa_cons (pe_ix (ix_tupK K) (pv 2) pe_int (fun _ _ => rfl)) (pa_cons (pe_ix (ix_tupK K) (pv 2) pe_int (fun _ _ => rfl)) (pa_cons (pe_op op_mul (pe_ix (ix_tupK K) (pv 2) pe_int (fun _ _ => rfl)) (pv 1)) pa_nil)))))))), ?_⟩
    have hxl := paired_len hp
    have hS : SqL K H a xs := SqL.of (hG _ _ ha)
    refine ⟨_, rfl, a, rfl, ⟨_, hS⟩, fun D hD => lc_data (R := EvAt) (fun s r => r.mono s) (xs := xs) (ys := l.map fun e => ⟨e.n, e.len * n⟩) hG hS hD (by rw [List.length_map]; exact hxl.symm) (by omega) (fun _ => rfl) (fun i x y G1 H1 Q1 hx hy s1 s2 k => ?_) (fun G1 H1 vs g gD hD' hp' => makes_new q g hD gD hD' hp')⟩
    obtain ⟨e, he, t, rfl, ht⟩ := paired_get hp hx
    rw [List.getElem?_map, he] at hy
    cases hy
    have ht2 := s2 _ _ (s1 _ _ ht)
    obtain ⟨en, el⟩ := e
    have hcm : CMul (el : Int) (n : Int) := .inr ⟨by omega, by omega⟩
    have he2 : (el : Int) * (n : Int) = ((el * n : Nat) : Int) := by simp
    cases en with
    | none =>
      refine ⟨_, rfl, t, _, 0, _, rfl, rfl, SqT.of ht2, atI_nat (j := 0) rfl, _, rfl, t, _, 1, _, rfl, rfl, SqT.of ht2, atI_nat (j := 1) rfl, _, rfl, t, _, 2, _, rfl, rfl, SqT.of ht2, atI_nat (j := 2) rfl, _, rfl, _, _, rfl, rfl, hcm, (by show 3 ≤ sizeLine; decide), fun p hp => ?_⟩
      refine k _ _ _ (Grow.new s2 hp) ⟨p, rfl, ?_⟩
      rw [upd_same]; exact congrArg (fun z : Int => some (HO.tup [V.non, V.int 0, V.int z])) he2
    | some nt =>
      refine ⟨_, rfl, t, _, 0, _, rfl, rfl, SqT.of ht2, atI_nat (j := 0) rfl, _, rfl, t, _, 1, _, rfl, rfl, SqT.of ht2, atI_nat (j := 1) rfl, _, rfl, t, _, 2, _, rfl, rfl, SqT.of ht2, atI_nat (j := 2) rfl, _, rfl, _, _, rfl, rfl, hcm, (by show 3 ≤ sizeLine; decide), fun p hp => ?_⟩
      refine k _ _ _ (Grow.new s2 hp) ⟨p, rfl, ?_⟩
      rw [upd_same]; exact congrArg (fun z : Int => some (HO.tup [V.int nt.d, V.int nt.a, V.int z])) he2
abbrev s_shortened : Stmt := top 24
abbrev n_shortened : List Str := ["line", "factor", "event"]
theorem sc_shortened : FnScope n_shortened ["line", "factor"] (defScope s_shortened) := ⟨rfl, rfl, rfl, by decide +kernel, rfl, by decide +kernel, by decide +kernel⟩

def sp_shortened : Sp := fun vs H Q _ => ∃ (v : V) (n : Nat) (l : Line) (G : Hp), vs = [v, .int n] ∧ 1 ≤ n ∧ n ≤ 1000 ∧ Same G H ∧ LineAt G v l ∧ l.length ≤ 10000 ∧
  (l.all (fun e => e.len % n == 0) = false → ∀ H', Same H H' → Q .non H') ∧ (l.all (fun e => e.len % n == 0) = true → makes G H Q (l.map fun e => ⟨e.n, e.len / n⟩))
theorem ok_shortened {f : Addr} {fd : FuncData} (F : Fun K "shortened" "shortened" s_shortened f fd) (T : Txt K w mg aM aR aP aS aN aB) : FnOk P w K mg base CX0 1 f fd ["line", "factor"] sp_shortened := by
  refine F.ok sc_shortened (fun vs H Q E h => ?_) (fun cdv A outer s H vs Q E hr h => ?_)
  · obtain ⟨v, n, l, G, rfl, _⟩ := h; rfl
  · obtain ⟨v, n, l, G, rfl, hn1, hn, hG, ⟨a, xs, rfl, ha, hp⟩, hl, q0, q1⟩ := h
    refine ⟨_, (pss_cons (ps_if (pt_val (pe_callB (cr_any rfl) (by rfl) T.b_any (by decide +kernel) (pa_cons (pe_lc (own := [("event", 2)]) (g := gName 2) rfl sc_shortened.nd (pi_list (pv 0)) (blkOk_by (own := [("event", 2)]) (N := n_shortened) (sc := defScope s_shortened) (by decide +kernel)) (fun _ _ _ _ _ => pg_name (i := 2) sc_shortened.nd rfl (Or.inl rfl)) (fun _ _ _ _ _ => pts_nil) (fun _ _ _ _ _ => (pe_cmpR op_ne (pe_op op_mod (pe_ix (ix_tupK K) (pv 2) pe_int (fun _ _ => rfl)) (pv 1)) pe_int (nomark _)))) pa_nil))) (pss_one (ps_ret pe_non)) pss_nil) (pss_one (ps_ret (pe_lc (own := [("event", 2)]) (g := gName 2) rfl sc_shortened.nd (pi_list (pv 0)) (blkOk_by (own := [("event", 2)]) (N := n_shortened) (sc := defScope s_shortened) (by decide +kernel)) (fun _ _ _ _ _ => pg_name (i := 2) sc_shortened.nd rfl (Or.inl rfl)) (fun _ _ _ _ _ => pts_nil) (fun _ _ _ _ _ => (pe_tup (pa_cons (pe_ix (ix_tupK K) (pv 2) pe_int (fun _ _ => rfl)) (pa_cons (pe_ix (ix_tupK K) (pv 2) pe_int (fun _ _ => rfl)) (pa_cons (pe_op op_fdiv (pe_ix (ix_tupK K) (pv 2) pe_int (fun _ _ => rfl)) (pv 1)) pa_nil))))))))), ?_⟩
    have hxl := paired_len hp
    have hS : SqL K H a xs := SqL.of (hG _ _ ha)
    refine ⟨_, rfl, a, rfl, ⟨_, hS⟩, fun D hD => lc_vals (xs := xs) (ys := l.map fun e => V.bl (!decide (V.int ((e.len : Int) % (n : Int)) = V.int 0))) hS hD (by rw [List.length_map]; exact hxl.symm) (by omega) (fun _ => rfl) (fun i x y H' Q' hx hy s' k => ?_) (fun H' s' hD' => ?_)⟩
    · obtain ⟨e, he, t, rfl, ht⟩ := paired_get hp hx
      rw [List.getElem?_map, he] at hy
      cases hy
      exact ⟨_, rfl, t, _, 2, _, rfl, rfl, SqT.of (s' _ _ (hG _ _ ht)), atI_nat (j := 2) (ev2 e), _, rfl, _, _, rfl, rfl, (by show (0 : Int) < (n : Int); omega), rfl, k _ (Same.refl _)⟩
    · refine ⟨D, l.map fun e => !decide (V.int ((e.len : Int) % (n : Int)) = V.int 0), rfl, by rw [List.map_map]; exact SqL.of hD', _, rfl, ?_⟩
      have key : ((l.map fun e => !decide (V.int ((e.len : Int) % (n : Int)) = V.int 0)).any id) = !l.all fun e => e.len % n == 0 := by
        rw [List.any_map, List.any_eq_not_all_not]
        congr 1
        congr 1
        funext e
        show (!(!decide (V.int ((e.len : Int) % (n : Int)) = V.int 0))) = (e.len % n == 0)
        rw [Bool.not_not, Bool.eq_iff_iff]
        simp only [decide_eq_true_eq, V.int.injEq, beq_iff_eq]
        omega
      rw [key]
      refine if_b (fun c => ?_) (fun c => ?_)
      · exact q0 (by simpa using c) _ s'
      · have c : l.all (fun e => e.len % n == 0) = true := by simpa using c
        have q := q1 c
        have hS' : SqL K H' a xs := s'.seq hS
        refine ⟨_, rfl, a, rfl, ⟨_, hS'⟩, fun D2 hD2 => lc_data (R := EvAt) (fun s r => r.mono s) (xs := xs) (ys := l.map fun e => ⟨e.n, e.len / n⟩) (hG.trans s') hS' hD2 (by rw [List.length_map]; exact hxl.symm) (by omega) (fun _ => rfl) (fun i x y G1 H1 Q1 hx hy s1 s2 k => ?_) (fun G1 H1 vs g gD hD' hp' => makes_new q ((Grow.of hG s').trans g) (s'.free hD2) gD hD' hp')⟩
        obtain ⟨e, he, t, rfl, ht⟩ := paired_get hp hx
        rw [List.getElem?_map, he] at hy
        cases hy
        have ht2 := s2 _ _ (s1 _ _ ht)
        obtain ⟨en, el⟩ := e
        have hcd : CDiv (el : Int) (n : Int) := ⟨by omega, by omega⟩
        have he2 : (el : Int) / (n : Int) = ((el / n : Nat) : Int) := by simp
        cases en with
        | none =>
          refine ⟨_, rfl, t, _, 0, _, rfl, rfl, SqT.of ht2, atI_nat (j := 0) rfl, _, rfl, t, _, 1, _, rfl, rfl, SqT.of ht2, atI_nat (j := 1) rfl, _, rfl, t, _, 2, _, rfl, rfl, SqT.of ht2, atI_nat (j := 2) rfl, _, rfl, _, _, rfl, rfl, hcd, (by show 3 ≤ sizeLine; decide), fun p hp => ?_⟩
          refine k _ _ _ (Grow.new s2 hp) ⟨p, rfl, ?_⟩
          rw [upd_same]; exact congrArg (fun z : Int => some (HO.tup [V.non, V.int 0, V.int z])) he2
        | some nt =>
          refine ⟨_, rfl, t, _, 0, _, rfl, rfl, SqT.of ht2, atI_nat (j := 0) rfl, _, rfl, t, _, 1, _, rfl, rfl, SqT.of ht2, atI_nat (j := 1) rfl, _, rfl, t, _, 2, _, rfl, rfl, SqT.of ht2, atI_nat (j := 2) rfl, _, rfl, _, _, rfl, rfl, hcd, (by show 3 ≤ sizeLine; decide), fun p hp => ?_⟩
          refine k _ _ _ (Grow.new s2 hp) ⟨p, rfl, ?_⟩
          rw [upd_same]; exact congrArg (fun z : Int => some (HO.tup [V.int nt.d, V.int nt.a, V.int z])) he2
abbrev s_backward : Stmt := top 22
abbrev n_backward : List Str := ["line"]
theorem sc_backward : FnScope n_backward ["line"] (defScope s_backward) := ⟨rfl, rfl, rfl, by decide +kernel, rfl, by decide +kernel, by decide +kernel⟩

def sp_backward : Sp := fun vs H Q _ => ∃ (v : V) (l : Line) (G : Hp), vs = [v] ∧ Same G H ∧ LineAt G v l ∧ makes G H Q l.reverse
theorem ok_backward {f : Addr} {fd : FuncData} (F : Fun K "backward" "backward" s_backward f fd) (T : Txt K w mg aM aR aP aS aN aB) : FnOk P w K mg base CX0 1 f fd ["line"] sp_backward := by
  refine F.ok sc_backward (fun vs H Q E h => ?_) (fun cdv A outer s H vs Q E hr h => ?_)
  · obtain ⟨v, l, G, rfl, _⟩ := h; rfl
  · obtain ⟨v, l, G, rfl, hG, ⟨a, xs, rfl, ha, hp⟩, q⟩ := h
    refine ⟨_, (pss_one (ps_ret (pe_listRev rfl (by rfl) T.b_list (by rfl) T.b_reversed (pv 0)))), ?_⟩
    refine ⟨_, rfl, a, xs, rfl, SqL.of (hG _ _ ha), fun p hp' => ?_⟩
    exact makes_new q (Grow.of hG (same_new hp')) hp' (hG.free hp') upd_same (paired_reverse hp)
abbrev s_repeated : Stmt := top 25
abbrev n_repeated : List Str := ["line", "times"]
theorem sc_repeated : FnScope n_repeated ["line", "times"] (defScope s_repeated) := ⟨rfl, rfl, rfl, by decide +kernel, rfl, by decide +kernel, by decide +kernel⟩

def sp_repeated : Sp := fun vs H Q _ => ∃ (v : V) (n : Nat) (l : Line) (G : Hp), vs = [v, .int n] ∧ n ≤ 1000 ∧ Same G H ∧ LineAt G v l ∧ l.length ≤ 10000 ∧ makes G H Q (List.replicate n l).flatten
theorem paired_rep {α β : Type} {R : α → β → Prop} {l : List α} {m : List β} (h : Paired R l m) : ∀ n : Nat, Paired R (List.replicate n l).flatten (List.replicate n m).flatten
  | 0 => .nil
  | n + 1 => by
    rw [List.replicate_succ, List.replicate_succ, List.flatten_cons, List.flatten_cons]
    exact paired_append h (paired_rep h n)
theorem ok_repeated {f : Addr} {fd : FuncData} (F : Fun K "repeated" "repeated" s_repeated f fd) (T : Txt K w mg aM aR aP aS aN aB) : FnOk P w K mg base CX0 1 f fd ["line", "times"] sp_repeated := by
  refine F.ok sc_repeated (fun vs H Q E h => ?_) (fun cdv A outer s H vs Q E hr h => ?_)
  · obtain ⟨v, n, l, G, rfl, _⟩ := h; rfl
  · obtain ⟨v, n, l, G, rfl, hn, hG, ⟨a, xs, rfl, ha, hp⟩, hl, q⟩ := h
    refine ⟨_, (pss_one (ps_ret (pe_op op_rep (pv 0) (pv 1)))), ?_⟩
    have hxl := paired_len hp
    refine ⟨_, rfl, _, rfl, a, _, xs, rfl, rfl, hG _ _ ha, by omega, by omega, ?_, fun p hp' => ?_⟩
    · rw [szL, Int.toNat_natCast, hxl]
      have := Nat.mul_le_mul hl hn
      omega
    · rw [Int.toNat_natCast]
      exact makes_new q (Grow.of hG (same_new hp')) hp' (hG.free hp') upd_same (paired_rep hp n)
abbrev s_inverted : Stmt := top 21
abbrev n_inverted : List Str := ["line", "notes", "step", "alteration", "event"]
theorem sc_inverted : FnScope n_inverted ["line"] (defScope s_inverted) := ⟨rfl, rfl, rfl, by decide +kernel, rfl, by decide +kernel, by decide +kernel⟩

def sp_inverted : Sp := fun vs H Q _ => ∃ (v : V) (l : Line) (G : Hp), vs = [v] ∧ Same G H ∧ LineAt G v l ∧ l.length ≤ 10000 ∧ makes G H Q (Cp12.overLine l)
theorem ok_inverted {f : Addr} {fd : FuncData} (F : Fun K "inverted" "inverted" s_inverted f fd) (T : Txt K w mg aM aR aP aS aN aB) (f_is_rest : Callee P w K mg base "is_rest" 1 ["event"] sp_is_rest) : FnOk P w K mg base CX0 2 f fd ["line"] sp_inverted := by
  refine F.ok sc_inverted (fun vs H Q E h => ?_) (fun cdv A outer s H vs Q E hr h => ?_)
  · obtain ⟨v, l, G, rfl, _⟩ := h; rfl
  · obtain ⟨v, l, G, rfl, hG, ⟨a, xs, rfl, ha, hp⟩, hl, q⟩ := h
    refine ⟨_, (pss_cons (ps_setLc (i := 1) (own := [("event", 4)]) (g := gName 4) rfl sc_inverted.nd rfl rfl (sw_true rfl rfl rfl (by decide +kernel)) (pi_list (pv 0)) (blkOk_by (own := [("event", 4)]) (N := n_inverted) (sc := defScope s_inverted) (by decide +kernel)) (fun _ _ _ _ _ => pg_name (i := 4) sc_inverted.nd rfl (Or.inl rfl)) (fun _ _ _ _ _ => pts_one (pt_not (pt_val (pe_do f_is_rest hr (by decide) (by rfl) (pa_cons (pv 4) pa_nil))))) (fun _ _ _ _ _ => (pv 4))) (pss_cons (ps_if (pt_not (pt_truth (pv 1) (by intro _; rfl))) (pss_one (ps_ret (pv 0))) pss_nil) (pss_cons (ps_set (i := 2) sc_inverted.nd rfl (Or.inr rfl) (pe_op op_mul pe_int (pe_ix ix_tup (pe_ix ix_list (pv 1) pe_int (fun _ _ => rfl)) pe_int (fun _ _ => rfl)))) (pss_cons (ps_set (i := 3) sc_inverted.nd rfl (Or.inr rfl) (pe_op op_mul pe_int (pe_ix ix_tup (pe_ix ix_list (pv 1) pe_int (fun _ _ => rfl)) pe_int (fun _ _ => rfl)))) (pss_one (ps_ret (pe_lc (own := [("event", 4)]) (g := gName 4) rfl sc_inverted.nd (pi_list (pv 0)) (blkOk_by (own := [("event", 4)]) (N := n_inverted) (sc := defScope s_inverted) (by decide +kernel)) (fun _ _ _ _ _ => pg_name (i := 4) sc_inverted.nd rfl (Or.inl rfl)) (fun _ _ _ _ _ => pts_nil) (fun _ _ _ _ _ => (pe_ifExp (pt_val (pe_do f_is_rest hr (by decide) (by rfl) (pa_cons (pv 4) pa_nil))) (pv 4) (pe_tup (pa_cons (pe_op op_sub (pv 2) (pe_ix (ix_tupK K) (pv 4) pe_int (fun _ _ => rfl))) (pa_cons (pe_op op_sub (pv 3) (pe_ix (ix_tupK K) (pv 4) pe_int (fun _ _ => rfl))) (pa_cons (pe_ix (ix_tupK K) (pv 4) pe_int (fun _ _ => rfl)) pa_nil))))))))))))), ?_⟩
    have hxl := paired_len hp
    obtain ⟨ps, rfl, rfl, hps⟩ := paired_zip hp
    have hS : SqL K H a (ps.map (·.1)) := SqL.of (hG _ _ ha)
    have hpl : ps.length ≤ 10000 := by rw [List.length_map] at hl; exact hl
    refine ⟨_, rfl, a, rfl, ⟨_, hS⟩, fun D hD => lc_keep (ps := ps) (keep := fun p => p.2.n.isSome) hS hD (by omega) (fun _ => rfl) (fun i p H' Q' hx s' k => ?_) (fun x H' Q' q => ⟨_, rfl, q⟩) (fun H' s' hD' => ?_)⟩
    · have hm := hps p (List.mem_of_getElem? hx)
      refine ⟨_, rfl, _, p.2, rfl, (hm.mono hG).mono s', _, rfl, ?_⟩
      have : (!p.2.n.isNone) = p.2.n.isSome := by cases p.2.n <;> rfl
      show Q' (!p.2.n.isNone) H'
      rw [this]
      exact k _ (Same.refl _)
    · have hfn := first_note ps
      have hsub : ∀ p ∈ ps.filter (fun p => p.2.n.isSome), p ∈ ps ∧ p.2.n.isSome = true := fun p hp => List.mem_filter.mp hp
      have gG : Grow G H G H' := Grow.of hG s'
      refine ⟨_, rfl, _, .inl ⟨_, SqL.of hD', rfl⟩, if_b (fun c => ?_) (fun c => ?_)⟩
      · have e : ps.filter (fun p => p.2.n.isSome) = [] := by simpa using c
        rw [e] at hfn
        have : Cp12.overLine (ps.map (·.2)) = ps.map (·.2) := by
          unfold Cp12.overLine
          rw [hfn]; rfl
        rw [this] at q
        exact ⟨_, rfl, q _ _ _ gG ⟨a, _, rfl, ha, hp⟩⟩
      · cases e : ps.filter (fun p => p.2.n.isSome) with
        | nil => rw [e] at c; cases c
        | cons p r =>
          rw [e] at hfn hD' hsub
          obtain ⟨hm, hs⟩ := hsub p (by simp)
          obtain ⟨pv, pn, pl⟩ := p
          cases pn with
          | none => cases hs
          | some nt =>
            obtain ⟨d, al⟩ := nt
            obtain ⟨t, hpt, ht⟩ := hps _ hm
            have hpt : pv = .ref t := hpt
            subst hpt
            have ht' := s' _ _ (hG _ _ ht)
            have hov : Cp12.overLine (ps.map (·.2)) = (ps.map (·.2)).map fun e => (⟨e.n.map fun x => ⟨2 * d - x.d, 2 * al - x.a⟩, e.len⟩ : Ev) := by
              unfold Cp12.overLine
              rw [hfn]; rfl
            rw [hov] at q
            refine ⟨_, rfl, D, _, 0, _, rfl, rfl, SqL.of hD', atI_nat (j := 0) rfl, t, _, 0, _, rfl, rfl, SqT.of ht', atI_nat (j := 0) rfl, 2, d, rfl, rfl, .inl ⟨by decide, by decide⟩, ?_⟩
            refine ⟨_, rfl, D, _, 0, _, rfl, rfl, SqL.of hD', atI_nat (j := 0) rfl, t, _, 1, _, rfl, rfl, SqT.of ht', atI_nat (j := 1) rfl, 2, al, rfl, rfl, .inl ⟨by decide, by decide⟩, ?_⟩
            have hS' : SqL K H' a (ps.map (·.1)) := s'.seq hS
            refine ⟨_, rfl, a, rfl, ⟨_, hS'⟩, fun D2 hD2 => lc_data (R := EvAt) (fun s r => r.mono s) (xs := List.map (fun (x : V × Ev) => x.1) ps) (ys := (List.map (fun (x : V × Ev) => x.2) ps).map fun e => (⟨e.n.map fun x => ⟨2 * d - x.d, 2 * al - x.a⟩, e.len⟩ : Ev)) gG.i hS' hD2 (by simp) (by rw [List.length_map]; omega) (fun _ => rfl) (fun i x y G1 H1 Q1 hx hy s1 s2 k => ?_)
              (fun G1 H1 vs g gD hD' hp' => makes_new q (gG.trans g) (s'.free hD2) gD hD' hp')⟩
            obtain ⟨e, he, t, rfl, ht⟩ := paired_get hp hx
            rw [List.getElem?_map, he] at hy
            cases hy
            have ht1 := s1 _ _ ht
            have ht2 := s2 _ _ ht1
            refine ⟨_, rfl, _, e, rfl, ⟨t, rfl, ht2⟩, _, rfl, ?_⟩
            obtain ⟨en, el⟩ := e
            cases en with
            | none => exact ⟨_, rfl, k _ _ _ (Grow.refl s2) ⟨t, rfl, ht1⟩⟩
            | some nt =>
              refine ⟨_, rfl, _, rfl, t, _, 0, _, rfl, rfl, SqT.of ht2, atI_nat (j := 0) rfl, _, _, rfl, rfl, _, rfl, _, rfl, t, _, 1, _, rfl, rfl, SqT.of ht2, atI_nat (j := 1) rfl, _, _, rfl, rfl, _, rfl, t, _, 2, _, rfl, rfl, SqT.of ht2, atI_nat (j := 2) rfl, (by show 3 ≤ sizeLine; decide), fun p hp => ?_⟩
              exact k _ _ _ (Grow.new s2 hp) ⟨p, rfl, upd_same⟩
/-! ### find_event -/
abbrev s_find_event : Stmt := top 26
abbrev n_find_event : List Str := ["line", "time", "began", "index", "event"]
theorem sc_find_event : FnScope n_find_event ["line", "time"] (defScope s_find_event) := ⟨rfl, rfl, rfl, by decide +kernel, rfl, by decide +kernel, by decide +kernel⟩

def sp_find_event : Sp := fun vs H Q _ => ∃ (v : V) (t : Nat) (l : Line), vs = [v, .int t] ∧ LineAt H v l ∧ l.length ≤ 10000 ∧ (Cp12.onAt 0 0 l t = none → ∀ H', Same H H' → Q .non H') ∧
  (∀ i s e, Cp12.onAt 0 0 l t = some (i, s, e) → ∀ H' p, Same H H' → H' p = some (.tup [.int (i : Nat), .int (s : Nat)]) → Q (.ref p) H')
theorem onAt_ix : ∀ (l : Line) (i0 s0 t i s : Nat) (e : Ev), Cp12.onAt i0 s0 l t = some (i, s, e) → i0 ≤ i ∧ l[i - i0]? = some e
  | [], i0, s0, t, i, s, e, h => by simp [Cp12.onAt] at h
  | x :: l, i0, s0, t, i, s, e, h => by
    simp only [Cp12.onAt] at h
    split at h
    · cases h; simp
    · obtain ⟨h1, h2⟩ := onAt_ix l (i0 + 1) _ t i s e h
      refine ⟨by omega, ?_⟩
      obtain ⟨k, rfl⟩ : ∃ k, i = i0 + 1 + k := ⟨i - (i0 + 1), by omega⟩
      have : i0 + 1 + k - i0 = k + 1 := by omega
      rw [this, List.getElem?_cons_succ]
      have : i0 + 1 + k - (i0 + 1) = k := by omega
      rw [this] at h2
      exact h2
theorem ok_find_event {f : Addr} {fd : FuncData} (F : Fun K "find_event" "find_event" s_find_event f fd) (T : Txt K w mg aM aR aP aS aN aB) : FnOk P w K mg base CX0 1 f fd ["line", "time"] sp_find_event := by
  refine F.ok sc_find_event (fun vs H Q E h => ?_) (fun cdv A outer s H vs Q E hr h => ?_)
  · obtain ⟨v, t, l, rfl, _⟩ := h; rfl
  · obtain ⟨v, t, l, rfl, ⟨a, xs, rfl, ha, hp⟩, hl, q0, q1⟩ := h
    refine ⟨_, (pss_cons (ps_set (i := 2) sc_find_event.nd rfl (Or.inl rfl) pe_int) (pss_cons (ps_for PassesOwn.never rfl (pi_enum (by rfl) T.b_enumerate (pa_cons (pv 0) pa_nil)) (pg_tup rfl (pgs_cons (pg_name (i := 3) sc_find_event.nd rfl (Or.inl rfl)) (pgs_cons (pg_name (i := 4) sc_find_event.nd rfl (Or.inl rfl)) pgs_nil))) (pss_cons (ps_if (pt_cmpR op_lt (pv 1) (pe_op op_add (pv 2) (pe_ix ix_tup (pv 4) pe_int (fun _ _ => rfl))) (nomark _)) (pss_one (ps_ret (pe_tup (pa_cons (pv 3) (pa_cons (pv 2) pa_nil))))) pss_nil) (pss_one (ps_set (i := 2) sc_find_event.nd rfl (Or.inl rfl) (pe_op op_add (pv 2) (pe_ix ix_tup (pv 4) pe_int (fun _ _ => rfl))))))) (pss_one (ps_ret pe_non)))), ?_⟩
    have hxl := paired_len hp
    refine ⟨_, rfl, a, xs, rfl, SqL.of ha, for_enum (K := K) (a := a) (xs := xs) (fun i σ H' => ∃ (b : Nat) (y3 y4 : Option V), σ = [some (.ref a), some (.int t), some (.int b), y3, y4] ∧ Same H H' ∧ Cp12.onAt 0 0 l t = Cp12.onAt i b (l.drop i) t)
      ⟨0, none, none, rfl, Same.refl _, rfl⟩ (fun i σ H' _ ⟨_, _, _, _, s, _⟩ => SqL.of (s _ _ ha)) (fun i x T' σ H' hx ⟨b, y3, y4, e, s, eo⟩ hT => ?_) (fun σ H' ⟨b, y3, y4, e, s, eo⟩ => ?_)⟩
    · subst e
      obtain ⟨ev, he, t', rfl, ht'⟩ := paired_get hp hx
      have sT := same_new (o := .tup [.int (i : Nat), .ref t']) hT
      have ht2 := sT _ _ (s _ _ ht')
      have hdrop : l.drop i = ev :: l.drop (i + 1) := by
        obtain ⟨h1, h2⟩ := List.getElem?_eq_some_iff.mp he
        rw [List.drop_eq_getElem_cons h1, h2]
      rw [hdrop] at eo
      simp only [Cp12.onAt] at eo
      refine ⟨T', [.int (i : Nat), .ref t'], rfl, SqT.of upd_same, rfl, _, _, rfl, _, _, rfl, rfl, ?_⟩
      refine ⟨_, rfl, _, rfl, _, rfl, t', _, 2, _, rfl, rfl, SqT.of ht2, atI_nat (j := 2) (ev2 ev), _, _, rfl, rfl, _, _, rfl, rfl, _, rfl, if_b (fun c => ?_) (fun c => ?_)⟩
      · have c : t < b + ev.len := by have := of_decide_eq_true c; omega
        rw [if_pos c] at eo
        refine ⟨_, rfl, _, rfl, (by show 2 ≤ sizeLine; decide), fun p hp' => ?_⟩
        exact q1 _ _ _ eo _ _ ((s.trans sT).trans (same_new hp')) upd_same
      · have c : ¬ t < b + ev.len := by have := of_decide_eq_false c; omega
        rw [if_neg c] at eo
        refine ⟨_, rfl, _, rfl, t', _, 2, _, rfl, rfl, SqT.of ht2, atI_nat (j := 2) (ev2 ev), _, _, rfl, rfl, ?_⟩
        exact ⟨b + ev.len, _, _, rfl, s.trans sT, eo⟩
    · subst e
      rw [hxl, List.drop_length] at eo
      simp only [Cp12.onAt] at eo
      exact q0 eo _ s
/-! ### first_difference -/
abbrev s_first_difference : Stmt := top 27
abbrev n_first_difference : List Str := ["line", "other", "shared", "index"]
theorem sc_first_difference : FnScope n_first_difference ["line", "other"] (defScope s_first_difference) := ⟨rfl, rfl, rfl, by decide +kernel, rfl, by decide +kernel, by decide +kernel⟩

def evD (e : Ev) : PyData := match e.n with
  | none => .tuple [.none, .int 0, .int e.len]
  | some n => .tuple [.int n.d, .int n.a, .int e.len]
theorem EvAt.dp {H : Hp} {v : V} {e : Ev} (h : EvAt H v e) : Dp K H v (evD e) := by
  obtain ⟨a, rfl, h⟩ := h
  obtain ⟨en, el⟩ := e
  cases en with
  | none => exact .tup (SqT.of h) (.cons .non (.cons (.int _) (.cons (.int _) .nil)))
  | some n => exact .tup (SqT.of h) (.cons (.int _) (.cons (.int _) (.cons (.int _) .nil)))
theorem evs_dp {H : Hp} : ∀ {xs : List V} {l : Line}, Paired (EvAt H) xs l → DpAll K H xs (l.map evD)
  | _, _, .nil => .nil
  | _, _, .cons r t => .cons r.dp (evs_dp t)
theorem evD_eqv (e e' : Ev) : PyData.eqv (evD e) (evD e') = decide (e = e') := by
  obtain ⟨en, el⟩ := e
  obtain ⟨en', el'⟩ := e'
  rw [Bool.eq_iff_iff]
  cases en <;> cases en' <;> simp [evD, PyData.eqv, PyData.eqvAll] <;> (try omega)
  rename_i n n'
  obtain ⟨d, a⟩ := n
  obtain ⟨d', a'⟩ := n'
  simp
  omega
theorem evs_eqv : ∀ (l m : Line), PyData.eqv (.list (l.map evD)) (.list (m.map evD)) = decide (l = m)
  | [], [] => rfl
  | [], _ :: _ => rfl
  | _ :: _, [] => rfl
  | x :: l, y :: m => by
    have ih : PyData.eqvAll (l.map evD) (m.map evD) = decide (l = m) := evs_eqv l m
    show (PyData.eqv (evD x) (evD y) && PyData.eqvAll (l.map evD) (m.map evD)) = _
    rw [evD_eqv, ih, Bool.eq_iff_iff]
    simp
def firstDiff (l m : Line) : Option Nat := (List.range (max l.length m.length)).find? fun i => l[i]? != m[i]?
theorem firstDiff_same (l : Line) : firstDiff l l = none := by
  unfold firstDiff
  rw [List.find?_eq_none]
  intro i _
  simp
theorem firstDiff_at {l m : Line} {i : Nat} (h : ∀ j, j < i → l[j]? = m[j]?) (hi : l[i]? ≠ m[i]?) : firstDiff l m = some i := by
  unfold firstDiff
  rw [List.find?_range_eq_some]
  refine ⟨by simpa using hi, ?_, fun j hj => by simp [h j hj]⟩
  rw [List.mem_range]
  apply Classical.byContradiction
  intro c
  exact hi (by rw [List.getElem?_eq_none (by omega), List.getElem?_eq_none (by omega)])
def sp_first_difference : Sp := fun vs H Q _ => ∃ (v u : V) (l m : Line), vs = [v, u] ∧ LineAt H v l ∧ LineAt H u m ∧ l.length ≤ 10000 ∧ m.length ≤ 10000 ∧ Q (numV (firstDiff l m)) H
theorem ev_shaped (e : Ev) : SeqAt.shaped (evD e) = true := by
  obtain ⟨en, el⟩ := e
  cases en <;> rfl
theorem evs_can : ∀ l : Line, PyData.canLayAll0 (l.map evD) = true
  | [] => rfl
  | e :: l => by
    have h1 : (evD e).canLay0 = true := SeqAt.canLay_of_shaped (ev_shaped e)
    show ((evD e).canLay0 && PyData.canLayAll0 (l.map evD)) = true
    rw [h1, evs_can l]; rfl
theorem evs_deep : ∀ l : Line, PyData.depthAll (l.map evD) ≤ 1
  | [] => by simp [PyData.depthAll]
  | e :: l => by
    have h1 : (evD e).depth ≤ 1 := by
      obtain ⟨en, el⟩ := e
      cases en <;> simp [evD, PyData.depth, PyData.depthAll]
    show max (evD e).depth (PyData.depthAll (l.map evD)) ≤ 1
    have := evs_deep l
    omega
theorem evs_shaped (l : Line) : SeqAt.shaped (.list (l.map evD)) = true := by
  unfold SeqAt.shaped
  have h1 : (PyData.list (l.map evD)).canLay0 = true := evs_can l
  have h2 : (PyData.list (l.map evD)).depth = PyData.depthAll (l.map evD) + 1 := rfl
  have h3 := evs_deep l
  rw [h1, h2, decide_eq_true (by omega)]; rfl
theorem ok_first_difference {f : Addr} {fd : FuncData} (F : Fun K "first_difference" "first_difference" s_first_difference f fd) (T : Txt K w mg aM aR aP aS aN aB) : FnOk P w K mg base CX0 1 f fd ["line", "other"] sp_first_difference := by
  refine F.ok sc_first_difference (fun vs H Q E h => ?_) (fun cdv A outer s H vs Q E hr h => ?_)
  · obtain ⟨v, u, l, m, rfl, _⟩ := h; rfl
  · obtain ⟨v, u, l, m, rfl, ⟨a, xs, rfl, ha, hp⟩, ⟨b, ys, rfl, hb, hp2⟩, hl, hm, q⟩ := h
    refine ⟨_, (pss_cons (ps_if (pt_cmpR (op_eqD hr.units) (pv 0) (pv 1) (nomark _)) (pss_one (ps_ret pe_non)) pss_nil) (pss_cons (ps_set (i := 2) sc_first_difference.nd rfl (Or.inl rfl) (pe_callB (call_min2 rfl) (by rfl) T.b_min (by decide +kernel) (pa_cons (pe_callB call_len_seq (by rfl) T.b_len (by decide +kernel) (pa_cons (pv 0) pa_nil)) (pa_cons (pe_callB call_len_seq (by rfl) T.b_len (by decide +kernel) (pa_cons (pv 1) pa_nil)) pa_nil)))) (pss_cons (ps_for PassesOwn.never rfl (pi_range1 rfl T.b_range (pa_cons (pv 2) pa_nil)) (pg_name (i := 3) sc_first_difference.nd rfl (Or.inl rfl)) (pss_one (ps_if (pt_cmpR (op_neD hr.units) (pe_ix ix_list (pv 0) (pv 3) (fun _ _ => rfl)) (pe_ix ix_list (pv 1) (pv 3) (fun _ _ => rfl)) (nomark _)) (pss_one (ps_ret (pv 3))) pss_nil))) (pss_one (ps_ret (pv 2)))))), ?_⟩
    have hxl := paired_len hp
    have hyl := paired_len hp2
    refine ⟨_, rfl, _, rfl, _, _, .lst (SqL.of ha) (evs_dp hp), .lst (SqL.of hb) (evs_dp hp2), evs_shaped l, evs_shaped m, _, rfl, if_b (fun c => ?_) (fun c => ?_)⟩
    · rw [evs_eqv] at c
      have c := of_decide_eq_true c
      subst c
      rw [firstDiff_same] at q
      exact q
    · rw [evs_eqv] at c
      have c := of_decide_eq_false c
      refine ⟨_, rfl, a, _, rfl, .inl (SqL.of ha), _, rfl, b, _, rfl, .inl (SqL.of hb), _, _, rfl, ?_⟩
      rw [hxl, hyl]
      have hmin : (if (m.length : Int) < (l.length : Int) then (m.length : Int) else (l.length : Int)) = ((min l.length m.length : Nat) : Int) := by
        split <;> omega
      rw [hmin]
      generalize hk : min l.length m.length = k
      refine ⟨_, rfl, _, rfl, by omega, by omega, ?_⟩
      rw [Int.toNat_natCast]
      refine for_range (lo := 0) (n := k) (fun i σ H' => ∃ y : Option V, σ = [some (.ref a), some (.ref b), some (.int k), y] ∧ H' = H ∧ ∀ j, j < i → l[j]? = m[j]?)
        ⟨none, rfl, rfl, fun j hj => absurd hj (Nat.not_lt_zero j)⟩ (fun i σ H' hi ⟨y, e, e2, hj⟩ => ?_) (fun σ H' ⟨y, e, e2, hj⟩ => ?_)
      · subst e e2
        have h1 : i < l.length := by omega
        have h2 : i < m.length := by omega
        obtain ⟨x, hx, hxe⟩ := paired_get' hp (List.getElem?_eq_getElem h1)
        obtain ⟨y', hy, hye⟩ := paired_get' hp2 (List.getElem?_eq_getElem h2)
        have e0 : (0 : Int) + (i : Int) = (i : Int) := by omega
        rw [e0]
        refine ⟨_, rfl, _, rfl, a, _, _, _, rfl, rfl, SqL.of ha, atI_nat hx, _, rfl, _, rfl, b, _, _, _, rfl, rfl, SqL.of hb, atI_nat hy, _, _, hxe.dp, hye.dp, ev_shaped _, ev_shaped _, _, rfl, ?_⟩
        rw [evD_eqv]
        refine if_b (fun c2 => ?_) (fun c2 => ?_)
        · have c2 : l[i] ≠ m[i] := by simpa using c2
          have : firstDiff l m = some i := firstDiff_at hj (by rw [List.getElem?_eq_getElem h1, List.getElem?_eq_getElem h2]; simpa using c2)
          rw [this] at q
          exact ⟨_, rfl, q⟩
        · have c2 : l[i] = m[i] := by simpa using c2
          refine ⟨_, rfl, rfl, fun j hji => ?_⟩
          by_cases cj : j < i
          · exact hj j cj
          · have : j = i := by omega
            subst this
            rw [List.getElem?_eq_getElem h1, List.getElem?_eq_getElem h2, c2]
      · subst e e2
        have hne : l[k]? ≠ m[k]? := by
          intro z
          apply c
          have hlen : l.length = m.length := by
            by_cases c1 : l.length ≤ m.length
            · have : k = l.length := by omega
              subst this
              rw [List.getElem?_eq_none (Nat.le_refl _)] at z
              have := List.getElem?_eq_none_iff.mp z.symm
              omega
            · have : k = m.length := by omega
              subst this
              rw [List.getElem?_eq_none (l := m) (Nat.le_refl _)] at z
              have := List.getElem?_eq_none_iff.mp z
              omega
          apply List.ext_getElem?
          intro j
          by_cases cj : j < k
          · exact hj j cj
          · rw [List.getElem?_eq_none (by omega), List.getElem?_eq_none (by omega)]
        rw [firstDiff_at hj hne] at q
        exact ⟨_, rfl, q⟩
end
end Pbd
namespace Pbd
open PySem PySem.Spec PyProof.Rows L2 TL
open Cp12 (Bytes ascii)
/-! ### tables of the top: dicts with written texts as keys -/
theorem findBy_tab (x : Str) : ∀ {es : List DictEntry} {ks : List (Str × Value)}, Paired (fun (e : DictEntry) (p : Str × Value) => (∃ t, e.key = .str p.1 t) ∧ e.val = p.2) es ks → (es.find? fun e => Value.isStrOf x e.key).map (·.val) = ks.lookup x
  | _, _, .nil => rfl
  | e :: es, p :: ks, .cons ⟨⟨t, h1⟩, h2⟩ r => by
    have ih := findBy_tab x r
    obtain ⟨k, v⟩ := p
    rw [List.find?_cons]
    by_cases c : x = k
    · subst c
      have : Value.isStrOf x e.key = true := by rw [h1]; simp [Value.isStrOf]
      rw [this]
      simp [h2]
    · have : Value.isStrOf x e.key = false := by
        rw [h1]
        simp only [Value.isStrOf]
        exact beq_eq_false_iff_ne.mpr fun z => c (by first | exact z | exact z.symm)
      rw [this]
      have hb : (x == k) = false := beq_eq_false_iff_ne.mpr c
      simp only [List.lookup, hb]
      exact ih
section
variable {X : Cx}
def rInKD (K : PySem.W.Frag) (w : World) (neg : Bool) : R2 := fun x y H Q => ∃ (p : Addr) (z : Str) (ks : List (Str × Value)), x = .str z ∧ y = .ref p ∧ KTab K w p ks ∧ Q (.bl (if neg then !(ks.lookup z).isSome else (ks.lookup z).isSome)) H
theorem op_in_kd : OpR X (compareOp .In) (rInKD X.K X.w false) := by
  intro pins s σ H x y v u Q I rx ry h
  obtain ⟨p, z, ks, rfl, rfl, ⟨es, n, hl, hk, hs, hp⟩, q⟩ := h
  obtain ⟨t, rfl⟩ := rx
  obtain rfl : u = Value.ref p := ry
  have hm := PySem.W.mapOf_K (prog := X.prog) (w := X.w) I.kIn hl hk
  refine wpAny_in_of (strKind_is X.prog X.w z t) hs hm ?_
  have e : findBy Value.isStrOf es z = ks.lookup z := by
    obtain ⟨l⟩ := es
    have := findBy_tab z hp
    simpa [findBy] using this
  show EP X pins σ Q (.bool (findBy Value.isStrOf es z).isSome) _
  rw [e]
  exact ⟨.bl (ks.lookup z).isSome, H, I.tok _, rfl, q⟩
theorem op_notin_kd : OpR X (compareOp .NotIn) (rInKD X.K X.w true) := by
  intro pins s σ H x y v u Q I rx ry h
  obtain ⟨p, z, ks, rfl, rfl, ⟨es, n, hl, hk, hs, hp⟩, q⟩ := h
  obtain ⟨t, rfl⟩ := rx
  obtain rfl : u = Value.ref p := ry
  have hm := PySem.W.mapOf_K (prog := X.prog) (w := X.w) I.kIn hl hk
  refine wpAny_notIn_of (strKind_is X.prog X.w z t) hs hm ?_
  have e : findBy Value.isStrOf es z = ks.lookup z := by
    obtain ⟨l⟩ := es
    have := findBy_tab z hp
    simpa [findBy] using this
  show EP X pins σ Q (.bool (!(findBy Value.isStrOf es z).isSome)) _
  rw [e]
  exact ⟨.bl (!(ks.lookup z).isSome), H, I.tok _, rfl, q⟩
def rIxKT (K : PySem.W.Frag) (w : World) : R2 := fun x y H Q => ∃ (p : Addr) (z : Str) (ks : List (Str × Value)) (u : Value) (v : V), x = .ref p ∧ y = .str z ∧ KTab K w p ks ∧ ks.lookup z = some u ∧ RelV v u ∧ Q v H
theorem ix_kt : IxR X (rIxKT X.K X.w) := by
  intro value slice pins s σ H x y v u Q I rx ry h hs
  obtain ⟨p, z, ks, u0, r, rfl, rfl, ⟨es, n, hl, hk, hsm, hp⟩, hlk, ru, q⟩ := h
  obtain rfl : v = Value.ref p := rx
  obtain ⟨t, rfl⟩ := ry
  have hm := PySem.W.mapOf_K (prog := X.prog) (w := X.w) I.kIn hl hk
  have e : findBy Value.isStrOf es z = some u0 := by
    obtain ⟨l⟩ := es
    have := findBy_tab z hp
    rw [hlk] at this
    simpa [findBy] using this
  exact tail_any hm.typeIs slot_dict_getitem.lookup (wpAny_getItem_of (strKind_is X.prog X.w z t) hm e ⟨r, H, I.tok _, ru, q⟩) hs
end
end Pbd
namespace Pbd
open PySem PySem.Spec PyProof.Rows L2 TL
open Cp12 (Bytes ascii)
open Pb (NOp nop? tok1? toks? tokOk)
abbrev Tk := Pb.Tok
/-! ### words, tokens -/
def wordsV (ws : List Bytes) : List V := ws.map fun u => V.str (tx u)
def WordsAt (G : Hp) (v : V) (ws : List Bytes) : Prop := ∃ a, v = .ref a ∧ G a = some (.lst (wordsV ws))
theorem WordsAt.mono {G G' : Hp} {v : V} {ws : List Bytes} (s : Same G G') (h : WordsAt G v ws) : WordsAt G' v ws := by
  obtain ⟨a, h1, h2⟩ := h
  exact ⟨a, h1, s _ _ h2⟩
def WordsOk (ws : List Bytes) : Prop := ws.length ≤ 1000 ∧ ∀ u ∈ ws, Asc u ∧ u.length ≤ 1000
theorem words_get {ws : List Bytes} {i : Nat} {u : Bytes} (h : ws[i]? = some u) : (wordsV ws)[i]? = some (.str (tx u)) := by
  unfold wordsV
  rw [List.getElem?_map, h]; rfl
theorem words_len (ws : List Bytes) : (wordsV ws).length = ws.length := List.length_map _
def kind : Tk → Bytes
  | .opn => [40]
  | .cls => [41]
  | .plus => [43]
  | .over => ascii "over"
  | .back => ascii "back"
  | .name _ => ascii "name"
  | .rest _ => ascii "rest"
  | .num o _ => o.word
def ArgAt (G : Hp) (x : V) : Tk → Prop
  | .name w => x = .str (tx w)
  | .rest n => EvAt G x ⟨none, n⟩
  | .num _ n => x = .int (n : Nat)
  | _ => x = .non
theorem ArgAt.mono {G G' : Hp} {x : V} {t : Tk} (s : Same G G') (h : ArgAt G x t) : ArgAt G' x t := by
  cases t <;> first | exact h | exact EvAt.mono s h
def TokAt (G : Hp) (v : V) (t : Tk) : Prop := ∃ a x, v = .ref a ∧ G a = some (.tup [.str (tx (kind t)), x]) ∧ ArgAt G x t
theorem TokAt.mono {G G' : Hp} {v : V} {t : Tk} (s : Same G G') (h : TokAt G v t) : TokAt G' v t := by
  obtain ⟨a, x, h1, h2, h3⟩ := h
  exact ⟨a, x, h1, s _ _ h2, h3.mono s⟩
abbrev ToksAt (G : Hp) (v : V) (ts : List Tk) : Prop := Seq TokAt G v ts
theorem ToksAt.mono {G G' : Hp} {v : V} {ts : List Tk} (s : Same G G') (h : ToksAt G v ts) : ToksAt G' v ts := Seq.mono (R := TokAt) (fun s q => TokAt.mono s q) s h
/-- a new tuple of two: a token -/
theorem tok_new {G H : Hp} {p : Addr} {t : Tk} {x : V} (s : Same G H) (h : H p = none) (hx : ArgAt G x t) : Grow G H (upd G p (.tup [.str (tx (kind t)), x])) (upd H p (.tup [.str (tx (kind t)), x])) ∧ TokAt (upd G p (.tup [.str (tx (kind t)), x])) (.ref p) t :=
  ⟨Grow.new s h, p, x, rfl, upd_same, hx.mono (same_new (s.free h))⟩
theorem lookup_ranges (f : NOp → Addr) (u : Bytes) : (rangesOf f).lookup (tx u) = (nop? u).map fun o => Value.ref (f o) := by
  have hlit : ∀ s : String, (tx u == Str.ofString s) = decide (u = ascii s) := fun s => by
    rw [lit]
    by_cases c : u = ascii s
    · subst c; simp
    · rw [decide_eq_false c]
      exact beq_eq_false_iff_ne.mpr fun z => c (tx_inj z)
  unfold rangesOf nop?
  simp only [List.lookup, hlit]
  by_cases c1 : u = ascii "up"
  · rw [decide_eq_true c1, if_pos c1]; rfl
  rw [decide_eq_false c1, if_neg c1]
  by_cases c2 : u = ascii "down"
  · rw [decide_eq_true c2, if_pos c2]; rfl
  rw [decide_eq_false c2, if_neg c2]
  by_cases c3 : u = ascii "long"
  · rw [decide_eq_true c3, if_pos c3]; rfl
  rw [decide_eq_false c3, if_neg c3]
  by_cases c4 : u = ascii "short"
  · rw [decide_eq_true c4, if_pos c4]; rfl
  rw [decide_eq_false c4, if_neg c4]
  by_cases c5 : u = ascii "times"
  · rw [decide_eq_true c5, if_pos c5]; rfl
  rw [decide_eq_false c5, if_neg c5]; rfl
theorem plain_tl : ((["(", ")", "+", "over", "back"] : List Str).map tl) = [[40], [41], [43], ascii "over", ascii "back"] := by decide +kernel
theorem starts_tl : ((["(", "name", "rest"] : List Str).map tl) = [[40], ascii "name", ascii "rest"] := by decide +kernel
/-- the token at a place -/
def tokAt? (ws : List Bytes) (i : Nat) : Option Tk := match ws[i]? with
  | none => none
  | some u => match nop? u with
    | some o => (ws[i + 1]?).bind fun x => (Cp12.num? o.lo o.hi x).map fun n => .num o n
    | none => tok1? u
section
variable {P : Program} {w : World} {K : PySem.W.Frag} {mg : Str → Option Value} {base : Heap} {aM aR aP aS aN aB : Addr}
/-! ### read_numbered -/
abbrev s_read_numbered : Stmt := top 36
abbrev n_read_numbered : List Str := ["words", "place", "word", "number"]
theorem sc_read_numbered : FnScope n_read_numbered ["words", "place"] (defScope s_read_numbered) := ⟨rfl, rfl, rfl, by decide +kernel, rfl, by decide +kernel, by decide +kernel⟩

def sp_read_numbered : Sp := fun vs H Q _ => ∃ (v : V) (ws : List Bytes) (i : Nat) (u : Bytes) (o : NOp) (G : Hp), vs = [v, .int (i : Nat)] ∧ Same G H ∧ WordsAt G v ws ∧ WordsOk ws ∧ ws[i]? = some u ∧ nop? u = some o ∧ ∀ r G' H', Grow G H G' H' → OptR TokAt G' r (tokAt? ws i) → Q r H'
theorem ok_read_numbered {f : Addr} {fd : FuncData} (F : Fun K "read_numbered" "read_numbered" s_read_numbered f fd) (T : Txt K w mg aM aR aP aS aN aB) (f_read_number : Callee P w K mg base "read_number" 1 ["word", "low", "high"] sp_read_number) : FnOk P w K mg base CX0 2 f fd ["words", "place"] sp_read_numbered := by
  refine F.ok sc_read_numbered (fun vs H Q E h => ?_) (fun cdv A outer s H vs Q E hr h => ?_)
  · obtain ⟨v, ws, i, u, o, G, rfl, _⟩ := h; rfl
  · obtain ⟨v, ws, i, u, o, G, rfl, hG, ⟨a, rfl, ha⟩, ⟨hw1, hw2⟩, hu, ho, q⟩ := h
    refine ⟨_, (pss_cons (ps_if (pt_cmpR op_eq (pe_op op_add (pv 1) pe_int) (pe_callB call_len_seq (by rfl) T.b_len (by decide +kernel) (pa_cons (pv 0) pa_nil)) (nomark _)) (pss_one (ps_ret pe_non)) pss_nil) (pss_cons (ps_set (i := 2) sc_read_numbered.nd rfl (Or.inl rfl) (pe_ix ix_list (pv 0) (pv 1) (fun _ _ => rfl))) (pss_cons (ps_set (i := 3) sc_read_numbered.nd rfl (Or.inl rfl) (pe_do f_read_number hr (by decide) (by rfl) (pa_cons (pe_ix ix_list (pv 0) (pe_op op_add (pv 1) pe_int) (fun _ _ => rfl)) (pa_cons (pe_ix ix_tup (pe_ix ix_kt (pe_gref (by rfl) T.g_NUMBER_RANGES) (pv 2) (fun _ _ => rfl)) pe_int (fun _ _ => rfl)) (pa_cons (pe_ix ix_tup (pe_ix ix_kt (pe_gref (by rfl) T.g_NUMBER_RANGES) (pv 2) (fun _ _ => rfl)) pe_int (fun _ _ => rfl)) pa_nil))))) (pss_one (ps_ret (pe_ifExp (pt_cmpR op_isN (pv 3) pe_non (nomark _)) pe_non (pe_tup (pa_cons (pv 2) (pa_cons (pv 3) pa_nil))))))))), ?_⟩
    have haH := hG _ _ ha
    have et : tokAt? ws i = (ws[i + 1]?).bind fun x => (Cp12.num? o.lo o.hi x).map fun n => .num o n := by
      unfold tokAt?
      rw [hu]
      simp only [ho]
    rw [et] at q
    have hi := (List.getElem?_eq_some_iff.mp hu).1
    refine ⟨_, rfl, _, _, rfl, rfl, _, rfl, a, _, rfl, .inl (SqL.of haH), rfl, _, rfl, if_b (fun c => ?_) (fun c => ?_)⟩
    · have c : i + 1 = ws.length := by
        have := V.int.inj (of_decide_eq_true c)
        rw [words_len] at this; omega
      rw [List.getElem?_eq_none (by omega)] at q
      exact q _ _ _ (Grow.refl hG) rfl
    · have c : i + 1 < ws.length := by
        have c := of_decide_eq_false c
        have : ((i : Int) + 1) ≠ (ws.length : Int) := fun z => c (by rw [words_len]; exact congrArg V.int z)
        omega
      rw [List.getElem?_eq_getElem c] at q
      simp only [Option.bind_some] at q
      refine ⟨_, rfl, _, rfl, a, _, _, _, rfl, rfl, SqL.of haH, atI_nat (words_get hu), ?_⟩
      obtain ⟨rg, hT, hrg⟩ := T.t_ranges
      have hlk : (rangesOf rg).lookup (tx u) = some (.ref (rg o)) := by rw [lookup_ranges, ho]; rfl
      have hx := hw2 _ (List.getElem_mem c)
      refine ⟨_, rfl, _, rfl, _, _, rfl, rfl, a, _, ((i + 1 : Nat) : Int), _, rfl, rfl, SqL.of haH, atI_nat (words_get (List.getElem?_eq_getElem c)), ?_⟩
      refine ⟨_, rfl, _, tx u, _, _, .ref (rg o), rfl, rfl, hT, hlk, rfl, rg o, _, 0, _, rfl, rfl, hrg o _, atI_nat (j := 0) rfl, ?_⟩
      refine ⟨_, rfl, _, tx u, _, _, .ref (rg o), rfl, rfl, hT, hlk, rfl, rg o, _, 1, _, rfl, rfl, hrg o _, atI_nat (j := 1) rfl, ?_⟩
      refine ⟨ws[i + 1], o.lo, o.hi, rfl, hx.1, hx.2, ?_⟩
      cases hn : Cp12.num? o.lo o.hi ws[i + 1] with
      | none =>
        rw [hn] at q
        exact ⟨_, rfl, rfl, _, rfl, q _ _ _ (Grow.refl hG) rfl⟩
      | some n =>
        rw [hn] at q
        refine ⟨_, rfl, rfl, _, rfl, _, rfl, _, rfl, (by show 2 ≤ sizeLine; decide), fun p hp => ?_⟩
        have hk : tx u = tx (kind (.num o n)) := congrArg tx (Pb.nop_word ho)
        rw [hk]
        obtain ⟨g, t⟩ := tok_new (t := .num o n) (x := .int (n : Nat)) hG hp rfl
        exact q _ _ _ g t
/-! ### read_token -/
abbrev s_read_token : Stmt := top 35
abbrev n_read_token : List Str := ["words", "place", "word", "event"]
theorem sc_read_token : FnScope n_read_token ["words", "place"] (defScope s_read_token) := ⟨rfl, rfl, rfl, by decide +kernel, rfl, by decide +kernel, by decide +kernel⟩

def sp_read_token : Sp := fun vs H Q _ => ∃ (v : V) (ws : List Bytes) (i : Nat) (G : Hp), vs = [v, .int (i : Nat)] ∧ Same G H ∧ WordsAt G v ws ∧ WordsOk ws ∧ i < ws.length ∧ ∀ r G' H', Grow G H G' H' → OptR TokAt G' r (tokAt? ws i) → Q r H'
theorem ok_read_token {f : Addr} {fd : FuncData} (F : Fun K "read_token" "read_token" s_read_token f fd) (T : Txt K w mg aM aR aP aS aN aB) (f_read_numbered : Callee P w K mg base "read_numbered" 2 ["words", "place"] sp_read_numbered) (f_is_name : Callee P w K mg base "is_name" 1 ["word"] sp_is_name) (f_read_event : Callee P w K mg base "read_event" 2 ["word"] sp_read_event) (f_is_rest : Callee P w K mg base "is_rest" 1 ["event"] sp_is_rest) :
    FnOk P w K mg base CX0 3 f fd ["words", "place"] sp_read_token := by
  refine F.ok sc_read_token (fun vs H Q E h => ?_) (fun cdv A outer s H vs Q E hr h => ?_)
  · obtain ⟨v, ws, i, G, rfl, _⟩ := h; rfl
  · obtain ⟨v, ws, i, G, rfl, hG, ⟨a, rfl, ha⟩, hok, hi, q⟩ := h
    refine ⟨_, (pss_cons (ps_set (i := 2) sc_read_token.nd rfl (Or.inl rfl) (pe_ix ix_list (pv 0) (pv 1) (fun _ _ => rfl))) (pss_cons (ps_if (pt_cmpR op_in_kd (pv 2) (pe_gref (by rfl) T.g_NUMBER_RANGES) rfl) (pss_one (ps_ret (pe_do f_read_numbered hr (by decide) (by rfl) (pa_cons (pv 0) (pa_cons (pv 1) pa_nil))))) pss_nil) (pss_cons (ps_if (pt_cmpR op_in_seq (pv 2) (pe_gref (by rfl) T.g_PLAIN_WORDS) rfl) (pss_one (ps_ret (pe_tup (pa_cons (pv 2) (pa_cons pe_non pa_nil))))) pss_nil) (pss_cons (ps_if (pt_val (pe_do f_is_name hr (by decide) (by rfl) (pa_cons (pv 2) pa_nil))) (pss_one (ps_ret (pe_tup (pa_cons pe_str (pa_cons (pv 2) pa_nil))))) pss_nil) (pss_cons (ps_set (i := 3) sc_read_token.nd rfl (Or.inl rfl) (pe_do f_read_event hr (by decide) (by rfl) (pa_cons (pv 2) pa_nil))) (pss_cons (ps_if (PW.pt (pw_or (pt_cmpR op_isN (pv 3) pe_non (nomark _)) (pw_or1 (pt_not (pt_val (pe_do f_is_rest hr (by decide) (by rfl) (pa_cons (pv 3) pa_nil))))))) (pss_one (ps_ret pe_non)) pss_nil) (pss_one (ps_ret (pe_tup (pa_cons pe_str (pa_cons (pv 3) pa_nil))))))))))), ?_⟩
    have haH := hG _ _ ha
    have hu : ws[i]? = some ws[i] := List.getElem?_eq_getElem hi
    obtain ⟨hasc, hlen⟩ := hok.2 _ (List.getElem_mem hi)
    have hat : atI (wordsV ws) (i : Int) = some (.str (tx ws[i])) := atI_nat (words_get hu)
    obtain ⟨rg, hT, hrg⟩ := T.t_ranges
    refine ⟨_, rfl, _, rfl, a, _, _, _, rfl, rfl, SqL.of haH, hat, ?_⟩
    have et : tokAt? ws i = match nop? ws[i] with
        | some o => (ws[i + 1]?).bind fun x => (Cp12.num? o.lo o.hi x).map fun n => .num o n
        | none => tok1? ws[i] := by
      unfold tokAt?
      rw [hu]
    generalize hx : ws[i] = u at *
    refine ⟨_, rfl, _, tx u, _, rfl, rfl, hT, _, rfl, ?_⟩
    rw [lookup_ranges]
    cases ho : nop? u with
    | some o => exact ⟨_, rfl, _, rfl, _, ws, i, u, o, G, rfl, hG, ⟨a, rfl, ha⟩, hok, hu, ho, q⟩
    | none =>
      rw [ho] at et
      simp only at et
      rw [et] at q
      have plain : ∀ (t : Tk), tok1? u = some t → kind t = u → ArgAt G .non t → ∀ p, H p = none → Q (.ref p) (upd H p (.tup [.str (tx u), .non])) := by
        intro t h1 h2 h3 p hp
        rw [h1] at q
        obtain ⟨g, t'⟩ := tok_new (t := t) (x := .non) hG hp h3
        rw [h2] at g t'
        exact q _ _ _ g t'
      refine ⟨_, rfl, _, _, rfl, .inr (T.q_plain _), rfl, rfl, _, rfl, if_b (fun c => ?_) (fun c => ?_)⟩
      · have c : u = [40] ∨ u = [41] ∨ u = [43] ∨ u = ascii "over" ∨ u = ascii "back" := by
          have : inV (.str (tx u)) ((["(", ")", "+", "over", "back"] : List Str).map V.str) = true := c
          rw [inV_strs, plain_tl] at this
          simpa only [List.contains_cons, List.contains_nil, Bool.or_false, Bool.or_eq_true, beq_iff_eq] using this
        refine ⟨_, rfl, (by show 2 ≤ sizeLine; decide), fun p hp => ?_⟩
        rcases c with rfl | rfl | rfl | rfl | rfl
        · exact plain .opn Pb.tok1_opn rfl rfl p hp
        · exact plain .cls Pb.tok1_cls rfl rfl p hp
        · exact plain .plus Pb.tok1_plus rfl rfl p hp
        · exact plain .over Pb.tok1_over rfl rfl p hp
        · exact plain .back Pb.tok1_back rfl rfl p hp
      · have c : u ≠ [40] ∧ u ≠ [41] ∧ u ≠ [43] ∧ u ≠ ascii "over" ∧ u ≠ ascii "back" := by
          have : inV (.str (tx u)) ((["(", ")", "+", "over", "back"] : List Str).map V.str) = false := c
          rw [inV_strs, plain_tl] at this
          simpa only [List.contains_cons, List.contains_nil, Bool.or_false, Bool.or_eq_false_iff, beq_eq_false_iff_ne] using this
        have e1 : tok1? u = if Cp12.isName u then some (.name u) else match Cp12.event? u with
            | some ⟨none, n⟩ => some (.rest n)
            | _ => none := by
          unfold tok1?
          rw [if_neg c.1, if_neg c.2.1, if_neg c.2.2.1, if_neg c.2.2.2.1, if_neg c.2.2.2.2]
          all_goals rfl
        rw [e1] at q
        refine ⟨_, rfl, u, rfl, hasc, hlen, _, rfl, if_b (fun c2 => ?_) (fun c2 => ?_)⟩
        · rw [if_pos c2] at q
          refine ⟨_, rfl, (by show 2 ≤ sizeLine; decide), fun p hp => ?_⟩
          rw [lit]
          obtain ⟨g, t'⟩ := tok_new (t := .name u) (x := .str (tx u)) hG hp rfl
          exact q _ _ _ g t'
        · rw [if_neg (by rw [c2]; decide)] at q
          refine ⟨_, rfl, u, G, rfl, hasc, hlen, hG, fun r G1 H1 g1 hr1 => ?_⟩
          cases hev : Cp12.event? u with
          | none =>
            rw [hev] at q hr1
            obtain rfl : r = .non := hr1
            exact ⟨_, rfl, rfl, _, rfl, q _ _ _ g1 rfl⟩
          | some ev =>
            rw [hev] at q hr1
            obtain ⟨en, el⟩ := ev
            have hr1 : EvAt G1 r ⟨en, el⟩ := hr1
            obtain ⟨t, rfl, ht⟩ := hr1
            refine ⟨_, rfl, rfl, _, rfl, _, rfl, _, ⟨en, el⟩, rfl, ⟨t, rfl, g1.i _ _ ht⟩, _, rfl, ?_⟩
            cases en with
            | some nt => exact q _ _ _ g1 rfl
            | none =>
              refine ⟨_, rfl, (by show 2 ≤ sizeLine; decide), fun p hp => ?_⟩
              rw [lit]
              obtain ⟨g, t'⟩ := tok_new (t := .rest el) (x := .ref t) g1.i hp ⟨t, rfl, ht⟩
              exact q _ _ _ (g1.trans g) t'
/-! ### read_tokens -/
abbrev s_read_tokens : Stmt := top 34
abbrev n_read_tokens : List Str := ["words", "tokens", "place", "token"]
theorem sc_read_tokens : FnScope n_read_tokens ["words"] (defScope s_read_tokens) := ⟨rfl, rfl, rfl, by decide +kernel, rfl, by decide +kernel, by decide +kernel⟩

theorem toks_drop {ws : List Bytes} {i : Nat} (hi : i < ws.length) : toks? (ws.drop i) = (tokAt? ws i).bind fun t => (toks? (ws.drop (i + if (nop? (kind t)).isSome then 2 else 1))).map fun ts => t :: ts := by
  have hu : ws[i]? = some ws[i] := List.getElem?_eq_getElem hi
  have hd : ws.drop i = ws[i] :: ws.drop (i + 1) := List.drop_eq_getElem_cons hi
  rw [hd]
  unfold tokAt?
  rw [hu]
  simp only
  cases ho : nop? ws[i] with
  | some o =>
    simp only
    by_cases c : i + 1 < ws.length
    · have hd2 : ws.drop (i + 1) = ws[i + 1] :: ws.drop (i + 1 + 1) := List.drop_eq_getElem_cons c
      rw [hd2, Pb.toks_num _ ho, List.getElem?_eq_getElem c]
      simp only [Option.bind_some]
      cases Cp12.num? o.lo o.hi ws[i + 1] with
      | none => rfl
      | some n =>
        have : (nop? (kind (.num o n))).isSome = true := by show (nop? o.word).isSome = true; rw [Pb.nop_of]; rfl
        simp only [Option.map_some, Option.bind_some, this, if_true]
    · rw [List.drop_eq_nil_of_le (by omega), List.getElem?_eq_none (by omega)]
      exact Pb.toks_num1 ho
  | none =>
    simp only
    rw [Pb.toks_plain _ ho]
    cases et : tok1? ws[i] with
    | none => rfl
    | some t =>
      have : nop? (kind t) = none := by
        cases t with
        | num o n =>
          exfalso
          unfold tok1? at et
          split at et
          · cases et
          split at et
          · cases et
          split at et
          · cases et
          split at et
          · cases et
          split at et
          · cases et
          split at et
          · cases et
          split at et
          · cases et
          · cases et
        | name w => exact (by decide : nop? (ascii "name") = none)
        | rest n => exact (by decide : nop? (ascii "rest") = none)
        | _ => decide
      simp only [Option.bind_some, this, Option.isSome_none, Bool.false_eq_true, if_false]
def sp_read_tokens : Sp := fun vs H Q _ => ∃ (v : V) (ws : List Bytes) (G : Hp), vs = [v] ∧ Same G H ∧ WordsAt G v ws ∧ WordsOk ws ∧ ∀ r G' H', Grow G H G' H' → OptR (Seq TokAt) G' r (toks? ws) → Q r H'
theorem ok_read_tokens {f : Addr} {fd : FuncData} (F : Fun K "read_tokens" "read_tokens" s_read_tokens f fd) (T : Txt K w mg aM aR aP aS aN aB) (f_read_token : Callee P w K mg base "read_token" 3 ["words", "place"] sp_read_token) : FnOk P w K mg base CX0 4 f fd ["words"] sp_read_tokens := by
  refine F.ok sc_read_tokens (fun vs H Q E h => ?_) (fun cdv A outer s H vs Q E hr h => ?_)
  · obtain ⟨v, ws, G, rfl, _⟩ := h; rfl
  · obtain ⟨v, ws, G, rfl, hG, ⟨a, rfl, ha⟩, hok, q⟩ := h
    refine ⟨_, (pss_cons (ps_set (i := 1) sc_read_tokens.nd rfl (Or.inl rfl) (pe_lst pa_nil)) (pss_cons (ps_set (i := 2) sc_read_tokens.nd rfl (Or.inl rfl) pe_int) (pss_cons (ps_while PassesOwn.never (pt_cmpR op_lt (pv 2) (pe_callB call_len_seq (by rfl) T.b_len (by decide +kernel) (pa_cons (pv 0) pa_nil)) (nomark _)) (pss_cons (ps_set (i := 3) sc_read_tokens.nd rfl (Or.inl rfl) (pe_do f_read_token hr (by decide) (by rfl) (pa_cons (pv 0) (pa_cons (pv 2) pa_nil)))) (pss_cons (ps_if (pt_cmpR op_isN (pv 3) pe_non (nomark _)) (pss_one (ps_ret pe_non)) pss_nil) (pss_cons (ps_expr (pe_bm PySem.F.plainAttrs_list PySem.F.slot_list_append PySem.F.type_list_append mt_append (pv 1) (pa_cons (pv 3) pa_nil))) (pss_one (ps_set (i := 2) sc_read_tokens.nd rfl (Or.inl rfl) (pe_op op_add (pv 2) (pe_ifExp (pt_cmpR op_in_kd (pe_ix ix_tup (pv 3) pe_int (fun _ _ => rfl)) (pe_gref (by rfl) T.g_NUMBER_RANGES) rfl) pe_int pe_int)))))))) (pss_one (ps_ret (pv 1)))))), ?_⟩
    obtain ⟨rg, hT, hrg⟩ := T.t_ranges
    refine ⟨Nat.zero_le _, fun p hp => ?_⟩
    refine ⟨fun m σ H1 => ∃ (i : Nat) (y : Option V) (G1 : Hp) (us : List V) (ts : List Tk), m = ws.length - i ∧ i ≤ ws.length + 1 ∧ ts.length ≤ i ∧ σ = [some (.ref a), some (.ref p), some (.int (i : Nat)), y] ∧ Grow G H G1 H1 ∧ G1 p = none ∧ H1 p = some (.lst us) ∧ Paired (TokAt G1) us ts ∧
        toks? ws = (toks? (ws.drop i)).map fun r => ts ++ r,
      ⟨ws.length, 0, none, G, [], [], rfl, by omega, by simp, rfl, (Grow.refl hG).set hp (hG.free hp), hG.free hp, upd_same, .nil, by simp⟩, ?_⟩
    rintro m σ H1 ⟨i, y, G1, us, ts, rfl, hile, htl, rfl, g, gp, hp1, hpt, ett⟩
    have ha1 := g.g _ _ ha
    have haH := g.i _ _ ha1
    refine ⟨_, rfl, _, rfl, a, _, rfl, .inl (SqL.of haH), _, _, rfl, rfl, _, rfl, if_b (fun c => ?_) (fun c => ?_)⟩
    · have hi : i < ws.length := by have := of_decide_eq_true c; rw [words_len] at this; omega
      refine ⟨fun σ' H2 => ∃ (i' : Nat) (y : Option V) (G2 : Hp) (us : List V) (ts : List Tk), i < i' ∧ i' ≤ ws.length + 1 ∧ ts.length ≤ i' ∧ σ' = [some (.ref a), some (.ref p), some (.int (i' : Nat)), y] ∧ Grow G H G2 H2 ∧ G2 p = none ∧ H2 p = some (.lst us) ∧ Paired (TokAt G2) us ts ∧
        toks? ws = (toks? (ws.drop i')).map fun r => ts ++ r, ?_, ?_⟩
      · rintro σ' H2 ⟨i', y, G2, us, ts, h1, h2, h3⟩
        exact ⟨ws.length - i', by omega, i', y, G2, us, ts, rfl, h2, h3⟩
      · rw [toks_drop hi] at ett
        refine ⟨_, rfl, _, rfl, _, ws, i, G1, rfl, g.i, ⟨a, rfl, ha1⟩, hok, hi, fun r G2 H2 g2 hr2 => ?_⟩
        have gG := g.trans g2
        have gp2 : G2 p = none := g2.out hp1 gp
        cases ht : tokAt? ws i with
        | none =>
          rw [ht] at ett hr2
          obtain rfl : r = .non := hr2
          refine ⟨_, rfl, rfl, _, rfl, q _ _ _ gG ?_⟩
          rw [ett]; rfl
        | some t =>
          rw [ht] at ett hr2
          have hr2 : TokAt G2 r t := hr2
          obtain ⟨ta, x, rfl, hta, hx⟩ := hr2
          have htH := g2.i _ _ hta
          have hp2 := g2.h _ _ hp1
          have htp : ta ≠ p := fun z => by rw [z, gp2] at hta; cases hta
          have hlen := paired_len hpt
          refine ⟨_, rfl, rfl, _, rfl, _, rfl, .inl ⟨rfl, _, SqL.of hp2⟩, _, rfl, p, _, _, rfl, rfl, hp2, by rw [szL, hlen]; have := hok.1; omega, ?_⟩
          have htH' : (upd H2 p (.lst (us ++ [.ref ta]))) ta = some (.tup [.str (tx (kind t)), x]) := by rw [upd_ne htp]; exact htH
          have ett' : toks? ws = (toks? (ws.drop (i + if (nop? (kind t)).isSome then 2 else 1))).map fun r => (ts ++ [t]) ++ r := by
            rw [ett]
            simp only [Option.bind_some, Option.map_map]
            congr 1
            funext r
            simp
          refine ⟨_, rfl, _, rfl, ta, _, 0, _, rfl, rfl, SqT.of htH', atI_nat (j := 0) rfl, _, tx (kind t), _, rfl, rfl, hT, _, rfl, ?_⟩
          rw [lookup_ranges]
          have hsome : ((nop? (kind t)).map fun o => Value.ref (rg o)).isSome = (nop? (kind t)).isSome := by cases nop? (kind t) <;> rfl
          have hnx : ∀ k : Nat, k = (if (nop? (kind t)).isSome then 2 else 1) → 1 ≤ k → k ≤ 2 → ∃ (i' : Nat) (y : Option V) (G3 : Hp) (us' : List V) (ts' : List Tk), i < i' ∧ i' ≤ ws.length + 1 ∧ ts'.length ≤ i' ∧ [some (V.ref a), some (.ref p), some (.int ((i : Int) + (k : Int))), some (.ref ta)] = [some (.ref a), some (.ref p), some (.int (i' : Nat)), y] ∧
              Grow G H G3 (upd H2 p (.lst (us ++ [.ref ta]))) ∧ G3 p = none ∧ (upd H2 p (.lst (us ++ [.ref ta]))) p = some (.lst us') ∧ Paired (TokAt G3) us' ts' ∧ toks? ws = (toks? (ws.drop i')).map fun r => ts' ++ r := by
            intro k hk h1 h2
            refine ⟨i + k, some (.ref ta), G2, us ++ [.ref ta], ts ++ [t], by omega, by omega, by simp; omega, by simp, gG.set hp gp2, gp2, upd_same, paired_snoc (paired_mono hpt fun _ _ q => TokAt.mono g2.g q) ⟨ta, x, rfl, hta, hx⟩, ?_⟩
            rw [hk]; exact ett'
          refine if_b (fun c2 => ?_) (fun c2 => ?_)
          · exact ⟨_, _, rfl, rfl, hnx 2 (by rw [if_pos (by rw [← hsome]; exact c2)]) (by decide) (by decide)⟩
          · have c2 : ((nop? (kind t)).map fun o => Value.ref (rg o)).isSome = false := c2
            exact ⟨_, _, rfl, rfl, hnx 1 (by rw [if_neg (by rw [← hsome, c2]; decide)]) (by decide) (by decide)⟩
    · have hi : ws.length ≤ i := by have := of_decide_eq_false c; rw [words_len] at this; omega
      rw [List.drop_eq_nil_of_le hi] at ett
      have : toks? ws = some ts := by rw [ett]; simp [toks?]
      rw [this] at q
      exact ⟨_, rfl, q _ _ _ (g.put hp hp1 gp) ⟨p, us, rfl, upd_same, paired_mono hpt fun _ _ r => r.mono (same_new gp)⟩⟩
end
end Pbd
namespace Pbd
open PySem PySem.Spec PyProof.Rows L2 TL
open Cp12 (Bytes ascii)
open Pb (NOp nop? tok1? toks? tokOk Mc mrun mstep mend mnext mbad isStart pend rpn order)
theorem start_in (t : Tk) : inV (.str (tx (kind t))) ((["(", "name", "rest"] : List Str).map V.str) = isStart t := by
  rw [inV_strs, starts_tl]
  cases t with
  | num o n => exact (show ([[40], ascii "name", ascii "rest"] : List Bytes).contains o.word = false by cases o <;> decide)
  | name w => exact (by decide : ([[40], ascii "name", ascii "rest"] : List Bytes).contains (ascii "name") = true)
  | rest n => exact (by decide : ([[40], ascii "name", ascii "rest"] : List Bytes).contains (ascii "rest") = true)
  | _ => decide
theorem kind_opn (t : Tk) : (kind t = ascii "(") ↔ t = .opn := by
  cases t with
  | num o n => simp only [reduceCtorEq, iff_false]; exact (show ¬ o.word = ascii "(" by cases o <;> decide)
  | name w => simp only [reduceCtorEq, iff_false]; exact (by decide : ¬ ascii "name" = ascii "(")
  | rest n => simp only [reduceCtorEq, iff_false]; exact (by decide : ¬ ascii "rest" = ascii "(")
  | _ => decide
theorem kind_cls (t : Tk) : (kind t = ascii ")") ↔ t = .cls := by
  cases t with
  | num o n => simp only [reduceCtorEq, iff_false]; exact (show ¬ o.word = ascii ")" by cases o <;> decide)
  | name w => simp only [reduceCtorEq, iff_false]; exact (by decide : ¬ ascii "name" = ascii ")")
  | rest n => simp only [reduceCtorEq, iff_false]; exact (by decide : ¬ ascii "rest" = ascii ")")
  | _ => decide
theorem kind_plus (t : Tk) : (kind t = ascii "+") ↔ t = .plus := by
  cases t with
  | num o n => simp only [reduceCtorEq, iff_false]; exact (show ¬ o.word = ascii "+" by cases o <;> decide)
  | name w => simp only [reduceCtorEq, iff_false]; exact (by decide : ¬ ascii "name" = ascii "+")
  | rest n => simp only [reduceCtorEq, iff_false]; exact (by decide : ¬ ascii "rest" = ascii "+")
  | _ => decide
theorem kind_name (t : Tk) : (kind t = ascii "name") ↔ ∃ u, t = .name u := by
  cases t with
  | num o n => simp only [reduceCtorEq, exists_false, iff_false]; exact (show ¬ o.word = ascii "name" by cases o <;> decide)
  | name w => exact ⟨fun _ => ⟨w, rfl⟩, fun _ => rfl⟩
  | rest n => simp only [reduceCtorEq, exists_false, iff_false]; exact (by decide : ¬ ascii "rest" = ascii "name")
  | _ => simp only [reduceCtorEq, exists_false, iff_false]; decide
theorem kind_rest (t : Tk) : (kind t = ascii "rest") ↔ ∃ n, t = .rest n := by
  cases t with
  | num o n => simp only [reduceCtorEq, exists_false, iff_false]; exact (show ¬ o.word = ascii "rest" by cases o <;> decide)
  | name w => simp only [reduceCtorEq, exists_false, iff_false]; exact (by decide : ¬ ascii "name" = ascii "rest")
  | rest n => exact ⟨fun _ => ⟨n, rfl⟩, fun _ => rfl⟩
  | _ => simp only [reduceCtorEq, exists_false, iff_false]; decide
theorem eq_dec {u : Bytes} {s : String} {p : Prop} (h : decide (V.str (tx u) = V.str (Str.ofString s)) = true) (e : u = ascii s ↔ p) : p := by
  rw [eq_lit] at h
  exact e.mp (of_decide_eq_true h)
theorem ne_dec {u : Bytes} {s : String} {p : Prop} (h : decide (V.str (tx u) = V.str (Str.ofString s)) = false) (e : u = ascii s ↔ p) : ¬ p := by
  rw [eq_lit] at h
  exact fun z => of_decide_eq_false h (e.mpr z)
theorem lit_plus : (Str.ofString "+") = tx [43] := by rw [lit]; rfl
section
variable {P : Program} {w : World} {K : PySem.W.Frag} {mg : Str → Option Value} {base : Heap} {aM aR aP aS aN aB : Addr}
/-! ### end_item -/
abbrev s_end_item : Stmt := top 38
abbrev n_end_item : List Str := ["steps", "waiting"]
theorem sc_end_item : FnScope n_end_item ["steps", "waiting"] (defScope s_end_item) := ⟨rfl, rfl, rfl, by decide +kernel, rfl, by decide +kernel, by decide +kernel⟩

def sp_end_item : Sp := fun vs H Q _ => ∃ (p r : Addr) (us W : List V) (b : Bool), vs = [.ref p, .ref r] ∧ H p = some (.lst us) ∧ H r = some (.lst (W ++ [.bl b])) ∧ us.length ≤ 100000 ∧ (b = false → Q .non H) ∧
  (b = true → ∀ t, H t = none → Q .non (upd (upd H t (.tup [.str (tx [43]), .non])) p (.lst (us ++ [.ref t]))))
theorem ok_end_item {f : Addr} {fd : FuncData} (F : Fun K "end_item" "end_item" s_end_item f fd) (T : Txt K w mg aM aR aP aS aN aB) : FnOk P w K mg base CX0 1 f fd ["steps", "waiting"] sp_end_item := by
  refine F.ok sc_end_item (fun vs H Q E h => ?_) (fun cdv A outer s H vs Q E hr h => ?_)
  · obtain ⟨p, r, us, W, b, rfl, _⟩ := h; rfl
  · obtain ⟨p, r, us, W, b, rfl, hp, hr', hl, q0, q1⟩ := h
    refine ⟨_, (pss_one (ps_if (pt_val (pe_ix ix_list (pv 1) (pe_un un_neg pe_int) (fun _ _ => rfl))) (pss_one (ps_expr (pe_bm PySem.F.plainAttrs_list PySem.F.slot_list_append PySem.F.type_list_append mt_append (pv 0) (pa_cons (pe_tup (pa_cons pe_str (pa_cons pe_non pa_nil))) pa_nil)))) pss_nil)), ?_⟩
    refine ⟨_, rfl, _, rfl, r, _, -1, _, rfl, rfl, SqL.of hr', atI_last W (.bl b), _, rfl, if_b (fun c => ?_) (fun c => ?_)⟩
    · refine ⟨_, rfl, .inl ⟨rfl, _, SqL.of hp⟩, (by show 2 ≤ sizeLine; decide), fun t ht => ?_⟩
      refine ⟨p, us, .ref t, rfl, rfl, ?_, by rw [szL]; omega, ?_⟩
      · rw [upd_ne (ne_of_none hp ht)]; exact hp
      · rw [lit_plus]
        exact q1 c t ht
    · exact q0 c
/-! ### order_steps -/
abbrev s_order_steps : Stmt := top 37
abbrev n_order_steps : List Str := ["tokens", "steps", "waiting", "item_due", "token"]
theorem sc_order_steps : FnScope n_order_steps ["tokens"] (defScope s_order_steps) := ⟨rfl, rfl, rfl, by decide +kernel, rfl, by decide +kernel, by decide +kernel⟩

def tailS (K : PySem.W.Frag) : TS := tIfS (tOr (tNot (fun σ H Q => tVar 2 σ H fun x H' => ∃ k, TruV K x H' k ∧ Q k H')) (tTest (tOp (rI0 fun i j => .bl (decide (j < i))) (tCB (fun xs H Q => ∃ p ys, xs = [V.ref p] ∧ (SqL K H p ys ∨ SqT K H p ys) ∧ Q (.int ys.length) H) (tCons (tVar 2) tNil))
  (tOp (rI0 fun i j => .int (i + j)) (tC (.int 8)) (tC (.int 1)))))) (tRet (tC .non)) tNext
def sp_order_steps : Sp := fun vs H Q _ => ∃ (v : V) (ts : List Tk) (G : Hp), vs = [v] ∧ Same G H ∧ ToksAt G v ts ∧ ts.length ≤ 10000 ∧ ∀ r G' H', Grow G H G' H' → OptR (Seq TokAt) G' r (order ts) → Q r H'
/-- a state of order_steps in the heap -/
structure McAt (G H : Hp) (p r : Addr) (m : Mc) (G1 H1 : Hp) (n : Nat) : Prop where
  g : Grow G H G1 H1
  gp : G1 p = none
  gr : G1 r = none
  st : ∃ us, H1 p = some (.lst us) ∧ Paired (TokAt G1) us m.st
  wt : H1 r = some (.lst (m.wt.reverse.map V.bl))
  ne : p ≠ r
  len : m.st.length ≤ n
theorem McAt.endItem {G H : Hp} {p r : Addr} {m : Mc} {G1 H1 : Hp} {n : Nat} {Q : VK} {W : List V} {b : Bool} (M : McAt G H p r m G1 H1 n) (hp0 : H p = none) (hw : m.wt.reverse.map V.bl = W ++ [.bl b]) (hn : m.st.length ≤ 50000)
    (k : ∀ G2 H2, McAt G H p r ⟨m.st ++ pend b, m.wt, m.due⟩ G2 H2 (n + 1) → Same G1 G2 → Q .non H2) : sp_end_item [.ref p, .ref r] H1 Q E0 := by
  obtain ⟨us, hus, hup⟩ := M.st
  have hul := paired_len hup
  refine ⟨p, r, us, W, b, rfl, hus, by rw [← hw]; exact M.wt, by omega, fun e => ?_, fun e t ht => ?_⟩
  · subst e
    refine k G1 H1 ⟨M.g, M.gp, M.gr, ⟨us, hus, by simpa [pend] using hup⟩, M.wt, M.ne, by have := M.len; simp [pend]; omega⟩ (Same.refl _)
  · subst e
    have hpt : p ≠ t := ne_of_none hus ht
    have hrt : r ≠ t := ne_of_none M.wt ht
    have gpt : (upd G1 t (.tup [.str (tx [43]), .non])) p = none := by rw [upd_ne hpt]; exact M.gp
    have gN := Grow.new (o := .tup [.str (tx [43]), .non]) M.g.i ht
    refine k (upd G1 t (.tup [.str (tx [43]), .non])) _ ⟨(M.g.trans gN).set hp0 gpt, gpt, by rw [upd_ne hrt]; exact M.gr, ⟨_, upd_same, ?_⟩, ?_, M.ne, ?_⟩ gN.g
    · exact paired_snoc (paired_mono hup fun _ _ q => TokAt.mono gN.g q) ⟨t, .non, rfl, upd_same, rfl⟩
    · rw [upd_ne M.ne.symm, upd_ne hrt]; exact M.wt
    · have := M.len; simp [pend]; omega
theorem ok_order_steps {f : Addr} {fd : FuncData} (F : Fun K "order_steps" "order_steps" s_order_steps f fd) (T : Txt K w mg aM aR aP aS aN aB) (f_end_item : Callee P w K mg base "end_item" 1 ["steps", "waiting"] sp_end_item) : FnOk P w K mg base CX0 2 f fd ["tokens"] sp_order_steps := by
  refine F.ok sc_order_steps (fun vs H Q E h => ?_) (fun cdv A outer s H vs Q E hr h => ?_)
  · obtain ⟨v, ts, G, rfl, _⟩ := h; rfl
  · obtain ⟨v, ts, G, rfl, hG, ⟨a, xs, rfl, ha, hp⟩, hl, q⟩ := h
    refine ⟨_, (pss_cons (ps_set (i := 1) sc_order_steps.nd rfl (Or.inl rfl) (pe_lst pa_nil)) (pss_cons (ps_set (i := 2) sc_order_steps.nd rfl (Or.inl rfl) (pe_lst (pa_cons pe_bl pa_nil))) (pss_cons (ps_set (i := 3) sc_order_steps.nd rfl (Or.inl rfl) pe_bl) (pss_cons (ps_for PassesOwn.never rfl (pi_list (pv 0)) (pg_name (i := 4) sc_order_steps.nd rfl (Or.inl rfl)) (pss_cons (ps_if (pt_cmpR op_ne (pv 3) (pe_cmpR op_in_seq (pe_ix ix_tup (pv 4) pe_int (fun _ _ => rfl)) (pe_gref (by rfl) T.g_ITEM_STARTS) rfl) (nomark _)) (pss_one (ps_ret pe_non)) pss_nil) (pss_cons (ps_if (pt_cmpR op_eq (pe_ix ix_tup (pv 4) pe_int (fun _ _ => rfl)) pe_str (nomark _)) (pss_one (ps_expr (pe_bm PySem.F.plainAttrs_list PySem.F.slot_list_append PySem.F.type_list_append mt_append (pv 2) (pa_cons pe_bl pa_nil)))) (pss_one (ps_if (pt_cmpR op_eq (pe_ix ix_tup (pv 4) pe_int (fun _ _ => rfl)) pe_str (nomark _)) (pss_cons (ps_expr (pe_do f_end_item hr (by decide) (by rfl) (pa_cons (pv 1) (pa_cons (pv 2) pa_nil)))) (pss_one (ps_expr (pe_bm0 PySem.F.plainAttrs_list PySem.F.slot_list_pop PySem.F.type_list_pop mt_pop (pv 2))))) (pss_one (ps_if (pt_cmpR op_eq (pe_ix ix_tup (pv 4) pe_int (fun _ _ => rfl)) pe_str (nomark _)) (pss_cons (ps_expr (pe_do f_end_item hr (by decide) (by rfl) (pa_cons (pv 1) (pa_cons (pv 2) pa_nil)))) (pss_cons (ps_asg pe_bl (pg_sub (pv 2) (pe_un un_neg pe_int) set_list)) (pss_one (ps_set (i := 3) sc_order_steps.nd rfl (Or.inl rfl) pe_bl)))) (pss_cons (ps_expr (pe_bm PySem.F.plainAttrs_list PySem.F.slot_list_append PySem.F.type_list_append mt_append (pv 1) (pa_cons (pv 4) pa_nil))) (pss_one (ps_set (i := 3) sc_order_steps.nd rfl (Or.inl rfl) pe_bl)))))))) (pss_one (ps_if (PW.pt (pw_or (pt_not (pt_truth (pv 2) (by intro _; rfl))) (pw_or1 (pt_cmpR op_gt (pe_callB call_len_seq (by rfl) T.b_len (by decide +kernel) (pa_cons (pv 2) pa_nil)) (pe_op op_add (pe_gint (by rfl) T.g_DEEPEST_NESTING) pe_int) (nomark _))))) (pss_one (ps_ret pe_non)) pss_nil))))) (pss_cons (ps_if (PW.pt (pw_or (pt_val (pv 3)) (pw_or1 (pt_cmpR op_ne (pe_callB call_len_seq (by rfl) T.b_len (by decide +kernel) (pa_cons (pv 2) pa_nil)) pe_int (nomark _))))) (pss_one (ps_ret pe_non)) pss_nil) (pss_cons (ps_expr (pe_do f_end_item hr (by decide) (by rfl) (pa_cons (pv 1) (pa_cons (pv 2) pa_nil)))) (pss_one (ps_ret (pv 1))))))))), ?_⟩
    have hxl := paired_len hp
    refine ⟨Nat.zero_le _, fun p hp0 => ⟨(by show 1 ≤ sizeLine; decide), fun r hr0 => ?_⟩⟩
    have hpr : p ≠ r := fun z => by subst z; rw [upd_same] at hr0; cases hr0
    have hr1 : H r = none := by rw [upd_ne hpr.symm] at hr0; exact hr0
    have s1 : Same G (upd H p (.lst [])) := same_out hG (hG.free hp0)
    have start : McAt G H p r ⟨[], [false], true⟩ G (upd (upd H p (.lst [])) r (.lst [.bl false])) 0 :=
      ⟨(((Grow.refl hG).set hp0 (hG.free hp0)).set hr1 (hG.free hr1)), hG.free hp0, hG.free hr1, ⟨[], by rw [upd_ne hpr, upd_same], .nil⟩, upd_same, hpr, Nat.le_refl _⟩
    refine ⟨_, rfl, a, rfl, ⟨_, SqL.of (start.g.i _ _ (start.g.g _ _ ha))⟩, for_list (K := K) (a := a) (xs := xs) (fun i σ H1 => ∃ (m : Mc) (y : Option V) (G1 : Hp), σ = [some (.ref a), some (.ref p), some (.ref r), some (.bl m.due), y] ∧ McAt G H p r m G1 H1 (2 * i) ∧ m.wt ≠ [] ∧ m.wt.length ≤ 9 ∧ order ts = mrun m (ts.drop i))
      ⟨_, none, G, rfl, start, by simp, by simp, rfl⟩ (fun i σ H1 _ ⟨m, y, G1, _, M, _⟩ => SqL.of (M.g.i _ _ (M.g.g _ _ ha))) (fun i x σ H1 hx ⟨m, y, G1, e, M, hwn, hwl, eo⟩ => ?_) (fun σ H1 ⟨m, y, G1, e, M, hwn, hwl, eo⟩ => ?_)⟩
    · subst e
      have hi : i < ts.length := by rw [← hxl]; exact (List.getElem?_eq_some_iff.mp hx).1
      obtain ⟨t, ht, ta, ax, rfl, hta, hax⟩ := paired_get hp hx
      have hta1 := M.g.g _ _ hta
      have htaH := M.g.i _ _ hta1
      have hdrop : ts.drop i = t :: ts.drop (i + 1) := by
        obtain ⟨h1, h2⟩ := List.getElem?_eq_some_iff.mp ht
        rw [List.drop_eq_getElem_cons h1, h2]
      rw [hdrop] at eo
      have eo : order ts = (mstep m t).bind fun m' => mrun m' (ts.drop (i + 1)) := eo
      obtain ⟨b, W, hbW⟩ : ∃ b W, m.wt = b :: W := by
        cases hw : m.wt with
        | nil => exact absurd hw hwn
        | cons b W => exact ⟨b, W, rfl⟩
      have hwr : m.wt.reverse.map V.bl = W.reverse.map V.bl ++ [.bl b] := by rw [hbW]; simp
      have hat0 : ∀ H2 : Hp, Same G1 H2 → SqT K H2 ta [.str (tx (kind t)), ax] := fun H2 s => SqT.of (s _ _ hta1)
      refine ⟨_, rfl, _, rfl, ta, _, 0, _, rfl, rfl, SqT.of htaH, atI_nat (j := 0) rfl, _, _, rfl, .inr (T.q_starts _), rfl, rfl, rfl, _, rfl, if_b (fun c => ?_) (fun c => ?_)⟩
      · have c : m.due ≠ isStart t := by
          have : (!decide (V.bl m.due = V.bl (inV (.str (tx (kind t))) ((["(", "name", "rest"] : List Str).map V.str)))) = true := c
          rw [start_in] at this
          simpa using this
        have : mstep m t = none := Pb.step_not c
        rw [this] at eo
        exact q _ _ _ M.g (by rw [eo]; rfl)
      · have c : m.due = isStart t := by
          have : (!decide (V.bl m.due = V.bl (inV (.str (tx (kind t))) ((["(", "name", "rest"] : List Str).map V.str)))) = false := c
          rw [start_in] at this
          simpa using this
        have est : mstep m t = if mbad (mnext m t) then none else some (mnext m t) := by
          unfold Pb.mstep
          rw [if_neg (by simp [c])]
        rw [est] at eo
        have tail : ∀ (G2 H2 : Hp), McAt G H p r (mnext m t) G2 H2 (2 * (i + 1)) → tailS K { nx := fun σ H1 => ∃ (m : Mc) (y : Option V) (G1 : Hp), σ = [some (.ref a), some (.ref p), some (.ref r), some (.bl m.due), y] ∧ McAt G H p r m G1 H1 (2 * (i + 1)) ∧ m.wt ≠ [] ∧ m.wt.length ≤ 9 ∧ order ts = mrun m (ts.drop (i + 1)), rt := Q }
            [some (.ref a), some (.ref p), some (.ref r), some (.bl (mnext m t).due), some (.ref ta)] H2 := by
          intro G2 H2 M2
          refine ⟨_, rfl, _, .inl ⟨_, SqL.of M2.wt, rfl⟩, if_b (fun c2 => ?_) (fun c2 => ?_)⟩
          · have : mbad (mnext m t) = true := by
              have : (mnext m t).wt = [] := by simpa using c2
              unfold Pb.mbad
              rw [this]; rfl
            rw [this] at eo
            exact q _ _ _ M2.g (by rw [eo]; rfl)
          · have hne : (mnext m t).wt ≠ [] := by simpa using c2
            refine ⟨_, rfl, r, _, rfl, .inl (SqL.of M2.wt), _, _, rfl, rfl, _, _, rfl, rfl, _, rfl, if_b (fun c3 => ?_) (fun c3 => ?_)⟩
            · have c3 : 9 < (mnext m t).wt.length := by
                have := of_decide_eq_true c3
                rw [List.length_map, List.length_reverse] at this; omega
              have : mbad (mnext m t) = true := by
                unfold Pb.mbad
                rw [Bool.or_eq_true]
                exact .inr (decide_eq_true c3)
              rw [this] at eo
              exact q _ _ _ M2.g (by rw [eo]; rfl)
            · have c3 : ¬ 9 < (mnext m t).wt.length := by
                have := of_decide_eq_false c3
                rw [List.length_map, List.length_reverse] at this; omega
              have : mbad (mnext m t) = false := by
                unfold Pb.mbad
                rw [Bool.or_eq_false_iff]
                exact ⟨by simpa using hne, decide_eq_false c3⟩
              rw [this] at eo
              exact ⟨_, _, G2, rfl, M2, hne, by omega, eo⟩
        obtain ⟨us, hus, hup⟩ := M.st
        have husl : us.length ≤ 100000 := by have := paired_len hup; have := M.len; omega
        have hwt := M.wt
        rw [hwr] at hwt
        refine ⟨_, rfl, ta, _, 0, _, rfl, rfl, SqT.of htaH, atI_nat (j := 0) rfl, rfl, _, rfl, if_b (fun c1 => ?_) (fun c1 => ?_)⟩
        · -- "("
          have c1 : t = .opn := eq_dec c1 (kind_opn t)
          subst c1
          refine ⟨_, rfl, .inl ⟨rfl, _, SqL.of M.wt⟩, r, _, _, rfl, rfl, M.wt, ?_, ?_⟩
          · rw [List.length_map, List.length_reverse, szL]; omega
          · refine tail G1 _ ⟨M.g.set hr1 M.gr, M.gp, M.gr, ⟨us, by rw [upd_ne M.ne]; exact hus, hup⟩, ?_, M.ne, ?_⟩
            · rw [upd_same]
              simp [Pb.mnext]
            · have := M.len; show m.st.length ≤ _; omega
        · have n1 := ne_dec c1 (kind_opn t)
          refine ⟨_, rfl, ta, _, 0, _, rfl, rfl, SqT.of htaH, atI_nat (j := 0) rfl, rfl, _, rfl, if_b (fun c2 => ?_) (fun c2 => ?_)⟩
          · -- ")"
            have c2 : t = .cls := eq_dec c2 (kind_cls t)
            subst c2
            refine ⟨_, rfl, _, rfl, ?_⟩
            dsimp only [tNil]
            refine M.endItem hp0 hwr (by have := M.len; omega) fun G2 H2 M2 sG => ?_
            have hwt2 := M2.wt
            have hwr2 : (Mc.mk (m.st ++ pend b) m.wt m.due).wt.reverse.map V.bl = W.reverse.map V.bl ++ [.bl b] := hwr
            rw [hwr2] at hwt2
            refine ⟨_, rfl, .inl ⟨rfl, _, SqL.of hwt2⟩, r, _, .bl b, rfl, rfl, hwt2, by simp, ?_⟩
            obtain ⟨us2, hus2, hup2⟩ := M2.st
            refine tail G2 _ ⟨M2.g.set hr1 M2.gr, M2.gp, M2.gr, ⟨us2, by rw [upd_ne M2.ne]; exact hus2, ?_⟩, ?_, M2.ne, ?_⟩
            · show Paired (TokAt G2) us2 (m.st ++ pend (m.wt.headD false))
              rw [hbW]; exact hup2
            · rw [upd_same, List.dropLast_concat]
              show _ = some (HO.lst (m.wt.tail.reverse.map V.bl))
              rw [hbW]; rfl
            · show (m.st ++ pend (m.wt.headD false)).length ≤ _
              have := M2.len
              rw [hbW]
              have e2 : (Mc.mk (m.st ++ pend b) m.wt m.due).st = m.st ++ pend b := rfl
              rw [e2] at this
              show (m.st ++ pend b).length ≤ _
              omega
          · have n2 := ne_dec c2 (kind_cls t)
            refine ⟨_, rfl, ta, _, 0, _, rfl, rfl, SqT.of htaH, atI_nat (j := 0) rfl, rfl, _, rfl, if_b (fun c3 => ?_) (fun c3 => ?_)⟩
            · -- "+"
              have c3 : t = .plus := eq_dec c3 (kind_plus t)
              subst c3
              refine ⟨_, rfl, _, rfl, ?_⟩
              dsimp only [tNil]
              refine M.endItem hp0 hwr (by have := M.len; omega) fun G2 H2 M2 sG => ?_
              have hwt2 := M2.wt
              have hwr2 : (Mc.mk (m.st ++ pend b) m.wt m.due).wt.reverse.map V.bl = W.reverse.map V.bl ++ [.bl b] := hwr
              rw [hwr2] at hwt2
              obtain ⟨us2, hus2, hup2⟩ := M2.st
              refine ⟨_, rfl, _, rfl, r, _, -1, W.length, rfl, rfl, hwt2, ?_, ?_⟩
              · simp [ixN]; omega
              · refine tail G2 _ ⟨M2.g.set hr1 M2.gr, M2.gp, M2.gr, ⟨us2, by rw [upd_ne M2.ne]; exact hus2, ?_⟩, ?_, M2.ne, ?_⟩
                · show Paired (TokAt G2) us2 (m.st ++ pend (m.wt.headD false))
                  rw [hbW]; exact hup2
                · rw [upd_same]
                  show some (HO.lst _) = some (HO.lst ((true :: m.wt.tail).reverse.map V.bl))
                  rw [hbW]
                  have : (W.reverse.map V.bl ++ [V.bl b]).set W.length (.bl true) = W.reverse.map V.bl ++ [.bl true] := by
                    have e : W.length = (W.reverse.map V.bl).length := by simp
                    rw [e, List.set_append_right _ _ (Nat.le_refl _)]
                    simp
                  rw [this]
                  simp
                · show (m.st ++ pend (m.wt.headD false)).length ≤ _
                  have := M2.len
                  rw [hbW]
                  have e2 : (Mc.mk (m.st ++ pend b) m.wt m.due).st = m.st ++ pend b := rfl
                  rw [e2] at this
                  show (m.st ++ pend b).length ≤ _
                  omega
            · have n3 := ne_dec c3 (kind_plus t)
              have emn : mnext m t = ⟨m.st ++ [t], m.wt, false⟩ := by
                cases t with
                | opn => exact absurd rfl n1
                | cls => exact absurd rfl n2
                | plus => exact absurd rfl n3
                | _ => rfl
              rw [emn] at tail
              refine ⟨_, rfl, .inl ⟨rfl, _, SqL.of hus⟩, _, rfl, p, _, _, rfl, rfl, hus, by rw [szL]; omega, ?_⟩
              refine tail G1 _ ⟨M.g.set hp0 M.gp, M.gp, M.gr, ⟨_, upd_same, paired_snoc hup ⟨ta, ax, rfl, hta1, hax.mono M.g.g⟩⟩, by rw [upd_ne M.ne.symm]; exact M.wt, M.ne, ?_⟩
              have := M.len
              simp only [List.length_append, List.length_singleton]
              omega
    · subst e
      rw [hxl, List.drop_length] at eo
      have eo : order ts = mend m := eo
      obtain ⟨b, W, hbW⟩ : ∃ b W, m.wt = b :: W := by
        cases hw : m.wt with
        | nil => exact absurd hw hwn
        | cons b W => exact ⟨b, W, rfl⟩
      have hwr : m.wt.reverse.map V.bl = W.reverse.map V.bl ++ [.bl b] := by rw [hbW]; simp
      refine ⟨_, rfl, _, rfl, if_b (fun c => ?_) (fun c => ?_)⟩
      · have : mend m = none := by unfold Pb.mend; rw [c]; rfl
        exact q _ _ _ M.g (by rw [eo, this]; rfl)
      · refine ⟨_, rfl, r, _, rfl, .inl (SqL.of M.wt), rfl, _, rfl, if_b (fun c2 => ?_) (fun c2 => ?_)⟩
        · have c2 : m.wt.length ≠ 1 := by
            intro z
            have : (!decide (V.int (((m.wt.reverse.map V.bl).length : Nat) : Int) = V.int 1)) = true := c2
            rw [List.length_map, List.length_reverse, z] at this
            exact absurd this (by decide)
          have : mend m = none := by
            unfold Pb.mend
            rw [if_pos]
            rw [c]
            simpa using c2
          exact q _ _ _ M.g (by rw [eo, this]; rfl)
        · have c2 : m.wt.length = 1 := by
            have : (!decide (V.int (((m.wt.reverse.map V.bl).length : Nat) : Int) = V.int 1)) = false := c2
            rw [List.length_map, List.length_reverse] at this
            have := V.int.inj (of_decide_eq_true (by simpa only [Bool.not_eq_false'] using this))
            omega
          have : mend m = some (m.st ++ pend b) := by
            unfold Pb.mend
            rw [if_neg (by rw [c, c2]; decide), hbW]; rfl
          rw [eo, this] at q
          refine ⟨_, rfl, _, rfl, ?_⟩
          dsimp only [tNil]
          refine M.endItem hp0 hwr (by have := M.len; omega) fun G2 H2 M2 sG => ?_
          obtain ⟨us2, hus2, hup2⟩ := M2.st
          exact ⟨_, rfl, q _ _ _ (M2.g.put hp0 hus2 M2.gp) ⟨p, us2, rfl, upd_same, paired_mono hup2 fun _ _ r => r.mono (same_new M2.gp)⟩⟩
end
end Pbd
namespace Pbd
open PySem PySem.Spec PyProof.Rows L2 TL
open Cp12 (Bytes ascii)
open Pb (NOp nop? tok1? toks? tokOk rpn order okE)
theorem toks_len : ∀ (n : Nat) (ws : List Bytes) (ts : List Tk), ws.length ≤ n → toks? ws = some ts → ts.length ≤ ws.length
  | _, [], ts, _, h => by cases h; simp
  | 0, _ :: _, _, hn, _ => by simp at hn
  | n + 1, w :: r, ts, hn, h => by
    simp only [List.length_cons] at hn
    cases e : nop? w with
    | none =>
      rw [Pb.toks_plain r e] at h
      cases e1 : tok1? w with
      | none => rw [e1] at h; cases h
      | some t =>
        rw [e1] at h
        cases e2 : toks? r with
        | none => rw [e2] at h; cases h
        | some us =>
          rw [e2] at h
          cases h
          have := toks_len n r us (by omega) e2
          simp only [List.length_cons]; omega
    | some o =>
      cases r with
      | nil => rw [Pb.toks_num1 e] at h; cases h
      | cons v s =>
        rw [Pb.toks_num s e] at h
        cases e1 : Cp12.num? o.lo o.hi v with
        | none => rw [e1] at h; cases h
        | some m =>
          rw [e1] at h
          cases e2 : toks? s with
          | none => rw [e2] at h; cases h
          | some us =>
            rw [e2] at h
            cases h
            simp only [List.length_cons] at hn
            have := toks_len n s us (by omega) e2
            simp only [List.length_cons]; omega
section
variable {P : Program} {w : World} {K : PySem.W.Frag} {mg : Str → Option Value} {base : Heap} {aM aR aP aS aN aB : Addr}
/-! ### read_expression -/
abbrev s_read_expression : Stmt := top 33
abbrev n_read_expression : List Str := ["words", "tokens"]
theorem sc_read_expression : FnScope n_read_expression ["words"] (defScope s_read_expression) := ⟨rfl, rfl, rfl, by decide +kernel, rfl, by decide +kernel, by decide +kernel⟩

def sp_read_expression : Sp := fun vs H Q _ => ∃ (v : V) (ws : List Bytes) (G : Hp), vs = [v] ∧ Same G H ∧ WordsAt G v ws ∧ WordsOk ws ∧ ∀ r G' H', Grow G H G' H' → OptR (Seq TokAt) G' r ((Pb.readW ws).map rpn) → Q r H'
theorem ok_read_expression {f : Addr} {fd : FuncData} (F : Fun K "read_expression" "read_expression" s_read_expression f fd) (T : Txt K w mg aM aR aP aS aN aB) (f_read_tokens : Callee P w K mg base "read_tokens" 4 ["words"] sp_read_tokens) (f_order_steps : Callee P w K mg base "order_steps" 2 ["tokens"] sp_order_steps) :
    FnOk P w K mg base CX0 5 f fd ["words"] sp_read_expression := by
  refine F.ok sc_read_expression (fun vs H Q E h => ?_) (fun cdv A outer s H vs Q E hr h => ?_)
  · obtain ⟨v, ws, G, rfl, _⟩ := h; rfl
  · obtain ⟨v, ws, G, rfl, hG, ha, hok, q⟩ := h
    refine ⟨_, (pss_cons (ps_set (i := 1) sc_read_expression.nd rfl (Or.inl rfl) (pe_do f_read_tokens hr (by decide) (by rfl) (pa_cons (pv 0) pa_nil))) (pss_one (ps_ret (pe_ifExp (pt_cmpR op_isN (pv 1) pe_non (nomark _)) pe_non (pe_do f_order_steps hr (by decide) (by rfl) (pa_cons (pv 1) pa_nil)))))), ?_⟩
    rw [← Pb.order_read] at q
    refine ⟨_, rfl, _, ws, G, rfl, hG, ha, hok, fun r G1 H1 g1 hr1 => ?_⟩
    cases ht : toks? ws with
    | none =>
      rw [ht] at q hr1
      obtain rfl : r = .non := hr1
      exact ⟨_, rfl, rfl, _, rfl, q _ _ _ g1 rfl⟩
    | some ts =>
      rw [ht] at q hr1
      have hr1 : ToksAt G1 r ts := hr1
      have hr1' := hr1
      obtain ⟨a, us, rfl, _⟩ := hr1'
      have hl := toks_len _ ws ts (Nat.le_refl _) ht
      refine ⟨_, rfl, rfl, _, rfl, _, rfl, _, ts, G1, rfl, g1.i, hr1, by have := hok.1; omega, fun r2 G2 H2 g2 hr2 => q _ _ _ (g1.trans g2) hr2⟩
/-! ### names_in -/
abbrev s_names_in : Stmt := top 39
abbrev n_names_in : List Str := ["steps", "names", "step"]
theorem sc_names_in : FnScope n_names_in ["steps"] (defScope s_names_in) := ⟨rfl, rfl, rfl, by decide +kernel, rfl, by decide +kernel, by decide +kernel⟩

def sp_names_in : Sp := fun vs H Q _ => ∃ (v : V) (ts : List Tk), vs = [v] ∧ ToksAt H v ts ∧ ts.length ≤ 10000 ∧ ∀ H' p, Same H H' → H p = none → H' p = some (.lst (wordsV (Pb.once (ts.filterMap Pb.nameOf)))) → Q (.ref p) H'
theorem once_snoc (l : List Bytes) (x : Bytes) : Pb.once (l ++ [x]) = if (Pb.once l).contains x then Pb.once l else Pb.once l ++ [x] := by
  unfold Pb.once
  rw [List.foldl_append]; rfl
theorem once_len (l : List Bytes) : (Pb.once l).length ≤ l.length := Pb.nodup_sub_length (Pb.once_nodup l) fun _ h => Pb.mem_once.mp h
theorem inV_words (u : Bytes) (ws : List Bytes) : inV (.str (tx u)) (wordsV ws) = ws.contains u := by
  have e : wordsV ws = (ws.map tx).map V.str := by unfold wordsV; rw [List.map_map]; rfl
  rw [e, inV_strs, List.map_map]
  have : (tl ∘ tx) = id := by funext x; rfl
  rw [this, List.map_id]
theorem flat_words (ws : List Bytes) : (wordsV ws).all flatV = true := by
  unfold wordsV
  rw [List.all_map, List.all_eq_true]
  intro _ _; rfl
theorem ok_names_in {f : Addr} {fd : FuncData} (F : Fun K "names_in" "names_in" s_names_in f fd) (T : Txt K w mg aM aR aP aS aN aB) : FnOk P w K mg base CX0 1 f fd ["steps"] sp_names_in := by
  refine F.ok sc_names_in (fun vs H Q E h => ?_) (fun cdv A outer s H vs Q E hr h => ?_)
  · obtain ⟨v, ts, rfl, _⟩ := h; rfl
  · obtain ⟨v, ts, rfl, ⟨a, xs, rfl, ha, hp⟩, hl, q⟩ := h
    refine ⟨_, (pss_cons (ps_set (i := 1) sc_names_in.nd rfl (Or.inl rfl) (pe_lst pa_nil)) (pss_cons (ps_for PassesOwn.never rfl (pi_list (pv 0)) (pg_name (i := 2) sc_names_in.nd rfl (Or.inl rfl)) (pss_one (ps_if (PW.pt (pw_and (pt_cmpR op_eq (pe_ix ix_tup (pv 2) pe_int (fun _ _ => rfl)) pe_str (nomark _)) (pw_and1 (pt_cmpR op_notIn_seq (pe_ix ix_tup (pv 2) pe_int (fun _ _ => rfl)) (pv 1) rfl)))) (pss_one (ps_expr (pe_bm PySem.F.plainAttrs_list PySem.F.slot_list_append PySem.F.type_list_append mt_append (pv 1) (pa_cons (pe_ix ix_tup (pv 2) pe_int (fun _ _ => rfl)) pa_nil)))) pss_nil))) (pss_one (ps_ret (pv 1))))), ?_⟩
    have hxl := paired_len hp
    refine ⟨Nat.zero_le _, fun p hp0 => ?_⟩
    have s0 : Same H (upd H p (.lst [])) := same_new hp0
    refine ⟨_, rfl, a, rfl, ⟨_, SqL.of (s0 _ _ ha)⟩, for_list (K := K) (a := a) (xs := xs) (fun i σ H1 => ∃ y : Option V, σ = [some (.ref a), some (.ref p), y] ∧ Same H H1 ∧ H1 p = some (.lst (wordsV (Pb.once ((ts.take i).filterMap Pb.nameOf)))))
      ⟨none, rfl, s0, by rw [upd_same]; rfl⟩ (fun i σ H1 _ ⟨y, _, s, _⟩ => SqL.of (s _ _ ha)) (fun i x σ H1 hx ⟨y, e, s, hh⟩ => ?_) (fun σ H1 ⟨y, e, s, hh⟩ => ?_)⟩
    · subst e
      obtain ⟨t, ht, ta, ax, rfl, hta, hax⟩ := paired_get hp hx
      have htaH := s _ _ hta
      have et : ∀ (u : Bytes), Pb.nameOf t = some u → Pb.once ((ts.take (i + 1)).filterMap Pb.nameOf) = if (Pb.once ((ts.take i).filterMap Pb.nameOf)).contains u then Pb.once ((ts.take i).filterMap Pb.nameOf) else Pb.once ((ts.take i).filterMap Pb.nameOf) ++ [u] := by
        intro u hu
        rw [take_more ht, List.filterMap_append, ← once_snoc]
        congr 1
        simp [hu]
      have et0 : Pb.nameOf t = none → Pb.once ((ts.take (i + 1)).filterMap Pb.nameOf) = Pb.once ((ts.take i).filterMap Pb.nameOf) := by
        intro hu
        rw [take_more ht, List.filterMap_append]
        simp [hu]
      have hlen : (Pb.once ((ts.take i).filterMap Pb.nameOf)).length ≤ 10000 := by
        have h1 := once_len ((ts.take i).filterMap Pb.nameOf)
        have h2 := List.length_filterMap_le Pb.nameOf (ts.take i)
        rw [List.length_take] at h2
        omega
      refine ⟨_, rfl, ta, _, 0, _, rfl, rfl, SqT.of htaH, atI_nat (j := 0) rfl, rfl, _, rfl, if_b (fun c => ?_) (fun c => ?_)⟩
      · obtain ⟨u, rfl⟩ := eq_dec c (kind_name t)
        obtain rfl : ax = .str (tx u) := hax
        refine ⟨_, rfl, ta, _, 1, _, rfl, rfl, SqT.of htaH, atI_nat (j := 1) rfl, _, rfl, p, _, rfl, .inl (SqL.of hh), rfl, flat_words _, _, rfl, if_b (fun c2 => ?_) (fun c2 => ?_)⟩
        · have c2 : (Pb.once ((ts.take i).filterMap Pb.nameOf)).contains u = false := by
            have : (!inV (.str (tx u)) (wordsV _)) = true := c2
            rw [inV_words] at this
            simpa only [Bool.not_eq_true'] using this
          refine ⟨_, rfl, .inl ⟨rfl, _, SqL.of hh⟩, _, rfl, ta, _, 1, _, rfl, rfl, SqT.of htaH, atI_nat (j := 1) rfl, p, _, _, rfl, rfl, hh, by rw [words_len, szL]; omega, ?_⟩
          refine ⟨_, rfl, fun b o e => by rw [upd_ne (ne_of_none e hp0)]; exact s _ _ e, ?_⟩
          rw [upd_same, et u rfl, if_neg (by rw [c2]; decide)]
          unfold wordsV
          rw [List.map_append]; rfl
        · have c2 : (Pb.once ((ts.take i).filterMap Pb.nameOf)).contains u = true := by
            have : (!inV (.str (tx u)) (wordsV _)) = false := c2
            rw [inV_words] at this
            simpa only [Bool.not_eq_false'] using this
          refine ⟨_, rfl, s, ?_⟩
          rw [hh, et u rfl, if_pos c2]
      · have hn : Pb.nameOf t = none := by
          have := ne_dec c (kind_name t)
          cases t with
          | name u => exact absurd ⟨u, rfl⟩ this
          | _ => rfl
        refine ⟨_, rfl, s, ?_⟩
        rw [hh, et0 hn]
    · subst e
      rw [hxl, List.take_length] at hh
      exact ⟨_, rfl, q _ _ s hp0 hh⟩
/-! ### operated -/
abbrev s_operated : Stmt := top 41
abbrev n_operated : List Str := ["operation", "number", "line"]
theorem sc_operated : FnScope n_operated ["operation", "number", "line"] (defScope s_operated) := ⟨rfl, rfl, rfl, by decide +kernel, rfl, by decide +kernel, by decide +kernel⟩

def isOpT : Tk → Bool
  | .over => true
  | .back => true
  | .num _ _ => true
  | _ => false
def sp_operated : Sp := fun vs H Q _ => ∃ (v x : V) (t : Tk) (l : Line) (G : Hp), vs = [.str (tx (kind t)), x, v] ∧ isOpT t = true ∧ ArgAt G x t ∧ tokOk t ∧ Same G H ∧ LineAt G v l ∧ l.length ≤ 200 ∧ ∀ r G' H', Grow G H G' H' → OptR LineAt G' r (Pb.opLine t l) → Q r H'
theorem ok_operated {f : Addr} {fd : FuncData} (F : Fun K "operated" "operated" s_operated f fd) (T : Txt K w mg aM aR aP aS aN aB) (f_moved : Callee P w K mg base "moved" 2 ["line", "steps"] sp_moved) (f_inverted : Callee P w K mg base "inverted" 2 ["line"] sp_inverted) (f_backward : Callee P w K mg base "backward" 1 ["line"] sp_backward) (f_stretched : Callee P w K mg base "stretched" 1 ["line", "factor"] sp_stretched)
    (f_shortened : Callee P w K mg base "shortened" 1 ["line", "factor"] sp_shortened) (f_repeated : Callee P w K mg base "repeated" 1 ["line", "times"] sp_repeated) : FnOk P w K mg base CX0 3 f fd ["operation", "number", "line"] sp_operated := by
  refine F.ok sc_operated (fun vs H Q E h => ?_) (fun cdv A outer s H vs Q E hr h => ?_)
  · obtain ⟨v, x, t, l, G, rfl, _⟩ := h; rfl
  · obtain ⟨v, x, t, l, G, rfl, hop, hx, hok, hG, hv, hl, q⟩ := h
    refine ⟨_, (pss_cons (ps_if (pt_cmpR op_eq (pv 0) pe_str (nomark _)) (pss_one (ps_ret (pe_do f_moved hr (by decide) (by rfl) (pa_cons (pv 2) (pa_cons (pv 1) pa_nil))))) pss_nil) (pss_cons (ps_if (pt_cmpR op_eq (pv 0) pe_str (nomark _)) (pss_one (ps_ret (pe_do f_moved hr (by decide) (by rfl) (pa_cons (pv 2) (pa_cons (pe_un un_neg (pv 1)) pa_nil))))) pss_nil) (pss_cons (ps_if (pt_cmpR op_eq (pv 0) pe_str (nomark _)) (pss_one (ps_ret (pe_do f_inverted hr (by decide) (by rfl) (pa_cons (pv 2) pa_nil)))) pss_nil) (pss_cons (ps_if (pt_cmpR op_eq (pv 0) pe_str (nomark _)) (pss_one (ps_ret (pe_do f_backward hr (by decide) (by rfl) (pa_cons (pv 2) pa_nil)))) pss_nil) (pss_cons (ps_if (pt_cmpR op_eq (pv 0) pe_str (nomark _)) (pss_one (ps_ret (pe_do f_stretched hr (by decide) (by rfl) (pa_cons (pv 2) (pa_cons (pv 1) pa_nil))))) pss_nil) (pss_cons (ps_if (pt_cmpR op_eq (pv 0) pe_str (nomark _)) (pss_one (ps_ret (pe_do f_shortened hr (by decide) (by rfl) (pa_cons (pv 2) (pa_cons (pv 1) pa_nil))))) pss_nil) (pss_one (ps_ret (pe_do f_repeated hr (by decide) (by rfl) (pa_cons (pv 2) (pa_cons (pv 1) pa_nil))))))))))), ?_⟩
    have hvH := hv.mono hG
    refine ⟨_, rfl, rfl, _, rfl, ?_⟩
    rw [eq_lit]
    cases t with
    | opn => cases hop
    | cls => cases hop
    | plus => cases hop
    | name u => cases hop
    | rest n => cases hop
    | over =>
      refine if_f (by decide) ⟨_, rfl, rfl, _, rfl, ?_⟩
      rw [eq_lit]
      refine if_f (by decide) ⟨_, rfl, rfl, _, rfl, ?_⟩
      rw [eq_lit]
      refine if_t (by decide) ⟨_, rfl, _, l, G, rfl, hG, hv, by omega, fun r G' H' g hr => q _ _ _ g hr⟩
    | back =>
      refine if_f (by decide) ⟨_, rfl, rfl, _, rfl, ?_⟩
      rw [eq_lit]
      refine if_f (by decide) ⟨_, rfl, rfl, _, rfl, ?_⟩
      rw [eq_lit]
      refine if_f (by decide) ⟨_, rfl, rfl, _, rfl, ?_⟩
      rw [eq_lit]
      refine if_t (by decide) ⟨_, rfl, _, l, G, rfl, hG, hv, fun r G' H' g hr => q _ _ _ g hr⟩
    | num o n =>
      obtain rfl : x = .int (n : Nat) := hx
      have hn : n ≤ 69 := by
        have h2 : n ≤ o.hi := hok.2
        cases o <;> simp only [NOp.hi] at h2 <;> omega
      cases o with
      | up => exact if_t (show decide (ascii "up" = ascii "up") = true by decide) ⟨_, rfl, _, rfl, _, n, l, G, rfl, hG, hv, by omega, fun r G' H' g hr => q _ _ _ g hr⟩
      | down =>
        refine if_f (show decide (ascii "down" = ascii "up") = false by decide) ⟨_, rfl, rfl, _, rfl, ?_⟩
        rw [eq_lit]
        exact if_t (show decide (ascii "down" = ascii "down") = true by decide) ⟨_, rfl, _, rfl, _, rfl, _, -(n : Int), l, G, rfl, hG, hv, by omega, fun r G' H' g hr => q _ _ _ g hr⟩
      | long =>
        refine if_f (show decide (ascii "long" = ascii "up") = false by decide) ⟨_, rfl, rfl, _, rfl, ?_⟩
        rw [eq_lit]
        refine if_f (show decide (ascii "long" = ascii "down") = false by decide) ⟨_, rfl, rfl, _, rfl, ?_⟩
        rw [eq_lit]
        refine if_f (show decide (ascii "long" = ascii "over") = false by decide) ⟨_, rfl, rfl, _, rfl, ?_⟩
        rw [eq_lit]
        refine if_f (show decide (ascii "long" = ascii "back") = false by decide) ⟨_, rfl, rfl, _, rfl, ?_⟩
        rw [eq_lit]
        exact if_t (show decide (ascii "long" = ascii "long") = true by decide) ⟨_, rfl, _, rfl, _, n, l, G, rfl, by omega, hG, hv, by omega, fun r G' H' g hr => q _ _ _ g hr⟩
      | short =>
        refine if_f (show decide (ascii "short" = ascii "up") = false by decide) ⟨_, rfl, rfl, _, rfl, ?_⟩
        rw [eq_lit]
        refine if_f (show decide (ascii "short" = ascii "down") = false by decide) ⟨_, rfl, rfl, _, rfl, ?_⟩
        rw [eq_lit]
        refine if_f (show decide (ascii "short" = ascii "over") = false by decide) ⟨_, rfl, rfl, _, rfl, ?_⟩
        rw [eq_lit]
        refine if_f (show decide (ascii "short" = ascii "back") = false by decide) ⟨_, rfl, rfl, _, rfl, ?_⟩
        rw [eq_lit]
        refine if_f (show decide (ascii "short" = ascii "long") = false by decide) ⟨_, rfl, rfl, _, rfl, ?_⟩
        rw [eq_lit]
        have hn2 : 2 ≤ n := hok.1
        refine if_t (show decide (ascii "short" = ascii "short") = true by decide) ⟨_, rfl, _, rfl, _, n, l, G, rfl, by omega, by omega, hG, hv, by omega, fun c H' s' => ?_, fun c r G' H' g hr => ?_⟩
        · refine q _ _ _ (Grow.of hG s') ?_
          simp only [Pb.opLine]
          rw [if_neg (by rw [c]; decide)]; rfl
        · refine q _ _ _ g ?_
          simp only [Pb.opLine]
          rw [if_pos c]; exact hr
      | times =>
        refine if_f (show decide (ascii "times" = ascii "up") = false by decide) ⟨_, rfl, rfl, _, rfl, ?_⟩
        rw [eq_lit]
        refine if_f (show decide (ascii "times" = ascii "down") = false by decide) ⟨_, rfl, rfl, _, rfl, ?_⟩
        rw [eq_lit]
        refine if_f (show decide (ascii "times" = ascii "over") = false by decide) ⟨_, rfl, rfl, _, rfl, ?_⟩
        rw [eq_lit]
        refine if_f (show decide (ascii "times" = ascii "back") = false by decide) ⟨_, rfl, rfl, _, rfl, ?_⟩
        rw [eq_lit]
        refine if_f (show decide (ascii "times" = ascii "long") = false by decide) ⟨_, rfl, rfl, _, rfl, ?_⟩
        rw [eq_lit]
        refine if_f (show decide (ascii "times" = ascii "short") = false by decide) ⟨_, rfl, _, rfl, _, n, l, G, rfl, by omega, hG, hv, by omega, fun r G' H' g hr => q _ _ _ g hr⟩
end
end Pbd
namespace Pbd
open PySem PySem.Spec PyProof.Rows L2 TL
open Cp12 (Bytes ascii names value)
open Pb (NOp nop? tok1? toks? tokOk rpn order okE evalS made opLine textS textT asItem opText)
/-! ### steps never ask for more than there is -/
def arity : Tk → Nat
  | .plus => 2
  | .name _ => 0
  | .rest _ => 0
  | _ => 1
def okN : List Tk → Nat → Prop
  | [], k => k = 1
  | t :: ts, k => arity t ≤ k ∧ okN ts (k + 1 - arity t)
theorem okN_rpn : ∀ (e : Cp12.Expr) (ts : List Tk) (k : Nat), okN (rpn e ++ ts) k ↔ okN ts (k + 1) := by
  intro e
  induction e with
  | name w => intro ts k; simp [rpn, okN, arity]
  | rest n => intro ts k; simp [rpn, okN, arity]
  | join a b iha ihb =>
    intro ts k
    simp only [rpn, List.append_assoc]
    rw [iha, ihb]
    simp [okN, arity]
  | up a n ih => intro ts k; simp only [rpn, List.append_assoc]; rw [ih]; simp [okN, arity]
  | down a n ih => intro ts k; simp only [rpn, List.append_assoc]; rw [ih]; simp [okN, arity]
  | over a ih => intro ts k; simp only [rpn, List.append_assoc]; rw [ih]; simp [okN, arity]
  | back a ih => intro ts k; simp only [rpn, List.append_assoc]; rw [ih]; simp [okN, arity]
  | long a n ih => intro ts k; simp only [rpn, List.append_assoc]; rw [ih]; simp [okN, arity]
  | short a n ih => intro ts k; simp only [rpn, List.append_assoc]; rw [ih]; simp [okN, arity]
  | times a n ih => intro ts k; simp only [rpn, List.append_assoc]; rw [ih]; simp [okN, arity]
theorem okN_of (e : Cp12.Expr) : okN (rpn e) 0 := by
  have := (okN_rpn e [] 0).mpr rfl
  rwa [List.append_nil] at this
theorem rpn_no (e : Cp12.Expr) : ∀ t ∈ rpn e, t ≠ .opn ∧ t ≠ .cls := by
  induction e with
  | name w => intro t h; simp [rpn] at h; subst h; simp
  | rest n => intro t h; simp [rpn] at h; subst h; simp
  | join a b iha ihb =>
    intro t h
    simp only [rpn, List.append_assoc, List.mem_append, List.mem_singleton] at h
    rcases h with h | h | rfl
    · exact iha t h
    · exact ihb t h
    · simp
  | up a n ih | down a n ih | over a ih | back a ih | long a n ih | short a n ih | times a n ih =>
    intro t h
    simp only [rpn, List.mem_append, List.mem_singleton] at h
    rcases h with h | rfl
    · exact ih t h
    · simp
theorem op_of {t : Tk} (h1 : t ≠ .opn ∧ t ≠ .cls) (h2 : ¬ ∃ u, t = .name u) (h3 : ¬ ∃ n, t = .rest n) (h4 : ¬ t = .plus) : isOpT t = true ∧ arity t = 1 := by
  cases t with
  | opn => exact absurd rfl h1.1
  | cls => exact absurd rfl h1.2
  | name u => exact absurd ⟨u, rfl⟩ h2
  | rest n => exact absurd ⟨n, rfl⟩ h3
  | plus => exact absurd rfl h4
  | _ => exact ⟨rfl, rfl⟩
theorem paired_unsnoc {α β : Type} {R : α → β → Prop} : ∀ {m : List β} {l : List α} {y : β}, Paired R l (m ++ [y]) → ∃ l' x, l = l' ++ [x] ∧ Paired R l' m ∧ R x y
  | [], _, y, h => by
    cases h with
    | cons r t =>
      cases t
      exact ⟨[], _, rfl, .nil, r⟩
  | b :: m, _, y, h => by
    cases h with
    | cons r t =>
      obtain ⟨l', x, rfl, h1, h2⟩ := paired_unsnoc (m := m) (y := y) t
      exact ⟨_ :: l', x, rfl, .cons r h1, h2⟩
theorem opLine_len {t : Tk} {l m : Line} (hok : tokOk t) (h : opLine t l = some m) (hl : l.length ≤ 200) : m.length ≤ 10000 := by
  cases t with
  | over =>
    simp only [opLine, Option.some.injEq] at h
    subst h
    unfold Cp12.overLine
    split
    · omega
    · rw [List.length_map]; omega
  | back => simp only [opLine, Option.some.injEq] at h; subst h; rw [List.length_reverse]; omega
  | num o n =>
    have h2 : n ≤ o.hi := hok.2
    cases o with
    | up => simp only [opLine, Option.some.injEq] at h; subst h; rw [Cp12.move, List.length_map]; omega
    | down => simp only [opLine, Option.some.injEq] at h; subst h; rw [Cp12.move, List.length_map]; omega
    | long => simp only [opLine, Option.some.injEq] at h; subst h; rw [List.length_map]; omega
    | short =>
      simp only [opLine] at h
      split at h
      · cases h; rw [List.length_map]; omega
      · cases h
    | times =>
      simp only [opLine, Option.some.injEq] at h
      subst h
      have h2 : n ≤ 16 := h2
      have : (List.replicate n l).flatten.length = n * l.length := by simp
      rw [this]
      have := Nat.mul_le_mul h2 hl
      omega
  | _ => simp [opLine] at h
theorem fine_len {l : Line} (h : Cp12.fine l = true) : l.length ≤ 200 := (Pb.fine_iff.mp h).1
theorem made_op {t : Tk} (f : Bytes → Line) (h : isOpT t = true) (x : Line) (st : List Line) : made f t (x :: st) = (opLine t x).map fun y => (y, st) := by
  cases t <;> first | rfl | cases h
section
variable {P : Program} {w : World} {K : PySem.W.Frag} {mg : Str → Option Value} {base : Heap} {aM aR aP aS aN aB : Addr}
/-! ### expression_value -/
abbrev s_expression_value : Stmt := top 40
abbrev n_expression_value : List Str := ["steps", "lines", "stack", "step", "line", "right"]
theorem sc_expression_value : FnScope n_expression_value ["steps", "lines"] (defScope s_expression_value) := ⟨rfl, rfl, rfl, by decide +kernel, rfl, by decide +kernel, by decide +kernel⟩

def tailV (K : PySem.W.Frag) : TS := tSeq (tIfS (tOr (tTest (tOp (fun x y H Q => y = .non ∧ Q (.bl (decide (x = .non))) H) (tVar 4) (tC .non))) (tNot (tB (tDo sp_is_valid (tCons (tVar 4) tNil))))) (tRet (tC .non)) tNext) (tDrop (tBM K "list" rAppend (tVar 2) (tCons (tVar 4) tNil)))
def sp_expression_value : Sp := fun vs H Q _ => ∃ (v : V) (d : Addr) (e : Cp12.Expr) (g : Bytes → Option Line) (f : Bytes → Line) (kvs : List (Key × V)) (G : Hp), vs = [v, .ref d] ∧ Same G H ∧ ToksAt G v (rpn e) ∧ okE e ∧ (rpn e).length ≤ 10000 ∧ H d = some (.dK kvs) ∧ Pb.Tells g f (names e) ∧
  (∀ u ∈ names e, ∃ x, valV kvs (.inr (tx u)) = some x ∧ LineAt G x (f u)) ∧ ∀ r G' H', Grow G H G' H' → OptR LineAt G' r (value g e) → Q r H'
theorem ok_expression_value {f : Addr} {fd : FuncData} (F : Fun K "expression_value" "expression_value" s_expression_value f fd) (T : Txt K w mg aM aR aP aS aN aB) (f_operated : Callee P w K mg base "operated" 3 ["operation", "number", "line"] sp_operated) (f_is_valid : Callee P w K mg base "is_valid" 3 ["line"] sp_is_valid) : FnOk P w K mg base CX0 4 f fd ["steps", "lines"] sp_expression_value := by
  refine F.ok sc_expression_value (fun vs H Q E h => ?_) (fun cdv A outer s H vs Q E hr h => ?_)
  · obtain ⟨v, d, e, g, f, kvs, G, rfl, _⟩ := h; rfl
  · have hu := hu_of hr
    obtain ⟨v, d, e, g, f, kvs, G, rfl, hG, ⟨a, xs, rfl, ha, hp⟩, hok, hl, hd, htell, hlines, q⟩ := h
    refine ⟨_, (pss_cons (ps_set (i := 2) sc_expression_value.nd rfl (Or.inl rfl) (pe_lst pa_nil)) (pss_cons (ps_for PassesOwn.never rfl (pi_list (pv 0)) (pg_name (i := 3) sc_expression_value.nd rfl (Or.inl rfl)) (pss_cons (ps_if (pt_cmpR op_eq (pe_ix ix_tup (pv 3) pe_int (fun _ _ => rfl)) pe_str (nomark _)) (pss_one (ps_set (i := 4) sc_expression_value.nd rfl (Or.inl rfl) (pe_dget hu (pv 1) (pe_ix ix_tup (pv 3) pe_int (fun _ _ => rfl)) (fun _ _ => rfl)))) (pss_one (ps_if (pt_cmpR op_eq (pe_ix ix_tup (pv 3) pe_int (fun _ _ => rfl)) pe_str (nomark _)) (pss_one (ps_set (i := 4) sc_expression_value.nd rfl (Or.inl rfl) (pe_lst (pa_cons (pe_ix ix_tup (pv 3) pe_int (fun _ _ => rfl)) pa_nil)))) (pss_one (ps_if (pt_cmpR op_eq (pe_ix ix_tup (pv 3) pe_int (fun _ _ => rfl)) pe_str (nomark _)) (pss_cons (ps_set (i := 5) sc_expression_value.nd rfl (Or.inl rfl) (pe_bm0 PySem.F.plainAttrs_list PySem.F.slot_list_pop PySem.F.type_list_pop mt_pop (pv 2))) (pss_one (ps_set (i := 4) sc_expression_value.nd rfl (Or.inl rfl) (pe_op op_cat (pe_bm0 PySem.F.plainAttrs_list PySem.F.slot_list_pop PySem.F.type_list_pop mt_pop (pv 2)) (pv 5))))) (pss_one (ps_set (i := 4) sc_expression_value.nd rfl (Or.inl rfl) (pe_do f_operated hr (by decide) (by rfl) (pa_cons (pe_ix ix_tup (pv 3) pe_int (fun _ _ => rfl)) (pa_cons (pe_ix ix_tup (pv 3) pe_int (fun _ _ => rfl)) (pa_cons (pe_bm0 PySem.F.plainAttrs_list PySem.F.slot_list_pop PySem.F.type_list_pop mt_pop (pv 2)) pa_nil))))))))))) (pss_cons (ps_if (PW.pt (pw_or (pt_cmpR op_isN (pv 4) pe_non (nomark _)) (pw_or1 (pt_not (pt_val (pe_do f_is_valid hr (by decide) (by rfl) (pa_cons (pv 4) pa_nil))))))) (pss_one (ps_ret pe_non)) pss_nil) (pss_one (ps_expr (pe_bm PySem.F.plainAttrs_list PySem.F.slot_list_append PySem.F.type_list_append mt_append (pv 2) (pa_cons (pv 4) pa_nil))))))) (pss_one (ps_ret (pe_ix ix_list (pv 2) pe_int (fun _ _ => rfl)))))), ?_⟩
    have hxl := paired_len hp
    have hev := Pb.evalS_rpn (g := g) (f := f) e [] hok htell
    have hno := rpn_no e
    have hokN := okN_of e
    have hnm : ∀ u, (Pb.Tok.name u) ∈ rpn e → u ∈ names e := fun u hu => by
      rw [Pb.names_rpn]
      exact List.mem_filterMap.mpr ⟨_, hu, rfl⟩
    have hokE : ∀ t ∈ rpn e, tokOk t := hok
    generalize hts : rpn e = ts at *
    refine ⟨Nat.zero_le _, fun p hp0 => ?_⟩
    have g0 : Grow G H G (upd H p (.lst [])) := (Grow.refl hG).set hp0 (hG.free hp0)
    refine ⟨_, rfl, a, rfl, ⟨_, SqL.of (g0.i _ _ ha)⟩, for_list (K := K) (a := a) (xs := xs) (fun i σ H1 => ∃ (y3 y4 y5 : Option V) (G1 : Hp) (us : List V) (st : List Line), σ = [some (.ref a), some (.ref d), some (.ref p), y3, y4, y5] ∧ Grow G H G1 H1 ∧ G1 p = none ∧ H1 p = some (.lst us) ∧ Paired (LineAt G1) us st.reverse ∧
        (∀ l ∈ st, Cp12.fine l = true) ∧ st.length ≤ i ∧ okN (ts.drop i) st.length ∧ evalS f ts [] = evalS f (ts.drop i) st)
      ⟨none, none, none, G, [], [], rfl, g0, hG.free hp0, upd_same, .nil, by simp, Nat.le_refl _, hokN, rfl⟩ (fun i σ H1 _ ⟨_, _, _, G1, _, _, _, gg, _⟩ => SqL.of (gg.i _ _ (gg.g _ _ ha))) (fun i x σ H1 hx ⟨y3, y4, y5, G1, us, st, es, gg, gp, hus, hup, hfine, hsl, hN, eev⟩ => ?_) (fun σ H1 ⟨y3, y4, y5, G1, us, st, es, gg, gp, hus, hup, hfine, hsl, hN, eev⟩ => ?_)⟩
    · subst es
      have hi : i < ts.length := by rw [← hxl]; exact (List.getElem?_eq_some_iff.mp hx).1
      obtain ⟨t, ht, ta, ax, rfl, hta, hax⟩ := paired_get hp hx
      have htm : t ∈ ts := List.mem_of_getElem? ht
      have hta1 := gg.g _ _ hta
      have htaH := gg.i _ _ hta1
      have hdrop : ts.drop i = t :: ts.drop (i + 1) := by
        obtain ⟨h1, h2⟩ := List.getElem?_eq_some_iff.mp ht
        rw [List.drop_eq_getElem_cons h1, h2]
      rw [hdrop] at eev hN
      have eev : evalS f ts [] = match made f t st with
        | none => none
        | some (y, st') => if Cp12.fine y then evalS f (ts.drop (i + 1)) (y :: st') else none := eev
      have hN : arity t ≤ st.length ∧ okN (ts.drop (i + 1)) (st.length + 1 - arity t) := hN
      have tail : ∀ (G2 H2 : Hp) (r : V) (us2 : List V) (st2 : List Line) (o : Option Line) (y5 : Option V), Grow G H G2 H2 → G2 p = none → H2 p = some (.lst us2) → Paired (LineAt G2) us2 st2.reverse → OptR LineAt G2 r o → (∀ l, o = some l → l.length ≤ 10000) → (∀ l ∈ st2, Cp12.fine l = true) → st2.length + 1 ≤ i + 1 →
          okN (ts.drop (i + 1)) (st2.length + 1) → (evalS f ts [] = match o with
            | none => none
            | some y => if Cp12.fine y then evalS f (ts.drop (i + 1)) (y :: st2) else none) →
          tailV K { nx := fun σ H1 => ∃ (y3 y4 y5 : Option V) (G1 : Hp) (us : List V) (st : List Line), σ = [some (.ref a), some (.ref d), some (.ref p), y3, y4, y5] ∧ Grow G H G1 H1 ∧ G1 p = none ∧ H1 p = some (.lst us) ∧ Paired (LineAt G1) us st.reverse ∧
              (∀ l ∈ st, Cp12.fine l = true) ∧ st.length ≤ i + 1 ∧ okN (ts.drop (i + 1)) st.length ∧ evalS f ts [] = evalS f (ts.drop (i + 1)) st, rt := Q }
            [some (.ref a), some (.ref d), some (.ref p), some (.ref ta), some r, y5] H2 := by
        intro G2 H2 r us2 st2 o y5 g2 gp2 hus2 hup2 hr2 hol hfine2 hsl2 hN2 ev2
        cases o with
        | none =>
          obtain rfl : r = .non := hr2
          refine ⟨_, rfl, rfl, _, rfl, ?_⟩
          rw [ev2] at hev
          have : value g e = none := by
            cases hv : value g e with
            | none => rfl
            | some x => rw [hv] at hev; cases hev
          exact q _ _ _ g2 (by rw [this]; rfl)
        | some l =>
          have hr2 : LineAt G2 r l := hr2
          have hr2' := hr2
          obtain ⟨la, ls, rfl, hla, hls⟩ := hr2'
          refine ⟨_, rfl, rfl, _, rfl, _, rfl, _, l, rfl, hr2.mono g2.i, hol l rfl, fun H3 s3 => ⟨_, rfl, ?_⟩⟩
          simp only at ev2
          refine if_b (fun c => ?_) (fun c => ?_)
          · have c : Cp12.fine l = false := by simpa using c
            rw [if_neg (by rw [c]; decide)] at ev2
            rw [ev2] at hev
            have : value g e = none := by
              cases hv : value g e with
              | none => rfl
              | some x => rw [hv] at hev; cases hev
            exact q _ _ _ (g2.more s3) (by rw [this]; rfl)
          · have c : Cp12.fine l = true := by simpa using c
            rw [if_pos c] at ev2
            have hlen := paired_len hup2
            rw [List.length_reverse] at hlen
            refine ⟨_, rfl, .inl ⟨rfl, _, SqL.of (s3 _ _ hus2)⟩, _, rfl, p, us2, _, rfl, rfl, s3 _ _ hus2, by rw [szL]; omega, ?_⟩
            refine ⟨_, _, _, G2, us2 ++ [.ref la], l :: st2, rfl, (g2.more s3).set hp0 gp2, gp2, upd_same, by rw [List.reverse_cons]; exact paired_snoc hup2 hr2, fun m hm => ?_, by simp only [List.length_cons]; omega, hN2, ev2⟩
            rcases List.mem_cons.mp hm with rfl | hm
            · exact c
            · exact hfine2 m hm
      refine ⟨_, rfl, ta, _, 0, _, rfl, rfl, SqT.of htaH, atI_nat (j := 0) rfl, rfl, _, rfl, if_b (fun c1 => ?_) (fun c1 => ?_)⟩
      · obtain ⟨u, rfl⟩ := eq_dec c1 (kind_name t)
        obtain rfl : ax = .str (tx u) := hax
        obtain ⟨lv, hlv, hll⟩ := hlines u (hnm u htm)
        refine ⟨_, rfl, _, rfl, ta, _, 1, _, rfl, rfl, SqT.of htaH, atI_nat (j := 1) rfl, d, lv, rfl, by rw [← hlv]; exact DGet.k (k := .inr (tx u)) (gg.h _ _ hd), ?_⟩
        have htl := htell u (hnm u htm)
        refine tail G1 H1 lv us st (some (f u)) y5 gg gp hus hup (hll.mono gg.g) (fun l e => ?_) hfine (by omega) hN.2 eev
        cases e
        have := fine_len htl.2
        omega
      · have n1 := ne_dec c1 (kind_name t)
        refine ⟨_, rfl, ta, _, 0, _, rfl, rfl, SqT.of htaH, atI_nat (j := 0) rfl, rfl, _, rfl, if_b (fun c2 => ?_) (fun c2 => ?_)⟩
        · obtain ⟨n, rfl⟩ := eq_dec c2 (kind_rest t)
          have hax : EvAt G ax ⟨none, n⟩ := hax
          refine ⟨_, rfl, ta, _, 1, _, rfl, rfl, SqT.of htaH, atI_nat (j := 1) rfl, (by show 1 ≤ sizeLine; decide), fun la hla => ?_⟩
          have hpla : p ≠ la := ne_of_none hus hla
          have gN := Grow.new (o := .lst [ax]) gg.i hla
          refine tail (upd G1 la (.lst [ax])) _ (.ref la) us st (some [⟨none, n⟩]) y5 (gg.trans gN) (by rw [upd_ne hpla]; exact gp) (by rw [upd_ne hpla]; exact hus) (paired_mono hup fun _ _ r => LineAt.mono gN.g r) ⟨la, _, rfl, upd_same, .cons ((hax.mono gg.g).mono gN.g) .nil⟩ (fun l e => by cases e; simp) hfine (by omega) hN.2 eev
        · have n2 := ne_dec c2 (kind_rest t)
          refine ⟨_, rfl, ta, _, 0, _, rfl, rfl, SqT.of htaH, atI_nat (j := 0) rfl, rfl, _, rfl, if_b (fun c3 => ?_) (fun c3 => ?_)⟩
          · have c3 : t = .plus := eq_dec c3 (kind_plus t)
            subst c3
            obtain ⟨rl, ll, st', rfl⟩ : ∃ rl ll st', st = rl :: ll :: st' := by
              match st, hN.1 with
              | rl :: ll :: st', _ => exact ⟨rl, ll, st', rfl⟩
            rw [List.reverse_cons, List.reverse_cons] at hup
            obtain ⟨us1, ur, rfl, hup1, hur⟩ := paired_unsnoc hup
            obtain ⟨us2, ul, rfl, hup2, hul⟩ := paired_unsnoc hup1
            refine ⟨_, rfl, .inl ⟨rfl, _, SqL.of hus⟩, p, _, ur, rfl, rfl, hus, by simp, ?_⟩
            rw [List.dropLast_concat]
            have hP2 : (upd H1 p (.lst (us2 ++ [ul]))) p = some (.lst (us2 ++ [ul])) := upd_same
            refine ⟨_, rfl, .inl ⟨rfl, _, SqL.of hP2⟩, p, _, ul, rfl, rfl, hP2, by simp, ?_⟩
            rw [List.dropLast_concat, upd_upd]
            obtain ⟨ra, rs, rfl, hra, hrs⟩ := hur
            obtain ⟨la, ls, rfl, hla, hls⟩ := hul
            have g2 : Grow G H G1 (upd H1 p (.lst us2)) := gg.set hp0 gp
            have hrl := paired_len hrs
            have hll := paired_len hls
            have f1 := fine_len (hfine rl (by simp))
            have f2 := fine_len (hfine ll (by simp))
            refine ⟨_, rfl, la, ra, ls, rs, rfl, rfl, g2.i _ _ hla, g2.i _ _ hra, by rw [szL]; omega, fun na hna => ?_⟩
            have hpna : p ≠ na := fun z => by rw [z, upd_same] at hna; cases hna
            have gN := Grow.new (o := .lst (ls ++ rs)) g2.i hna
            refine tail (upd G1 na (.lst (ls ++ rs))) _ (.ref na) us2 st' (some (ll ++ rl)) (some (.ref ra)) (g2.trans gN) (by rw [upd_ne hpna]; exact gp) (by rw [upd_ne hpna]; exact upd_same) (paired_mono hup2 fun _ _ r => LineAt.mono gN.g r)
              ⟨na, _, rfl, upd_same, paired_mono (paired_append hls hrs) fun _ _ r => EvAt.mono gN.g r⟩ (fun l e => by cases e; rw [List.length_append]; omega) (fun m hm => hfine m (by simp [hm])) (by simp only [List.length_cons] at hsl; omega) ?_ eev
            have := hN.2
            simp only [List.length_cons, arity] at this
            have e3 : st'.length + 1 + 1 + 1 - 2 = st'.length + 1 := by omega
            rwa [e3] at this
          · have n3 := ne_dec c3 (kind_plus t)
            obtain ⟨hop, har⟩ := op_of (hno t htm) n1 n2 n3
            obtain ⟨xl, st', rfl⟩ : ∃ xl st', st = xl :: st' := by
              match st, (show 1 ≤ st.length by rw [← har]; exact hN.1) with
              | xl :: st', _ => exact ⟨xl, st', rfl⟩
            rw [List.reverse_cons] at hup
            obtain ⟨us1, ux, rfl, hup1, hux⟩ := paired_unsnoc hup
            refine ⟨_, rfl, ta, _, 0, _, rfl, rfl, SqT.of htaH, atI_nat (j := 0) rfl, _, rfl, ta, _, 1, _, rfl, rfl, SqT.of htaH, atI_nat (j := 1) rfl, _, rfl, .inl ⟨rfl, _, SqL.of hus⟩, p, _, ux, rfl, rfl, hus, by simp, ?_⟩
            rw [List.dropLast_concat]
            have g2 : Grow G H G1 (upd H1 p (.lst us1)) := gg.set hp0 gp
            refine ⟨ux, ax, t, xl, G1, rfl, hop, hax.mono gg.g, hokE t htm, g2.i, hux, fine_len (hfine xl (by simp)), fun r G3 H3 g3 hr3 => ?_⟩
            rw [made_op f hop] at eev
            refine tail G3 H3 r us1 st' (opLine t xl) y5 (g2.trans g3) (g3.out upd_same gp) (g3.h _ _ upd_same) (paired_mono hup1 fun _ _ r => LineAt.mono g3.g r) hr3 (fun l e => opLine_len (hokE t htm) e (fine_len (hfine xl (by simp)))) (fun m hm => hfine m (by simp [hm])) (by simp only [List.length_cons] at hsl; omega) ?_ ?_
            · have := hN.2
              rw [har] at this
              simpa using this
            · rw [eev]
              cases opLine t xl <;> rfl
    · subst es
      rw [hxl, List.drop_length] at eev
      have eev : evalS f ts [] = some st := eev
      rw [eev] at hev
      cases hv : value g e with
      | none => rw [hv] at hev; cases hev
      | some x =>
        rw [hv] at hev q
        obtain rfl : st = [x] := by simpa using hev
        cases hup with
        | cons hr ht =>
          cases ht
          exact ⟨_, rfl, p, _, 0, _, rfl, rfl, SqL.of hus, atI_nat (j := 0) rfl, q _ _ _ gg hr⟩
end
end Pbd
namespace Pbd
open PySem PySem.Spec PyProof.Rows L2 TL
open Cp12 (Bytes ascii names value)
open Pb (NOp nop? tok1? toks? tokOk rpn order okE textS textT asItem opText isJoin)
theorem empty_tx (u : Bytes) : Str.empty ++ tx u = tx u := ext_tl (by rw [tl_append]; rfl)
theorem empty_lit (s : String) : Str.empty ++ Str.ofString s = tx (ascii s) := by rw [lit]; exact empty_tx _
def TextAt (G : Hp) (v : V) (e : Bytes × Bool) : Prop := ∃ a, v = .ref a ∧ G a = some (.tup [.str (tx e.1), .bl e.2])
theorem TextAt.mono {G G' : Hp} {v : V} {e : Bytes × Bool} (s : Same G G') (h : TextAt G v e) : TextAt G' v e := by
  obtain ⟨a, h1, h2⟩ := h
  exact ⟨a, h1, s _ _ h2⟩
theorem asItem_len (e : Bytes × Bool) : (asItem e).length ≤ e.1.length + 4 := by
  unfold Pb.asItem
  split
  · rw [List.length_append, List.length_append]
    have h1 : (ascii "( ").length = 2 := by decide
    have h2 : (ascii " )").length = 2 := by decide
    omega
  · omega
theorem word_len (o : NOp) : o.word.length ≤ 5 := by cases o <;> decide
theorem opText_len {t : Tk} (h : tokOk t) : (opText t).length ≤ 20 := by
  cases t with
  | num o n =>
    have h2 : n ≤ o.hi := h.2
    have h3 : o.hi ≤ 69 := by cases o <;> decide
    have h4 := word_len o
    have h5 := dec_len (n := n) (by omega)
    simp only [Pb.opText, List.length_append, List.length_cons]
    omega
  | over => exact (by decide : (ascii "over").length ≤ 20)
  | back => exact (by decide : (ascii "back").length ≤ 20)
  | _ => simp [Pb.opText]
section
variable {P : Program} {w : World} {K : PySem.W.Frag} {mg : Str → Option Value} {base : Heap} {aM aR aP aS aN aB : Addr}
/-! ### as_item, operation_text -/
abbrev s_as_item : Stmt := top 43
abbrev n_as_item : List Str := ["entry", "text"]
theorem sc_as_item : FnScope n_as_item ["entry"] (defScope s_as_item) := ⟨rfl, rfl, rfl, by decide +kernel, rfl, by decide +kernel, by decide +kernel⟩

def sp_as_item : Sp := fun vs H Q _ => ∃ (v : V) (e : Bytes × Bool), vs = [v] ∧ TextAt H v e ∧ e.1.length ≤ 1000000 ∧ Q (.str (tx (asItem e))) H
theorem ok_as_item {f : Addr} {fd : FuncData} (F : Fun K "as_item" "as_item" s_as_item f fd) (T : Txt K w mg aM aR aP aS aN aB) : FnOk P w K mg base CX0 1 f fd ["entry"] sp_as_item := by
  refine F.ok sc_as_item (fun vs H Q E h => ?_) (fun cdv A outer s H vs Q E hr h => ?_)
  · obtain ⟨v, e, rfl, _⟩ := h; rfl
  · obtain ⟨v, ⟨b, j⟩, rfl, ⟨a, rfl, ha⟩, hl, q⟩ := h
    have hl : b.length ≤ 1000000 := hl
    refine ⟨_, (pss_cons (ps_set (i := 1) sc_as_item.nd rfl (Or.inl rfl) (pe_ix ix_tup (pv 0) pe_int (fun _ _ => rfl))) (pss_one (ps_ret (pe_ifExp (pt_val (pe_ix ix_tup (pv 0) pe_int (fun _ _ => rfl))) (pe_joined (.cons pe_str (.cons (pe_fmt (pv 1)) (.cons pe_str .nil)))) (pv 1))))), ?_⟩
    refine ⟨_, rfl, a, _, 0, _, rfl, rfl, SqT.of ha, atI_nat (j := 0) rfl, ?_⟩
    refine ⟨_, rfl, a, _, 1, _, rfl, rfl, SqT.of ha, atI_nat (j := 1) rfl, _, rfl, ?_⟩
    cases j with
    | false => exact ⟨_, rfl, q⟩
    | true =>
      refine ⟨_, rfl, by decide +kernel, ?_⟩
      rw [empty_lit]
      refine ⟨_, rfl, .inl ⟨tx b, rfl, by rw [tx_len, szL]; omega, tx b, rfl, joined_len (by rw [szL]; have : (ascii "( ").length = 2 := by decide
                                                                                             omega), ?_⟩⟩
      rw [tx_append]
      refine ⟨_, rfl, by rw [lit]; exact joined_len (by
        rw [szL, List.length_append]
        have : (ascii "( ").length = 2 := by decide
        have : (ascii " )").length = 2 := by decide
        omega), ?_⟩
      rw [lit, tx_append]
      exact q
abbrev s_operation_text : Stmt := top 44
abbrev n_operation_text : List Str := ["step", "operation", "number"]
theorem sc_operation_text : FnScope n_operation_text ["step"] (defScope s_operation_text) := ⟨rfl, rfl, rfl, by decide +kernel, rfl, by decide +kernel, by decide +kernel⟩

def sp_operation_text : Sp := fun vs H Q _ => ∃ (v : V) (t : Tk), vs = [v] ∧ TokAt H v t ∧ isOpT t = true ∧ tokOk t ∧ Q (.str (tx (opText t))) H
theorem ok_operation_text {f : Addr} {fd : FuncData} (F : Fun K "operation_text" "operation_text" s_operation_text f fd) (T : Txt K w mg aM aR aP aS aN aB) : FnOk P w K mg base CX0 1 f fd ["step"] sp_operation_text := by
  refine F.ok sc_operation_text (fun vs H Q E h => ?_) (fun cdv A outer s H vs Q E hr h => ?_)
  · obtain ⟨v, t, rfl, _⟩ := h; rfl
  · obtain ⟨v, t, rfl, ⟨a, x, rfl, ha, hx⟩, hop, hok, q⟩ := h
    refine ⟨_, (pss_cons (ps_set (i := 1) sc_operation_text.nd rfl (Or.inl rfl) (pe_ix ix_tup (pv 0) pe_int (fun _ _ => rfl))) (pss_cons (ps_set (i := 2) sc_operation_text.nd rfl (Or.inl rfl) (pe_ix ix_tup (pv 0) pe_int (fun _ _ => rfl))) (pss_one (ps_ret (pe_ifExp (pt_cmpR op_isN (pv 2) pe_non (nomark _)) (pv 1) (pe_joined (.cons (pe_fmt (pv 1)) (.cons pe_str (.cons (pe_fmt (pv 2)) .nil))))))))), ?_⟩
    refine ⟨_, rfl, a, _, 0, _, rfl, rfl, SqT.of ha, atI_nat (j := 0) rfl, ?_⟩
    refine ⟨_, rfl, a, _, 1, _, rfl, rfl, SqT.of ha, atI_nat (j := 1) rfl, ?_⟩
    cases t with
    | opn => cases hop
    | cls => cases hop
    | plus => cases hop
    | name u => cases hop
    | rest n => cases hop
    | over =>
      obtain rfl : x = .non := hx
      exact ⟨_, rfl, rfl, _, rfl, _, rfl, q⟩
    | back =>
      obtain rfl : x = .non := hx
      exact ⟨_, rfl, rfl, _, rfl, _, rfl, q⟩
    | num o n =>
      obtain rfl : x = .int (n : Nat) := hx
      have h2 : n ≤ o.hi := hok.2
      have h3 : o.hi ≤ 69 := by cases o <;> decide
      have h4 := word_len o
      have h5 := dec_len (n := n) (by omega)
      have hk : tx (kind (.num o n)) = tx o.word := rfl
      refine ⟨_, rfl, rfl, _, rfl, _, rfl, .inl ⟨tx o.word, rfl, by rw [tx_len, szL]; omega, tx o.word, rfl, by rw [empty_tx, tx_len, szL]; omega, ?_⟩⟩
      rw [empty_tx]
      refine ⟨_, rfl, by rw [lit]; exact joined_len (by rw [szL]; have : (ascii " ").length = 1 := by decide
                                                        omega), ?_⟩
      rw [lit, tx_append]
      refine ⟨_, rfl, .inr ⟨(n : Int), rfl, log_small (by omega) (by omega), _, rfl, by
        rw [tx_numI (by omega)]
        exact joined_len (by
          rw [szL, List.length_append, Int.toNat_natCast]
          have : (ascii " ").length = 1 := by decide
          omega), ?_⟩⟩
      rw [tx_numI (show (0 : Int) ≤ (n : Int) by omega), tx_append, Int.toNat_natCast]
      have e : o.word ++ ascii " " ++ Cp12.decimal n = opText (.num o n) := by
        simp only [Pb.opText, List.append_assoc]; rfl
      rw [e]
      exact q
/-! ### expression_text -/
abbrev s_expression_text : Stmt := top 42
abbrev n_expression_text : List Str := ["steps", "stack", "step", "right", "left", "item", "operation"]
theorem sc_expression_text : FnScope n_expression_text ["steps"] (defScope s_expression_text) := ⟨rfl, rfl, rfl, by decide +kernel, rfl, by decide +kernel, by decide +kernel⟩

def sp_expression_text : Sp := fun vs H Q _ => ∃ (v : V) (e : Cp12.Expr), vs = [v] ∧ ToksAt H v (rpn e) ∧ okE e ∧ (rpn e).length ≤ 10000 ∧ ∀ H', Same H H' → Q (.str (tx (Cp12.text e false))) H'
def szT (st : List (Bytes × Bool)) : Nat := (st.map fun e => e.1.length).sum
theorem ok_expression_text {f : Addr} {fd : FuncData} (F : Fun K "expression_text" "expression_text" s_expression_text f fd) (T : Txt K w mg aM aR aP aS aN aB) (f_event_text : Callee P w K mg base "event_text" 2 ["event"] sp_event_text) (f_as_item : Callee P w K mg base "as_item" 1 ["entry"] sp_as_item) (f_operation_text : Callee P w K mg base "operation_text" 1 ["step"] sp_operation_text) :
    FnOk P w K mg base CX0 3 f fd ["steps"] sp_expression_text := by
  refine F.ok sc_expression_text (fun vs H Q E h => ?_) (fun cdv A outer s H vs Q E hr h => ?_)
  · obtain ⟨v, e, rfl, _⟩ := h; rfl
  · obtain ⟨v, e, rfl, ⟨a, xs, rfl, ha, hp⟩, hok, hl, q⟩ := h
    refine ⟨_, (pss_cons (ps_set (i := 1) sc_expression_text.nd rfl (Or.inl rfl) (pe_lst pa_nil)) (pss_cons (ps_for PassesOwn.never rfl (pi_list (pv 0)) (pg_name (i := 2) sc_expression_text.nd rfl (Or.inl rfl)) (pss_one (ps_if (pt_cmpR op_eq (pe_ix ix_tup (pv 2) pe_int (fun _ _ => rfl)) pe_str (nomark _)) (pss_one (ps_expr (pe_bm PySem.F.plainAttrs_list PySem.F.slot_list_append PySem.F.type_list_append mt_append (pv 1) (pa_cons (pe_tup (pa_cons (pe_ix ix_tup (pv 2) pe_int (fun _ _ => rfl)) (pa_cons pe_bl pa_nil))) pa_nil)))) (pss_one (ps_if (pt_cmpR op_eq (pe_ix ix_tup (pv 2) pe_int (fun _ _ => rfl)) pe_str (nomark _)) (pss_one (ps_expr (pe_bm PySem.F.plainAttrs_list PySem.F.slot_list_append PySem.F.type_list_append mt_append (pv 1) (pa_cons (pe_tup (pa_cons (pe_do f_event_text hr (by decide) (by rfl) (pa_cons (pe_ix ix_tup (pv 2) pe_int (fun _ _ => rfl)) pa_nil)) (pa_cons pe_bl pa_nil))) pa_nil)))) (pss_one (ps_if (pt_cmpR op_eq (pe_ix ix_tup (pv 2) pe_int (fun _ _ => rfl)) pe_str (nomark _)) (pss_cons (ps_set (i := 3) sc_expression_text.nd rfl (Or.inl rfl) (pe_do f_as_item hr (by decide) (by rfl) (pa_cons (pe_bm0 PySem.F.plainAttrs_list PySem.F.slot_list_pop PySem.F.type_list_pop mt_pop (pv 1)) pa_nil))) (pss_cons (ps_set (i := 4) sc_expression_text.nd rfl (Or.inl rfl) (pe_ix ix_tup (pe_bm0 PySem.F.plainAttrs_list PySem.F.slot_list_pop PySem.F.type_list_pop mt_pop (pv 1)) pe_int (fun _ _ => rfl))) (pss_one (ps_expr (pe_bm PySem.F.plainAttrs_list PySem.F.slot_list_append PySem.F.type_list_append mt_append (pv 1) (pa_cons (pe_tup (pa_cons (pe_joined (.cons (pe_fmt (pv 4)) (.cons pe_str (.cons (pe_fmt (pv 3)) .nil)))) (pa_cons pe_bl pa_nil))) pa_nil)))))) (pss_cons (ps_set (i := 5) sc_expression_text.nd rfl (Or.inl rfl) (pe_do f_as_item hr (by decide) (by rfl) (pa_cons (pe_bm0 PySem.F.plainAttrs_list PySem.F.slot_list_pop PySem.F.type_list_pop mt_pop (pv 1)) pa_nil))) (pss_cons (ps_set (i := 6) sc_expression_text.nd rfl (Or.inl rfl) (pe_do f_operation_text hr (by decide) (by rfl) (pa_cons (pv 2) pa_nil))) (pss_one (ps_expr (pe_bm PySem.F.plainAttrs_list PySem.F.slot_list_append PySem.F.type_list_append mt_append (pv 1) (pa_cons (pe_tup (pa_cons (pe_joined (.cons (pe_fmt (pv 5)) (.cons pe_str (.cons (pe_fmt (pv 6)) .nil)))) (pa_cons pe_bl pa_nil))) pa_nil))))))))))))) (pss_one (ps_ret (pe_ix ix_tup (pe_ix ix_list (pv 1) pe_int (fun _ _ => rfl)) pe_int (fun _ _ => rfl)))))), ?_⟩
    have hxl := paired_len hp
    have hev := Pb.textS_rpn e []
    have hno := rpn_no e
    have hokN := okN_of e
    have hokE : ∀ t ∈ rpn e, tokOk t := hok
    generalize hts : rpn e = ts at *
    refine ⟨Nat.zero_le _, fun p hp0 => ?_⟩
    have g0 : Grow H H H (upd H p (.lst [])) := (Grow.refl (Same.refl H)).set hp0 hp0
    refine ⟨_, rfl, a, rfl, ⟨_, SqL.of (g0.i _ _ ha)⟩, for_list (K := K) (a := a) (xs := xs) (fun i σ H1 => ∃ (y2 y3 y4 y5 y6 : Option V) (G1 : Hp) (us : List V) (st : List (Bytes × Bool)), σ = [some (.ref a), some (.ref p), y2, y3, y4, y5, y6] ∧ Grow H H G1 H1 ∧ G1 p = none ∧ H1 p = some (.lst us) ∧ Paired (TextAt G1) us st.reverse ∧
        szT st ≤ 40 * i ∧ st.length ≤ i ∧ okN (ts.drop i) st.length ∧ textS ts [] = textS (ts.drop i) st)
      ⟨none, none, none, none, none, H, [], [], rfl, g0, hp0, upd_same, .nil, Nat.le_refl _, Nat.le_refl _, hokN, rfl⟩ (fun i σ H1 _ ⟨_, _, _, _, _, G1, _, _, _, gg, _⟩ => SqL.of (gg.i _ _ (gg.g _ _ ha))) (fun i x σ H1 hx ⟨y2, y3, y4, y5, y6, G1, us, st, es, gg, gp, hus, hup, hsz, hsl, hN, eev⟩ => ?_) (fun σ H1 ⟨y2, y3, y4, y5, y6, G1, us, st, es, gg, gp, hus, hup, hsz, hsl, hN, eev⟩ => ?_)⟩
    · subst es
      have hi : i < ts.length := by rw [← hxl]; exact (List.getElem?_eq_some_iff.mp hx).1
      obtain ⟨t, ht, ta, ax, rfl, hta, hax⟩ := paired_get hp hx
      have htm : t ∈ ts := List.mem_of_getElem? ht
      have htok := hokE t htm
      have hta1 := gg.g _ _ hta
      have htaH := gg.i _ _ hta1
      have hdrop : ts.drop i = t :: ts.drop (i + 1) := by
        obtain ⟨h1, h2⟩ := List.getElem?_eq_some_iff.mp ht
        rw [List.drop_eq_getElem_cons h1, h2]
      rw [hdrop] at eev hN
      have eev : textS ts [] = (textT t st).bind (textS (ts.drop (i + 1))) := eev
      have hN : arity t ≤ st.length ∧ okN (ts.drop (i + 1)) (st.length + 1 - arity t) := hN
      -- a new pair is put upon the rest of the stack
      have tail : ∀ (G2 H2 : Hp) (us2 : List V) (st2 : List (Bytes × Bool)) (en : Bytes × Bool) (y3 y4 y5 y6 : Option V), Grow H H G2 H2 → G2 p = none → H2 p = some (.lst us2) → Paired (TextAt G2) us2 st2.reverse → en.1.length + szT st2 ≤ 40 * (i + 1) → st2.length + 1 ≤ i + 1 →
          okN (ts.drop (i + 1)) (st2.length + 1) → textT t st = some (en :: st2) → ∀ na, H2 na = none → us2.length < sizeLine ∧
          (upd H2 na (.tup [.str (tx en.1), .bl en.2])) p = some (.lst us2) ∧
          (fun σ H1 => ∃ (y2 y3 y4 y5 y6 : Option V) (G1 : Hp) (us : List V) (st : List (Bytes × Bool)), σ = [some (.ref a), some (.ref p), y2, y3, y4, y5, y6] ∧ Grow H H G1 H1 ∧ G1 p = none ∧ H1 p = some (.lst us) ∧ Paired (TextAt G1) us st.reverse ∧
            szT st ≤ 40 * (i + 1) ∧ st.length ≤ i + 1 ∧ okN (ts.drop (i + 1)) st.length ∧ textS ts [] = textS (ts.drop (i + 1)) st)
            [some (.ref a), some (.ref p), some (.ref ta), y3, y4, y5, y6] (upd (upd H2 na (.tup [.str (tx en.1), .bl en.2])) p (.lst (us2 ++ [.ref na]))) := by
        intro G2 H2 us2 st2 en y3 y4 y5 y6 g2 gp2 hus2 hup2 hsz2 hsl2 hN2 ev2 na hna
        have hlen := paired_len hup2
        rw [List.length_reverse] at hlen
        have hpna : p ≠ na := ne_of_none hus2 hna
        have gN := Grow.new (o := .tup [.str (tx en.1), .bl en.2]) g2.i hna
        have gpN : (upd G2 na (.tup [.str (tx en.1), .bl en.2])) p = none := by rw [upd_ne hpna]; exact gp2
        rw [ev2] at eev
        refine ⟨by rw [szL]; omega, by rw [upd_ne hpna]; exact hus2, _, _, _, _, _, upd G2 na (.tup [.str (tx en.1), .bl en.2]), us2 ++ [.ref na], en :: st2, rfl, (g2.trans gN).set hp0 gpN, gpN, upd_same, ?_, by simpa [szT] using hsz2, by simpa using hsl2, hN2, eev⟩
        rw [List.reverse_cons]
        exact paired_snoc (paired_mono hup2 fun _ _ r => TextAt.mono gN.g r) ⟨na, rfl, upd_same⟩
      refine ⟨_, rfl, ta, _, 0, _, rfl, rfl, SqT.of htaH, atI_nat (j := 0) rfl, rfl, _, rfl, if_b (fun c1 => ?_) (fun c1 => ?_)⟩
      · obtain ⟨u, rfl⟩ := eq_dec c1 (kind_name t)
        obtain rfl : ax = .str (tx u) := hax
        have hul : u.length ≤ 8 := by
          have : Cp12.isName u = true := htok
          unfold Cp12.isName at this
          simp only [Bool.and_eq_true, decide_eq_true_eq] at this
          exact this.2.1
        refine ⟨_, rfl, .inl ⟨rfl, _, SqL.of hus⟩, _, rfl, ta, _, 1, _, rfl, rfl, SqT.of htaH, atI_nat (j := 1) rfl, (by show 2 ≤ sizeLine; decide), fun na hna => ?_⟩
        obtain ⟨t1, t2, t3⟩ := tail G1 H1 us st (u, false) y3 y4 y5 y6 gg gp hus hup (by show u.length + _ ≤ _; omega) (by omega) hN.2 rfl na hna
        exact ⟨p, us, _, rfl, rfl, t2, t1, t3⟩
      · have n1 := ne_dec c1 (kind_name t)
        refine ⟨_, rfl, ta, _, 0, _, rfl, rfl, SqT.of htaH, atI_nat (j := 0) rfl, rfl, _, rfl, if_b (fun c2 => ?_) (fun c2 => ?_)⟩
        · obtain ⟨n, rfl⟩ := eq_dec c2 (kind_rest t)
          have hax : EvAt H ax ⟨none, n⟩ := hax
          have hn : 1 ≤ n ∧ n ≤ 1024 := htok
          have et : Cp12.eventText ⟨none, n⟩ = ascii "r:" ++ Cp12.decimal n := rfl
          have hd := dec_len (n := n) (by omega)
          refine ⟨_, rfl, .inl ⟨rfl, _, SqL.of hus⟩, _, rfl, ta, _, 1, _, rfl, rfl, SqT.of htaH, atI_nat (j := 1) rfl, _, ⟨none, n⟩, rfl, hax.mono gg.h, by simp [okEv]; exact hn, (by show 2 ≤ sizeLine; decide), fun na hna => ?_⟩
          rw [et]
          obtain ⟨t1, t2, t3⟩ := tail G1 H1 us st (ascii "r:" ++ Cp12.decimal n, false) y3 y4 y5 y6 gg gp hus hup (by
            show (ascii "r:" ++ Cp12.decimal n).length + _ ≤ _
            rw [List.length_append]
            have : (ascii "r:").length = 2 := by decide
            omega) (by omega) hN.2 rfl na hna
          exact ⟨p, us, _, rfl, rfl, t2, t1, t3⟩
        · have n2 := ne_dec c2 (kind_rest t)
          refine ⟨_, rfl, ta, _, 0, _, rfl, rfl, SqT.of htaH, atI_nat (j := 0) rfl, rfl, _, rfl, if_b (fun c3 => ?_) (fun c3 => ?_)⟩
          · have c3 : t = .plus := eq_dec c3 (kind_plus t)
            subst c3
            obtain ⟨re, le, st', rfl⟩ : ∃ re le st', st = re :: le :: st' := by
              match st, hN.1 with
              | re :: le :: st', _ => exact ⟨re, le, st', rfl⟩
            obtain ⟨lt, lj⟩ := le
            have hsz' : re.1.length + (lt.length + szT st') ≤ 40 * i := by simpa [szT] using hsz
            have hri := asItem_len re
            rw [List.reverse_cons, List.reverse_cons] at hup
            obtain ⟨us1, ur, rfl, hup1, hur⟩ := paired_unsnoc hup
            obtain ⟨us2, ul, rfl, hup2, hul⟩ := paired_unsnoc hup1
            refine ⟨_, rfl, .inl ⟨rfl, _, SqL.of hus⟩, p, _, ur, rfl, rfl, hus, by simp, ?_⟩
            rw [List.dropLast_concat]
            have hP2 : (upd H1 p (.lst (us2 ++ [ul]))) p = some (.lst (us2 ++ [ul])) := upd_same
            have g1 : Grow H H G1 (upd H1 p (.lst (us2 ++ [ul]))) := gg.set hp0 gp
            refine ⟨ur, re, rfl, hur.mono g1.i, by omega, ?_⟩
            refine ⟨_, rfl, .inl ⟨rfl, _, SqL.of hP2⟩, p, _, ul, rfl, rfl, hP2, by simp, ?_⟩
            rw [List.dropLast_concat, upd_upd]
            have g2 : Grow H H G1 (upd H1 p (.lst us2)) := gg.set hp0 gp
            obtain ⟨la, rfl, hla⟩ := hul
            refine ⟨la, _, 0, _, rfl, rfl, SqT.of (g2.i _ _ hla), atI_nat (j := 0) rfl, ?_⟩
            have hP3 : (upd H1 p (.lst us2)) p = some (.lst us2) := upd_same
            have l3 : (ascii " + ").length = 3 := by decide
            refine ⟨_, rfl, .inl ⟨rfl, _, SqL.of hP3⟩, _, rfl, .inl ⟨tx lt, rfl, by rw [tx_len, szL]; omega, tx lt, rfl, by rw [empty_tx, tx_len, szL]; omega, ?_⟩⟩
            rw [empty_tx]
            refine ⟨_, rfl, by rw [lit]; exact joined_len (by rw [szL]; omega), ?_⟩
            rw [lit, tx_append]
            refine ⟨_, rfl, .inl ⟨tx (asItem re), rfl, by rw [tx_len, szL]; omega, tx (asItem re), rfl, joined_len (by rw [szL, List.length_append]; omega), ?_⟩⟩
            rw [tx_append]
            refine ⟨(by show 2 ≤ sizeLine; decide), fun na hna => ?_⟩
            obtain ⟨t1, t2, t3⟩ := tail G1 _ us2 st' (lt ++ ascii " + " ++ asItem re, true) (some (.str (tx (asItem re)))) (some (.str (tx lt))) y5 y6 g2 gp hP3 hup2 (by
              show (lt ++ ascii " + " ++ asItem re).length + _ ≤ _
              rw [List.length_append, List.length_append]
              omega) (by simp only [List.length_cons] at hsl; omega) (by
              have := hN.2
              simp only [List.length_cons, arity] at this
              have e3 : st'.length + 1 + 1 + 1 - 2 = st'.length + 1 := by omega
              rwa [e3] at this) rfl na hna
            exact ⟨p, us2, _, rfl, rfl, t2, t1, t3⟩
          · have n3 := ne_dec c3 (kind_plus t)
            obtain ⟨hop, har⟩ := op_of (hno t htm) n1 n2 n3
            obtain ⟨xe, st', rfl⟩ : ∃ xe st', st = xe :: st' := by
              match st, (show 1 ≤ st.length by rw [← har]; exact hN.1) with
              | xe :: st', _ => exact ⟨xe, st', rfl⟩
            have hsz' : xe.1.length + szT st' ≤ 40 * i := by simpa [szT] using hsz
            have hri := asItem_len xe
            have hol := opText_len htok
            rw [List.reverse_cons] at hup
            obtain ⟨us1, ux, rfl, hup1, hux⟩ := paired_unsnoc hup
            refine ⟨_, rfl, .inl ⟨rfl, _, SqL.of hus⟩, p, _, ux, rfl, rfl, hus, by simp, ?_⟩
            rw [List.dropLast_concat]
            have g2 : Grow H H G1 (upd H1 p (.lst us1)) := gg.set hp0 gp
            have hP3 : (upd H1 p (.lst us1)) p = some (.lst us1) := upd_same
            refine ⟨ux, xe, rfl, hux.mono g2.i, by omega, ?_⟩
            refine ⟨_, rfl, _, t, rfl, ⟨ta, ax, rfl, g2.i _ _ hta1, hax.mono g2.h⟩, hop, htok, ?_⟩
            have l1 : (ascii " ").length = 1 := by decide
            refine ⟨_, rfl, .inl ⟨rfl, _, SqL.of hP3⟩, _, rfl, .inl ⟨tx (asItem xe), rfl, by rw [tx_len, szL]; omega, tx (asItem xe), rfl, by rw [empty_tx, tx_len, szL]; omega, ?_⟩⟩
            rw [empty_tx]
            refine ⟨_, rfl, by rw [lit]; exact joined_len (by rw [szL]; omega), ?_⟩
            rw [lit, tx_append]
            refine ⟨_, rfl, .inl ⟨tx (opText t), rfl, by rw [tx_len, szL]; omega, tx (opText t), rfl, joined_len (by rw [szL, List.length_append]; omega), ?_⟩⟩
            rw [tx_append]
            refine ⟨(by show 2 ≤ sizeLine; decide), fun na hna => ?_⟩
            have ett : textT t (xe :: st') = some ((asItem xe ++ ascii " " ++ opText t, false) :: st') := by
              have : asItem xe ++ ascii " " ++ opText t = asItem xe ++ 32 :: opText t := by
                rw [List.append_assoc]; rfl
              rw [this]
              cases t <;> first | rfl | cases hop
            obtain ⟨t1, t2, t3⟩ := tail G1 _ us1 st' (asItem xe ++ ascii " " ++ opText t, false) y3 y4 (some (.str (tx (asItem xe)))) (some (.str (tx (opText t)))) g2 gp hP3 hup1 (by
              show (asItem xe ++ ascii " " ++ opText t).length + _ ≤ _
              rw [List.length_append, List.length_append]
              omega) (by simp only [List.length_cons] at hsl; omega) (by
              have := hN.2
              rw [har] at this
              simpa using this) ett na hna
            exact ⟨p, us1, _, rfl, rfl, t2, t1, t3⟩
    · subst es
      rw [hxl, List.drop_length] at eev
      have eev : textS ts [] = some st := eev
      rw [eev] at hev
      obtain rfl : st = [(Cp12.text e false, isJoin e)] := by simpa using hev
      cases hup with
      | cons hr ht =>
        cases ht
        obtain ⟨ea, rfl, hea⟩ := hr
        exact ⟨_, rfl, p, _, 0, _, rfl, rfl, SqL.of hus, atI_nat (j := 0) rfl, ea, _, 0, _, rfl, rfl, SqT.of (gg.i _ _ hea), atI_nat (j := 0) rfl, q _ gg.h⟩
end
end Pbd
namespace Pbd
open PySem PySem.Spec PyProof.Rows L2 TL
open Cp12 (Bytes ascii names value Def Book)
open Pb (rpn okE usesD has Good ready orderP lineD okD)
/-! ### definitions -/
def kindD (d : Def) : Bytes := match d.body with
  | .theme _ => ascii "theme"
  | .part _ => ascii "part"
def BodyAt (G : Hp) (v : V) (d : Def) : Prop := match d.body with
  | .theme l => LineAt G v l
  | .part e => ToksAt G v (rpn e) ∧ (rpn e).length ≤ 1000
theorem BodyAt.mono {G G' : Hp} {v : V} {d : Def} (s : Same G G') (h : BodyAt G v d) : BodyAt G' v d := by
  unfold BodyAt at h ⊢
  cases hb : d.body with
  | theme l => rw [hb] at h; exact LineAt.mono s h
  | part e => rw [hb] at h; exact ⟨ToksAt.mono s h.1, h.2⟩
def DefAt (G : Hp) (v : V) (d : Def) : Prop := ∃ a b c, v = .ref a ∧ G a = some (.tup [.str (tx (kindD d)), b, .ref c]) ∧ G c = some (.lst (wordsV (usesD d))) ∧ BodyAt G b d
theorem DefAt.mono {G G' : Hp} {v : V} {d : Def} (s : Same G G') (h : DefAt G v d) : DefAt G' v d := by
  obtain ⟨a, b, c, h1, h2, h3, h4⟩ := h
  exact ⟨a, b, c, h1, s _ _ h2, s _ _ h3, h4.mono s⟩
/-- a heap without the object at a -/
def del (H : Hp) (a : Addr) : Hp := fun b => if b = a then none else H b
theorem del_of {H : Hp} {a b : Addr} {o u : HO} (ha : H a = some u) (h : H b = some o) (ne : o ≠ u) : del H a b = some o := by
  unfold del
  rw [if_neg (ne_of h ha ne)]
  exact h
theorem del_sub (H : Hp) (a : Addr) : Same (del H a) H := fun b o h => by
  unfold del at h
  split at h
  · cases h
  · exact h
theorem del_upd (H : Hp) (a : Addr) (o : HO) : Same (del H a) (upd H a o) := fun b x h => by
  unfold del at h
  split at h
  · cases h
  · rename_i c; rw [upd_ne c]; exact h
section
variable {H : Hp} {a : Addr} {kvs : List (Key × V)} (ha : H a = some (.dK kvs))
include ha
theorem EvAt.del {v : V} {e : Ev} (h : EvAt H v e) : EvAt (del H a) v e := by
  obtain ⟨b, h1, h2⟩ := h
  exact ⟨b, h1, del_of ha h2 (by simp)⟩
theorem LineAt.del {v : V} {l : Line} (h : LineAt H v l) : LineAt (del H a) v l := by
  obtain ⟨b, vs, h1, h2, h3⟩ := h
  exact ⟨b, vs, h1, del_of ha h2 (by simp), paired_mono h3 fun _ _ q => EvAt.del ha q⟩
theorem TokAt.del {v : V} {t : Tk} (h : TokAt H v t) : TokAt (del H a) v t := by
  obtain ⟨b, x, h1, h2, h3⟩ := h
  refine ⟨b, x, h1, del_of ha h2 (by simp), ?_⟩
  cases t <;> first | exact h3 | exact EvAt.del ha h3
theorem ToksAt.del {v : V} {l : List Tk} (h : ToksAt H v l) : ToksAt (del H a) v l := by
  obtain ⟨b, vs, h1, h2, h3⟩ := h
  exact ⟨b, vs, h1, del_of ha h2 (by simp), paired_mono h3 fun _ _ q => TokAt.del ha q⟩
theorem DefAt.del {v : V} {d : Def} (h : DefAt H v d) : DefAt (del H a) v d := by
  obtain ⟨b, x, c, h1, h2, h3, h4⟩ := h
  refine ⟨b, x, c, h1, del_of ha h2 (by simp), del_of ha h3 (by simp), ?_⟩
  unfold BodyAt at h4 ⊢
  cases hb : d.body with
  | theme l => rw [hb] at h4; exact LineAt.del ha h4
  | part e => rw [hb] at h4; exact ⟨ToksAt.del ha h4.1, h4.2⟩
end
/-- the pairs of a dict of definitions -/
def BookKV (G : Hp) (kvs : List (Key × V)) (b : Book) : Prop := Paired (fun (kv : Key × V) (d : Def) => kv.1 = .inr (tx d.name) ∧ DefAt G kv.2 d) kvs b
theorem BookKV.mono {G G' : Hp} {kvs : List (Key × V)} {b : Book} (s : Same G G') (h : BookKV G kvs b) : BookKV G' kvs b := paired_mono h fun _ _ q => ⟨q.1, q.2.mono s⟩
theorem BookKV.del {H : Hp} {a : Addr} {ks : List (Key × V)} (ha : H a = some (.dK ks)) {kvs : List (Key × V)} {b : Book} (h : BookKV H kvs b) : BookKV (del H a) kvs b := paired_mono h fun _ _ q => ⟨q.1, DefAt.del ha q.2⟩
theorem BookKV.len {G : Hp} {kvs : List (Key × V)} {b : Book} (h : BookKV G kvs b) : kvs.length = b.length := paired_len h
theorem key_eq {v u : Bytes} : decide ((Sum.inr (tx v) : Key) = Sum.inr (tx u)) = (v == u) := by
  by_cases c : v = u
  · subst c; simp
  · rw [decide_eq_false (fun z => c (tx_inj (Sum.inr.inj z)))]
    exact (beq_eq_false_iff_ne.mpr c).symm
theorem BookKV.get {G : Hp} (u : Bytes) : ∀ {kvs : List (Key × V)} {b : Book}, BookKV G kvs b → (b.find? (fun x => x.name == u) = none → valV kvs (.inr (tx u)) = none) ∧ (∀ d, b.find? (fun x => x.name == u) = some d → ∃ x, valV kvs (.inr (tx u)) = some x ∧ DefAt G x d)
  | _, _, .nil => ⟨fun _ => rfl, fun d h => by simp at h⟩
  | (k, x) :: kvs, d :: b, .cons ⟨hk, hd⟩ r => by
    have ih := BookKV.get u r
    have hk : k = .inr (tx d.name) := hk
    subst hk
    have e : valV ((Sum.inr (tx d.name), x) :: kvs) (.inr (tx u)) = if (d.name == u) then some x else valV kvs (.inr (tx u)) := by
      unfold valV
      rw [List.find?_cons]
      show Option.map _ (match decide ((Sum.inr (tx d.name) : Key) = Sum.inr (tx u)) with | true => _ | false => _) = _
      rw [key_eq]
      cases (d.name == u) <;> rfl
    rw [e, List.find?_cons]
    cases hc : (d.name == u) with
    | true =>
      refine ⟨fun h => ?_, fun d' h => ?_⟩
      · cases h
      · cases h
        exact ⟨x, rfl, hd⟩
    | false => exact ih
theorem BookKV.has {G : Hp} {kvs : List (Key × V)} {b : Book} (h : BookKV G kvs b) (u : Bytes) : (valV kvs (.inr (tx u))).isSome = has b u := by
  obtain ⟨h1, h2⟩ := h.get u
  cases hf : b.find? (fun x => x.name == u) with
  | none =>
    rw [h1 hf]
    have := List.find?_eq_none.mp hf
    symm
    unfold Pb.has
    rw [Option.isSome_none, List.any_eq_false]
    exact this
  | some d =>
    obtain ⟨x, hx, _⟩ := h2 d hf
    rw [hx]
    symm
    unfold Pb.has
    rw [Option.isSome_some, List.any_eq_true]
    have := List.find?_some hf
    exact ⟨d, List.mem_of_find?_eq_some hf, this⟩
theorem BookKV.mem {G : Hp} {kvs : List (Key × V)} {b : Book} (h : BookKV G kvs b) (nd : (b.map (·.name)).Nodup) {d : Def} (hd : d ∈ b) : ∃ x, valV kvs (.inr (tx d.name)) = some x ∧ DefAt G x d := (h.get d.name).2 d (Pb.find_of_mem nd hd)
theorem BookKV.at {G : Hp} {kvs : List (Key × V)} {b : Book} (h : BookKV G kvs b) {i : Nat} {k : Key} {v : V} (e : kvs[i]? = some (k, v)) : ∃ d, b[i]? = some d ∧ k = .inr (tx d.name) ∧ DefAt G v d := by
  obtain ⟨d, h1, h2⟩ := paired_get h e
  exact ⟨d, h1, h2.1, h2.2⟩
/-- a comprehension over the keys of a dict: [k for k in d if ..] -/
theorem lc_keys {d : Addr} {od : Obj} {kvs : List (Key × V)} {keep : Nat → Bool} {i0 : Nat} {tt : TT} {te : TE} {σ : L2.St} {H1 : Hp} {D : Addr} {Qd : Hp → Prop} (hS : H1 d = some (.frz od (.dK kvs))) (hD : H1 D = none) (hb : kvs.length ≤ 100000)
    (hw : ∀ x : V, wipe ((wipe σ [i0]).set i0 (some x)) [i0] = wipe σ [i0])
    (hs : ∀ (i : Nat) (k : Key) (v : V) (H : Hp) (Q : Bool → Hp → Prop), kvs[i]? = some (k, v) → Same H1 H → (∀ H', Same H H' → Q (keep i) H') → tt ((wipe σ [i0]).set i0 (some (kV k))) H Q)
    (hv : ∀ (x : V) (H : Hp) (Q : VK), Q x H → te ((wipe σ [i0]).set i0 (some x)) H Q) (hd : ∀ H, Same H1 H → H D = some (.lst ((((List.range kvs.length).filter keep).filterMap fun i => kvs[i]?).map fun kv => kV kv.1)) → Qd H) :
    ∃ W : Nat → Nat → Hp → Prop, (∃ m, W 0 m (upd H1 D (.lst []))) ∧ ∀ i m H, W i m H →
      ((Itk d od kvs).stop i H ∧ Qd H) ∨ ((Itk d od kvs).go i H ∧ ∃ Nx : Hp → Prop, (∀ H', Nx H' → ∃ m', m' < m ∧ W (i + 1) m' H') ∧ ∀ x H', (Itk d od kvs).yld i H x H' → gName i0 x (wipe σ [i0]) H' fun σ2 H2 => wipe σ2 [i0] = wipe σ [i0] ∧ tt σ2 H2 fun b H3 =>
        if b = true then te σ2 H3 fun y H4 => ∃ acc, H4 D = some (.lst acc) ∧ acc.length < sizeLine ∧ Nx (upd H4 D (.lst (acc ++ [y]))) else Nx H3) := by
  have hl : ∀ i, ((((List.range i).filter keep).filterMap fun i => kvs[i]?).map fun kv => kV kv.1).length ≤ i := fun i => by
    rw [List.length_map]
    have h1 := List.length_filterMap_le (fun i => kvs[i]?) ((List.range i).filter keep)
    have h2 := List.length_filter_le keep (List.range i)
    rw [List.length_range] at h2
    omega
  refine ⟨fun i m H => m = kvs.length - i ∧ i ≤ kvs.length ∧ Same H1 H ∧ H D = some (.lst ((((List.range i).filter keep).filterMap fun i => kvs[i]?).map fun kv => kV kv.1)), ⟨kvs.length, rfl, Nat.zero_le _, same_new hD, by rw [upd_same]; rfl⟩, ?_⟩
  rintro i m H ⟨rfl, hi, s, hh⟩
  by_cases hlt : i < kvs.length
  · refine .inr ⟨⟨s _ _ hS, hlt⟩, fun H' => Same H1 H' ∧ H' D = some (.lst ((((List.range (i + 1)).filter keep).filterMap fun i => kvs[i]?).map fun kv => kV kv.1)), fun H' h => ⟨kvs.length - (i + 1), by omega, rfl, hlt, h.1, h.2⟩, fun x H' y => ?_⟩
    obtain ⟨e, k, v, hkv, rfl⟩ := y
    subst e
    refine ⟨hw _, hs i k v _ _ hkv s fun H' s' => ?_⟩
    have e : (((List.range (i + 1)).filter keep).filterMap fun i => kvs[i]?).map (fun kv => kV kv.1) = (((List.range i).filter keep).filterMap fun i => kvs[i]?).map (fun kv => kV kv.1) ++ if keep i then [kV k] else [] := by
      rw [List.range_succ, List.filter_append, List.filterMap_append, List.map_append]
      congr 1
      cases hk : keep i with
      | true => simp [hk, hkv]
      | false => simp [hk]
    have hl' := hl i
    refine if_b (fun c => ?_) (fun c => ?_)
    · refine hv _ _ _ ⟨_, s' _ _ hh, by rw [szL]; omega, fun b o q => ?_, ?_⟩
      · rw [upd_ne (ne_of_none q hD)]; exact s' _ _ (s _ _ q)
      · rw [upd_same, e, c]; rfl
    · refine ⟨s.trans s', ?_⟩
      rw [s' _ _ hh, e, c]; simp
  · have e : i = kvs.length := by omega
    subst e
    exact .inl ⟨⟨s _ _ hS, Nat.le_refl _⟩, hd H s hh⟩
/-- the keys that are kept, by the definitions -/
theorem keys_kept {G : Hp} {kvs : List (Key × V)} {b : Book} (h : BookKV G kvs b) (p : Def → Bool) : ((((List.range kvs.length).filter fun i => (b[i]?.map p).getD false).filterMap fun i => kvs[i]?).map fun kv => kV kv.1) = wordsV ((b.filter p).map (·.name)) := by
  have key : ∀ n, n ≤ kvs.length → ((((List.range n).filter fun i => (b[i]?.map p).getD false).filterMap fun i => kvs[i]?).map fun kv => kV kv.1) = wordsV (((b.take n).filter p).map (·.name)) := by
    intro n
    induction n with
    | zero => intro _; rfl
    | succ n ih =>
      intro hn
      have hb := h.len
      obtain ⟨⟨k, v⟩, hkv⟩ : ∃ kv, kvs[n]? = some kv := ⟨_, List.getElem?_eq_getElem (by omega)⟩
      obtain ⟨d, hd, rfl, _⟩ := h.at hkv
      rw [List.range_succ, List.filter_append, List.filterMap_append, List.map_append, ih (by omega), take_more hd, List.filter_append, List.map_append]
      unfold wordsV
      rw [List.map_append]
      congr 1
      cases hp : p d with
      | true => simp [hd, hp, hkv]; rfl
      | false => simp [hd, hp]
  rw [key kvs.length (Nat.le_refl _), h.len, List.take_length]
/-- behind a lock -/
theorem unlock {H H' : Hp} {a : Addr} {u o : HO} (ha : H a = some u) (s : Same (upd H a o) H') : Same H (upd H' a u) := fun b x h => by
  by_cases c : b = a
  · subst c; rw [upd_same, ← ha]; exact h
  · rw [upd_ne c]
    exact s b x (by rw [upd_ne c]; exact h)
section
variable {P : Program} {w : World} {K : PySem.W.Frag} {mg : Str → Option Value} {base : Heap} {aM aR aP aS aN aB : Addr}
/-! ### make_theme, make_part, names_used -/
abbrev s_make_theme : Stmt := top 46
abbrev n_make_theme : List Str := ["events"]
theorem sc_make_theme : FnScope n_make_theme ["events"] (defScope s_make_theme) := ⟨rfl, rfl, rfl, by decide +kernel, rfl, by decide +kernel, by decide +kernel⟩

def sp_make_theme : Sp := fun vs H Q _ => ∃ (v : V) (l : Line) (G : Hp), vs = [v] ∧ Same G H ∧ LineAt G v l ∧ ∀ r G' H', Grow G H G' H' → (∀ n, DefAt G' r ⟨n, .theme l⟩) → Q r H'
theorem ok_make_theme {f : Addr} {fd : FuncData} (F : Fun K "make_theme" "make_theme" s_make_theme f fd) (T : Txt K w mg aM aR aP aS aN aB) : FnOk P w K mg base CX0 1 f fd ["events"] sp_make_theme := by
  refine F.ok sc_make_theme (fun vs H Q E h => ?_) (fun cdv A outer s H vs Q E hr h => ?_)
  · obtain ⟨v, l, G, rfl, _⟩ := h; rfl
  · obtain ⟨v, l, G, rfl, hG, hv, q⟩ := h
    refine ⟨_, (pss_one (ps_ret (pe_tup (pa_cons pe_str (pa_cons (pv 0) (pa_cons (pe_lst pa_nil) pa_nil)))))), ?_⟩
    refine ⟨_, rfl, Nat.zero_le _, fun c hc => ⟨(by show 3 ≤ sizeLine; decide), fun a ha => ?_⟩⟩
    have g1 := Grow.new (o := .lst []) hG hc
    have g2 := Grow.new (o := .tup [.str "theme", v, .ref c]) g1.i ha
    have hac : c ≠ a := fun z => by rw [← z, upd_same] at ha; cases ha
    refine q _ _ _ (g1.trans g2) fun n => ⟨a, v, c, rfl, ?_, ?_, ?_⟩
    · rw [upd_same, lit]; rfl
    · rw [upd_ne hac, upd_same]; rfl
    · exact hv.mono (g1.g.trans g2.g)
abbrev s_make_part : Stmt := top 47
abbrev n_make_part : List Str := ["steps"]
theorem sc_make_part : FnScope n_make_part ["steps"] (defScope s_make_part) := ⟨rfl, rfl, rfl, by decide +kernel, rfl, by decide +kernel, by decide +kernel⟩

def sp_make_part : Sp := fun vs H Q _ => ∃ (v : V) (e : Cp12.Expr) (G : Hp), vs = [v] ∧ Same G H ∧ ToksAt G v (rpn e) ∧ (rpn e).length ≤ 1000 ∧ ∀ r G' H', Grow G H G' H' → (∀ n, DefAt G' r ⟨n, .part e⟩) → Q r H'
theorem ok_make_part {f : Addr} {fd : FuncData} (F : Fun K "make_part" "make_part" s_make_part f fd) (T : Txt K w mg aM aR aP aS aN aB) (f_names_in : Callee P w K mg base "names_in" 1 ["steps"] sp_names_in) : FnOk P w K mg base CX0 2 f fd ["steps"] sp_make_part := by
  refine F.ok sc_make_part (fun vs H Q E h => ?_) (fun cdv A outer s H vs Q E hr h => ?_)
  · obtain ⟨v, e, G, rfl, _⟩ := h; rfl
  · obtain ⟨v, e, G, rfl, hG, hv, hl, q⟩ := h
    refine ⟨_, (pss_one (ps_ret (pe_tup (pa_cons pe_str (pa_cons (pv 0) (pa_cons (pe_do f_names_in hr (by decide) (by rfl) (pa_cons (pv 0) pa_nil)) pa_nil)))))), ?_⟩
    refine ⟨_, rfl, _, rfl, _, rpn e, rfl, hv.mono hG, by omega, fun H1 c s1 hc hc1 => ⟨(by show 3 ≤ sizeLine; decide), fun a ha => ?_⟩⟩
    rw [← Pb.names_rpn] at hc1
    have g1 : Grow G H (upd G c (.lst (wordsV (Pb.once (names e))))) H1 := (Grow.of hG s1).put hc hc1 (hG.free hc)
    have g2 := Grow.new (o := .tup [.str "part", v, .ref c]) g1.i ha
    have hac : c ≠ a := ne_of_none hc1 ha
    refine q _ _ _ (g1.trans g2) fun n => ⟨a, v, c, rfl, ?_, ?_, ?_⟩
    · rw [upd_same, lit]; rfl
    · rw [upd_ne hac, upd_same]; rfl
    · exact ⟨hv.mono (g1.g.trans g2.g), hl⟩
abbrev s_names_used : Stmt := top 48
abbrev n_names_used : List Str := ["definition"]
theorem sc_names_used : FnScope n_names_used ["definition"] (defScope s_names_used) := ⟨rfl, rfl, rfl, by decide +kernel, rfl, by decide +kernel, by decide +kernel⟩

def sp_names_used : Sp := fun vs H Q _ => ∃ (v : V) (d : Def), vs = [v] ∧ DefAt H v d ∧ ∀ c, H c = some (.lst (wordsV (usesD d))) → Q (.ref c) H
theorem ok_names_used {f : Addr} {fd : FuncData} (F : Fun K "names_used" "names_used" s_names_used f fd) (T : Txt K w mg aM aR aP aS aN aB) : FnOk P w K mg base CX0 1 f fd ["definition"] sp_names_used := by
  refine F.ok sc_names_used (fun vs H Q E h => ?_) (fun cdv A outer s H vs Q E hr h => ?_)
  · obtain ⟨v, d, rfl, _⟩ := h; rfl
  · obtain ⟨v, d, rfl, ⟨a, b, c, rfl, h1, h2, h3⟩, q⟩ := h
    refine ⟨_, (pss_one (ps_ret (pe_ix ix_tup (pv 0) pe_int (fun _ _ => rfl)))), ?_⟩
    exact ⟨_, rfl, a, _, 2, _, rfl, rfl, SqT.of h1, atI_nat (j := 2) rfl, q c h2⟩
/-! ### users_of -/
abbrev s_users_of : Stmt := top 49
abbrev n_users_of : List Str := ["definitions", "name", "user"]
theorem sc_users_of : FnScope n_users_of ["definitions", "name"] (defScope s_users_of) := ⟨rfl, rfl, rfl, by decide +kernel, rfl, by decide +kernel, by decide +kernel⟩

def sp_users_of : Sp := fun vs H Q _ => ∃ (a : Addr) (u : Bytes) (kvs : List (Key × V)) (b : Book), vs = [.ref a, .str (tx u)] ∧ H a = some (.dK kvs) ∧ BookKV H kvs b ∧ Good b ∧ ∀ H' p, Same H H' → H p = none → H' p = some (.lst (wordsV (Cp12.users b u))) → Q (.ref p) H'
theorem ok_users_of {f : Addr} {fd : FuncData} (F : Fun K "users_of" "users_of" s_users_of f fd) (T : Txt K w mg aM aR aP aS aN aB) (f_names_used : Callee P w K mg base "names_used" 1 ["definition"] sp_names_used) : FnOk P w K mg base CX0 2 f fd ["definitions", "name"] sp_users_of := by
  refine F.ok sc_users_of (fun vs H Q E h => ?_) (fun cdv A outer s H vs Q E hr h => ?_)
  · obtain ⟨a, u, kvs, b, rfl, _⟩ := h; rfl
  · have hu := hu_of hr
    obtain ⟨a, u, kvs, b, rfl, ha, hB, hgood, q⟩ := h
    refine ⟨_, (pss_one (ps_ret (pe_lock (pe_lc (own := [("user", 2)]) (g := gName 2) rfl sc_users_of.nd (pi_keys (pv 0)) (blkOk_by (own := [("user", 2)]) (N := n_users_of) (sc := defScope s_users_of) (by decide +kernel)) (fun _ _ _ _ _ => pg_name (i := 2) sc_users_of.nd rfl (Or.inl rfl)) (fun _ _ _ _ _ => pts_one (pt_cmpR (op_in_seqK K) (pv 1) (pe_do f_names_used hr (by decide) (by rfl) (pa_cons (pe_dget hu (pv 0) (pv 2) (fun _ _ => rfl)) pa_nil)) rfl)) (fun _ _ _ _ _ => (pv 2)))))), ?_⟩
    refine ⟨a, _, ha, trivial, fun od => ⟨_, rfl, a, od, rfl, .inl ⟨kvs, upd_same, fun D hD => ?_⟩⟩⟩
    have hB' := (BookKV.del ha hB).mono (del_upd H a (.frz od (.dK kvs)))
    have hlen := hB.len
    have h12 := hgood.len
    have d12 : Cp12.DEFS = 12 := rfl
    have hDa : D ≠ a := fun z => by rw [z, upd_same] at hD; cases hD
    have hkey := keys_kept hB (fun d => (usesD d).contains u)
    refine lc_keys (keep := fun i => (b[i]?.map fun d => (usesD d).contains u).getD false) upd_same hD (by omega) (fun _ => rfl) (fun i k v H' Q' hkv s' kk => ?_) (fun x H' Q' q => ⟨_, rfl, q⟩) (fun H' s' hD' => ?_)
    · obtain ⟨d, hd, rfl, hdv⟩ := hB'.at hkv
      have hdm : d ∈ b := List.mem_of_getElem? hd
      obtain ⟨x, hx, hxd⟩ := hB'.mem hgood.nd hdm
      refine ⟨_, rfl, _, rfl, _, rfl, a, x, rfl, by rw [← hx]; exact .inl ⟨kvs, .inr (tx d.name), .inr ⟨od, s' _ _ upd_same⟩, rfl, rfl⟩, _, d, rfl, hxd.mono s', fun c hc => ?_⟩
      refine ⟨c, _, rfl, .inl (SqL.of hc), rfl, flat_words _, _, rfl, ?_⟩
      show Q' (inV (.str (tx u)) (wordsV (usesD d))) H'
      rw [inV_words]
      have : (b[i]?.map fun d => (usesD d).contains u).getD false = (usesD d).contains u := by rw [hd]; rfl
      rw [this] at kk
      exact kk _ (Same.refl _)
    · refine ⟨s' _ _ upd_same, q _ _ (unlock ha s') (by rw [upd_ne hDa] at hD; exact hD) ?_⟩
      rw [upd_ne hDa, hD', hkey]
      congr 3
      unfold Cp12.users
      congr 1
      apply List.filter_congr
      intro d hd
      rw [Pb.uses_mem hgood.nd hd]
end
end Pbd
namespace Pbd
open PySem PySem.Spec PyProof.Rows L2 TL
open Cp12 (Bytes ascii names value Def Book)
open Pb (rpn okE usesD has Good ready orderP lineD okD Reach)
theorem uses_len {b : Book} (G : Good b) {d : Def} (h : d ∈ b) : (usesD d).length ≤ 12 := by
  have nd : (usesD d).Nodup := by
    unfold Pb.usesD
    cases d.body with
    | theme l => simp
    | part e => exact Pb.once_nodup _
  have := Pb.nodup_sub_length (l := b.map (·.name)) nd fun w hw => Pb.has_iff.mp (G.closed d h w hw)
  have h12 := G.len
  have d12 : Cp12.DEFS = 12 := rfl
  rw [List.length_map] at this
  omega
theorem reach_snoc {b : Book} {v u x : Bytes} (r : Reach b v u) (h : x ∈ Cp12.uses b u) : Reach b v x := by
  induction r with
  | refl w => exact .step h (.refl _)
  | step h1 _ ih => exact .step h1 (ih h)
theorem putK_len {κ : Type} [DecidableEq κ] (kvs : List (κ × V)) (k : κ) (v : V) : (putK kvs k v).length ≤ kvs.length + 1 := by
  unfold putK
  split
  · rw [List.length_map]; omega
  · rw [List.length_append]; simp
theorem valV_put_same {κ : Type} [DecidableEq κ] (kvs : List (κ × V)) (k : κ) (v : V) : valV (putK kvs k v) k = some v := by rw [valV_put, if_pos rfl]
theorem valV_put_other {κ : Type} [DecidableEq κ] (kvs : List (κ × V)) {k j : κ} (v : V) (h : j ≠ k) : valV (putK kvs k v) j = valV kvs j := by rw [valV_put, if_neg h]
def foundV (F : List Bytes) : List (Key × V) := F.map fun u => (Sum.inr (tx u), V.bl true)
theorem found_has (F : List Bytes) (u : Bytes) : (valV (foundV F) (.inr (tx u))).isSome = F.contains u := by
  unfold valV foundV
  induction F with
  | nil => rfl
  | cons x r ih =>
    rw [List.map_cons, List.find?_cons]
    show (Option.map _ (match decide ((Sum.inr (tx x) : Key) = Sum.inr (tx u)) with | true => _ | false => _)).isSome = _
    rw [key_eq, List.contains_cons]
    by_cases c : x = u
    · subst c; simp
    · rw [beq_eq_false_iff_ne.mpr c, beq_eq_false_iff_ne.mpr (fun z => c z.symm)]
      exact ih
theorem found_put (F : List Bytes) (u : Bytes) (h : F.contains u = false) : putK (foundV F) (.inr (tx u)) (.bl true) = foundV (F ++ [u]) := by
  have : valV (foundV F) (.inr (tx u)) = none := by
    have := found_has F u
    rw [h] at this
    cases e : valV (foundV F) (.inr (tx u)) with
    | none => rfl
    | some x => rw [e] at this; cases this
  rw [putK_new _ this]
  simp [foundV]
section
variable {P : Program} {w : World} {K : PySem.W.Frag} {mg : Str → Option Value} {base : Heap} {aM aR aP aS aN aB : Addr}
/-! ### reaches -/
abbrev s_reaches : Stmt := top 50
abbrev n_reaches : List Str := ["definitions", "starts", "goal", "found", "due", "name"]
theorem sc_reaches : FnScope n_reaches ["definitions", "starts", "goal"] (defScope s_reaches) := ⟨rfl, rfl, rfl, by decide +kernel, rfl, by decide +kernel, by decide +kernel⟩

def sp_reaches : Sp := fun vs H Q _ => ∃ (a s : Addr) (goal : Bytes) (kvs : List (Key × V)) (b : Book) (l : List Bytes), vs = [.ref a, .ref s, .str (tx goal)] ∧ H a = some (.dK kvs) ∧ BookKV H kvs b ∧ Good b ∧ H s = some (.lst (wordsV l)) ∧ (∀ u ∈ l, has b u = true) ∧ l.length ≤ 1000 ∧
  ((∃ u ∈ l, Reach b u goal) → ∀ H', Same H H' → Q (.bl true) H') ∧ ((¬ ∃ u ∈ l, Reach b u goal) → ∀ H', Same H H' → Q (.bl false) H')
theorem ok_reaches {f : Addr} {fd : FuncData} (F : Fun K "reaches" "reaches" s_reaches f fd) (T : Txt K w mg aM aR aP aS aN aB) (f_names_used : Callee P w K mg base "names_used" 1 ["definition"] sp_names_used) : FnOk P w K mg base CX0 2 f fd ["definitions", "starts", "goal"] sp_reaches := by
  refine F.ok sc_reaches (fun vs H Q E h => ?_) (fun cdv A outer s H vs Q E hr h => ?_)
  · obtain ⟨a, s, goal, kvs, b, l, rfl, _⟩ := h; rfl
  · have hu := hu_of hr
    obtain ⟨a, st, goal, kvs, b, l, rfl, ha, hB, hgood, hst, hhas, hl, q1, q0⟩ := h
    refine ⟨_, (pss_cons (ps_set (i := 3) sc_reaches.nd rfl (Or.inl rfl) pe_dnewK) (pss_cons (ps_set (i := 4) sc_reaches.nd rfl (Or.inl rfl) (pe_callTy call_list_of (by rfl) T.b_list (by decide +kernel) (pa_cons (pv 1) pa_nil))) (pss_cons (ps_while PassesOwn.never (pt_truth (pv 4) (by intro _; rfl)) (pss_cons (ps_set (i := 5) sc_reaches.nd rfl (Or.inl rfl) (pe_bm0 PySem.F.plainAttrs_list PySem.F.slot_list_pop PySem.F.type_list_pop mt_pop (pv 4))) (pss_cons (ps_if (pt_cmpR op_eq (pv 5) (pv 2) (nomark _)) (pss_one (ps_ret pe_bl)) pss_nil) (pss_one (ps_if (pt_cmp (pc_dnotin hu (pv 5) (pv 3))) (pss_cons (ps_dput hu (pv 3) (pv 5) pe_bl rfl) (pss_one (ps_expr (pe_bm PySem.F.plainAttrs_list PySem.F.slot_list_extend PySem.F.type_list_extend mt_extend (pv 4) (pa_cons (pe_do f_names_used hr (by decide) (by rfl) (pa_cons (pe_dget hu (pv 0) (pv 5) (fun _ _ => rfl)) pa_nil)) pa_nil))))) pss_nil))))) (pss_one (ps_ret pe_bl))))), ?_⟩
    have h12 := hgood.len
    have d12 : Cp12.DEFS = 12 := rfl
    refine fun fa hfa => ⟨_, rfl, st, _, rfl, .inl (SqL.of ((same_new hfa) _ _ hst)), fun da hda => ?_⟩
    have hdfa : fa ≠ da := fun z => by rw [← z, upd_same] at hda; cases hda
    have hda0 : H da = none := by rw [upd_ne hdfa.symm] at hda; exact hda
    have s0 : Same H (upd (upd H fa (.dK [])) da (.lst (wordsV l))) := (same_new hfa).trans (same_new hda)
    -- what holds ahead of each turn
    refine ⟨fun m σ H1 => ∃ (F D : List Bytes) (y : Option V), m = 13 * (b.length - F.length) + D.length ∧ σ = [some (.ref a), some (.ref st), some (.str (tx goal)), some (.ref fa), some (.ref da), y] ∧ Same H H1 ∧ H1 fa = some (.dK (foundV F)) ∧ H1 da = some (.lst (wordsV D)) ∧ F.Nodup ∧ goal ∉ F ∧
        D.length ≤ 1000 + 13 * F.length ∧ (∀ u ∈ F, has b u = true) ∧ (∀ u ∈ D, has b u = true) ∧ (∀ u ∈ l, u ∈ F ∨ u ∈ D) ∧ (∀ u ∈ F, ∀ x ∈ Cp12.uses b u, x ∈ F ∨ x ∈ D) ∧ (∀ u, u ∈ F ∨ u ∈ D → ∃ v ∈ l, Reach b v u),
      ⟨13 * b.length + l.length, [], l, none, by simp, rfl, s0, by rw [upd_ne hdfa, upd_same]; rfl, upd_same, by simp, by simp, by omega, by simp, hhas, fun u h => .inr h, by simp, fun u h => ⟨u, by simpa using h, .refl _⟩⟩, ?_⟩
    rintro m σ H1 ⟨F, D, y, rfl, rfl, s1, hF, hD, hnd, hgo, hDl, hFh, hDh, hls, hcl, hre⟩
    have hFl : F.length ≤ b.length := by
      have := Pb.nodup_sub_length (l := b.map (·.name)) hnd fun u hu => Pb.has_iff.mp (hFh u hu)
      simpa using this
    refine ⟨_, rfl, _, .inl ⟨_, SqL.of hD, rfl⟩, if_b (fun c => ?_) (fun c => ?_)⟩
    · have hDne : D ≠ [] := by
        rintro rfl
        exact absurd c (by decide)
      obtain ⟨D', u, rfl⟩ : ∃ D' u, D = D' ++ [u] := by
        rcases List.eq_nil_or_concat D with rfl | ⟨D', u, rfl⟩
        · exact absurd rfl hDne
        · exact ⟨D', u, by simp⟩
      have hwD : wordsV (D' ++ [u]) = wordsV D' ++ [.str (tx u)] := by simp [wordsV]
      rw [hwD] at hD
      have huh := hDh u (by simp)
      refine ⟨fun σ' H2 => ∃ (F2 D2 : List Bytes) (y : Option V), 13 * (b.length - F2.length) + D2.length < 13 * (b.length - F.length) + (D' ++ [u]).length ∧ σ' = [some (.ref a), some (.ref st), some (.str (tx goal)), some (.ref fa), some (.ref da), y] ∧ Same H H2 ∧ H2 fa = some (.dK (foundV F2)) ∧ H2 da = some (.lst (wordsV D2)) ∧ F2.Nodup ∧ goal ∉ F2 ∧
        D2.length ≤ 1000 + 13 * F2.length ∧ (∀ u ∈ F2, has b u = true) ∧ (∀ u ∈ D2, has b u = true) ∧ (∀ u ∈ l, u ∈ F2 ∨ u ∈ D2) ∧ (∀ u ∈ F2, ∀ x ∈ Cp12.uses b u, x ∈ F2 ∨ x ∈ D2) ∧ (∀ u, u ∈ F2 ∨ u ∈ D2 → ∃ v ∈ l, Reach b v u), ?_, ?_⟩
      · rintro σ' H2 ⟨F2, D2, y2, hlt, rest⟩
        exact ⟨_, hlt, F2, D2, y2, rfl, rest⟩
      · refine ⟨_, rfl, .inl ⟨rfl, _, SqL.of hD⟩, da, _, .str (tx u), rfl, rfl, hD, by simp, ?_⟩
        rw [List.dropLast_concat]
        have s2 : Same H (upd H1 da (.lst (wordsV D'))) := fun b' o e => by rw [upd_ne (ne_of_none e hda0)]; exact s1 _ _ e
        have hF2 : (upd H1 da (.lst (wordsV D'))) fa = some (.dK (foundV F)) := by rw [upd_ne hdfa]; exact hF
        have hD2 : (upd H1 da (.lst (wordsV D'))) da = some (.lst (wordsV D')) := upd_same
        refine ⟨_, rfl, _, rfl, rfl, _, rfl, if_b (fun c1 => ?_) (fun c1 => ?_)⟩
        · have c1 : u = goal := by
            have : decide (V.str (tx u) = V.str (tx goal)) = true := c1
            rw [tx_eq] at this
            exact of_decide_eq_true this
          subst c1
          exact q1 (hre u (.inr (by simp))) _ s2
        · have c1 : u ≠ goal := by
            have : decide (V.str (tx u) = V.str (tx goal)) = false := c1
            rw [tx_eq] at this
            exact of_decide_eq_false this
          refine ⟨_, rfl, _, rfl, fa, _, rfl, DGet.k (k := .inr (tx u)) hF2, _, rfl, ?_⟩
          rw [found_has]
          refine if_b (fun c2 => ?_) (fun c2 => ?_)
          · have c2 : F.contains u = false := by simpa only [Bool.not_eq_true'] using c2
            have huF : u ∉ F := by simpa using c2
            obtain ⟨d, hdm, rfl⟩ := Pb.mem_of_has huh
            have hul := uses_len hgood hdm
            have hFl2 : (F ++ [d.name]).length ≤ b.length := by
              have := Pb.nodup_sub_length (o := F ++ [d.name]) (l := b.map (·.name)) (by
                rw [List.nodup_append]
                refine ⟨hnd, by simp, fun x hx y hy => ?_⟩
                rw [List.mem_singleton.mp hy]
                rintro rfl
                exact huF hx) fun x hx => by
                rcases List.mem_append.mp hx with hx | hx
                · exact Pb.has_iff.mp (hFh x hx)
                · rw [List.mem_singleton.mp hx]; exact Pb.has_iff.mp huh
              simpa using this
            refine ⟨_, rfl, _, rfl, fa, _, rfl, DPut.k (k := .inr (tx d.name)) hF2 (by rw [foundV, List.length_map, szL]; omega), ?_⟩
            rw [found_put F d.name c2]
            have s3 : Same H (upd (upd H1 da (.lst (wordsV D'))) fa (.dK (foundV (F ++ [d.name])))) := fun b' o e => by rw [upd_ne (ne_of_none e hfa)]; exact s2 _ _ e
            have hD3 : (upd (upd H1 da (.lst (wordsV D'))) fa (.dK (foundV (F ++ [d.name])))) da = some (.lst (wordsV D')) := by rw [upd_ne hdfa.symm]; exact hD2
            obtain ⟨x, hx, hxd⟩ := hB.mem hgood.nd hdm
            refine ⟨_, rfl, .inl ⟨rfl, _, SqL.of hD3⟩, _, rfl, _, rfl, a, x, rfl, by rw [← hx]; exact DGet.k (k := .inr (tx d.name)) (s3 _ _ ha), _, d, rfl, hxd.mono s3, fun c hc => ?_⟩
            refine ⟨da, c, _, _, rfl, rfl, hD3, hc, ?_, ?_⟩
            · rw [words_len, words_len, szL]
              simp only [List.length_append, List.length_singleton] at hDl hFl2
              omega
            · have hwD2 : wordsV D' ++ wordsV (usesD d) = wordsV (D' ++ usesD d) := by simp [wordsV]
              rw [hwD2]
              have huses := Pb.uses_mem hgood.nd hdm
              refine ⟨F ++ [d.name], D' ++ usesD d, _, ?_, rfl, fun b' o e => by rw [upd_ne (ne_of_none e hda0)]; exact s3 _ _ e, by rw [upd_ne hdfa, upd_same], upd_same, ?_, ?_, ?_, ?_, ?_, ?_, ?_, ?_⟩
              · simp only [List.length_append, List.length_singleton] at hFl2 ⊢
                omega
              · rw [List.nodup_append]
                refine ⟨hnd, by simp, fun x hx y hy => ?_⟩
                rw [List.mem_singleton.mp hy]
                rintro rfl
                exact huF hx
              · intro z
                rcases List.mem_append.mp z with z | z
                · exact hgo z
                · exact c1 (List.mem_singleton.mp z).symm
              · simp only [List.length_append, List.length_singleton] at hDl ⊢
                omega
              · intro x hx
                rcases List.mem_append.mp hx with hx | hx
                · exact hFh x hx
                · rw [List.mem_singleton.mp hx]; exact huh
              · intro x hx
                rcases List.mem_append.mp hx with hx | hx
                · exact hDh x (by simp [hx])
                · exact hgood.closed d hdm x hx
              · intro x hx
                rcases hls x hx with z | z
                · exact .inl (by simp [z])
                · rcases List.mem_append.mp z with z | z
                  · exact .inr (by simp [z])
                  · exact .inl (by simp [List.mem_singleton.mp z])
              · intro x hx y hy
                rcases List.mem_append.mp hx with hx | hx
                · rcases hcl x hx y hy with z | z
                  · exact .inl (by simp [z])
                  · rcases List.mem_append.mp z with z | z
                    · exact .inr (by simp [z])
                    · exact .inl (by simp [List.mem_singleton.mp z])
                · rw [List.mem_singleton.mp hx, huses] at hy
                  exact .inr (by simp [hy])
              · intro x hx
                have old : ∀ z, z ∈ F ∨ z ∈ D' ++ [d.name] → ∃ v ∈ l, Reach b v z := hre
                rcases hx with hx | hx
                · rcases List.mem_append.mp hx with hx | hx
                  · exact old x (.inl hx)
                  · rw [List.mem_singleton.mp hx]; exact old _ (.inr (by simp))
                · rcases List.mem_append.mp hx with hx | hx
                  · exact old x (.inr (by simp [hx]))
                  · obtain ⟨v, hv, r⟩ := old d.name (.inr (by simp))
                    exact ⟨v, hv, reach_snoc r (by rw [huses]; exact hx)⟩
          · have c2 : F.contains u = true := by simpa only [Bool.not_eq_false'] using c2
            have huF : u ∈ F := by simpa using c2
            refine ⟨F, D', _, by simp only [List.length_append, List.length_singleton]; omega, rfl, s2, hF2, hD2, hnd, hgo, by simp only [List.length_append, List.length_singleton] at hDl; omega, hFh, fun x hx => hDh x (by simp [hx]), fun x hx => ?_, fun x hx y hy => ?_, fun x hx => ?_⟩
            · rcases hls x hx with z | z
              · exact .inl z
              · rcases List.mem_append.mp z with z | z
                · exact .inr z
                · rw [List.mem_singleton.mp z]; exact .inl huF
            · rcases hcl x hx y hy with z | z
              · exact .inl z
              · rcases List.mem_append.mp z with z | z
                · exact .inr z
                · rw [List.mem_singleton.mp z]; exact .inl huF
            · rcases hx with hx | hx
              · exact hre x (.inl hx)
              · exact hre x (.inr (by simp [hx]))
    · have hDe : D = [] := by
        cases D with
        | nil => rfl
        | cons x r => exact absurd c (by simp [wordsV])
      subst hDe
      refine q0 ?_ _ s1
      rintro ⟨u, hu, r⟩
      refine hgo (Pb.reach_closed (F := fun w => w ∈ F) (fun x hx y hy => ?_) r ?_)
      · rcases hcl x hx y hy with z | z
        · exact z
        · cases z
      · rcases hls u hu with z | z
        · exact z
        · cases z
/-! ### is_ready, first_ready, entry_order -/
abbrev s_is_ready : Stmt := top 53
abbrev n_is_ready : List Str := ["definition", "done", "name"]
theorem sc_is_ready : FnScope n_is_ready ["definition", "done"] (defScope s_is_ready) := ⟨rfl, rfl, rfl, by decide +kernel, rfl, by decide +kernel, by decide +kernel⟩

def sp_is_ready : Sp := fun vs H Q _ => ∃ (v : V) (o : Addr) (d : Def) (done : List Bytes), vs = [v, .ref o] ∧ DefAt H v d ∧ H o = some (.lst (wordsV done)) ∧ (usesD d).length ≤ 10000 ∧ ∀ H', Same H H' → Q (.bl ((usesD d).all done.contains)) H'
theorem ok_is_ready {f : Addr} {fd : FuncData} (F : Fun K "is_ready" "is_ready" s_is_ready f fd) (T : Txt K w mg aM aR aP aS aN aB) (f_names_used : Callee P w K mg base "names_used" 1 ["definition"] sp_names_used) : FnOk P w K mg base CX0 2 f fd ["definition", "done"] sp_is_ready := by
  refine F.ok sc_is_ready (fun vs H Q E h => ?_) (fun cdv A outer s H vs Q E hr h => ?_)
  · obtain ⟨v, o, d, done, rfl, _⟩ := h; rfl
  · obtain ⟨v, o, d, done, rfl, hd, ho, hl, q⟩ := h
    refine ⟨_, (pss_one (ps_ret (pe_callB (cr_all rfl) (by rfl) T.b_all (by decide +kernel) (pa_cons (pe_lc (own := [("name", 2)]) (g := gName 2) rfl sc_is_ready.nd (pi_list (pe_do f_names_used hr (by decide) (by rfl) (pa_cons (pv 0) pa_nil))) (blkOk_by (own := [("name", 2)]) (N := n_is_ready) (sc := defScope s_is_ready) (by decide +kernel)) (fun _ _ _ _ _ => pg_name (i := 2) sc_is_ready.nd rfl (Or.inl rfl)) (fun _ _ _ _ _ => pts_nil) (fun _ _ _ _ _ => (pe_cmpR (op_in_seqK K) (pv 2) (pv 1) rfl))) pa_nil)))), ?_⟩
    refine ⟨_, rfl, _, d, rfl, hd, fun c hc => ⟨c, rfl, ⟨_, SqL.of hc⟩, fun D hD => ?_⟩⟩
    refine lc_vals (xs := wordsV (usesD d)) (ys := (usesD d).map fun u => V.bl (done.contains u)) (SqL.of hc) hD (by rw [List.length_map, words_len]) (by rw [words_len]; omega) (fun _ => rfl) (fun i x y H' Q' hx hy s' k => ?_) (fun H' s' hD' => ?_)
    · unfold wordsV at hx
      rw [List.getElem?_map] at hx hy
      cases hu : (usesD d)[i]? with
      | none => rw [hu] at hx; cases hx
      | some u =>
        rw [hu] at hx hy
        cases hx
        cases hy
        refine ⟨_, rfl, _, rfl, o, _, rfl, .inl (SqL.of (s' _ _ ho)), rfl, flat_words _, ?_⟩
        show Q' (.bl (inV (.str (tx u)) (wordsV done))) H'
        rw [inV_words]
        exact k _ (Same.refl _)
    · refine ⟨D, (usesD d).map done.contains, rfl, by rw [List.map_map]; exact SqL.of hD', ?_⟩
      rw [List.all_map]
      exact q H' s'
abbrev s_first_ready : Stmt := top 52
abbrev n_first_ready : List Str := ["definitions", "done", "ready", "name"]
theorem sc_first_ready : FnScope n_first_ready ["definitions", "done"] (defScope s_first_ready) := ⟨rfl, rfl, rfl, by decide +kernel, rfl, by decide +kernel, by decide +kernel⟩

def sp_first_ready : Sp := fun vs H Q _ => ∃ (a o : Addr) (kvs : List (Key × V)) (b : Book) (done : List Bytes) (d : Def), vs = [.ref a, .ref o] ∧ H a = some (.dK kvs) ∧ BookKV H kvs b ∧ Good b ∧ H o = some (.lst (wordsV done)) ∧ b.find? (ready done) = some d ∧ ∀ H', Same H H' → Q (.str (tx d.name)) H'
theorem ok_first_ready {f : Addr} {fd : FuncData} (F : Fun K "first_ready" "first_ready" s_first_ready f fd) (T : Txt K w mg aM aR aP aS aN aB) (f_is_ready : Callee P w K mg base "is_ready" 2 ["definition", "done"] sp_is_ready) : FnOk P w K mg base CX0 3 f fd ["definitions", "done"] sp_first_ready := by
  refine F.ok sc_first_ready (fun vs H Q E h => ?_) (fun cdv A outer s H vs Q E hr h => ?_)
  · obtain ⟨a, o, kvs, b, done, d, rfl, _⟩ := h; rfl
  · have hu := hu_of hr
    obtain ⟨a, o, kvs, b, done, d, rfl, ha, hB, hgood, ho, hf, q⟩ := h
    refine ⟨_, (pss_cons (ps_lock (ps_setLc (i := 2) (own := [("name", 3)]) (g := gName 3) rfl sc_first_ready.nd rfl rfl (sw_true rfl rfl rfl (by decide +kernel)) (pi_keys (pv 0)) (blkOk_by (own := [("name", 3)]) (N := n_first_ready) (sc := defScope s_first_ready) (by decide +kernel)) (fun _ _ _ _ _ => pg_name (i := 3) sc_first_ready.nd rfl (Or.inl rfl)) (fun _ _ _ _ _ => pts_one (PW.pt (pw_and (pt_cmpR (op_notIn_seqK K) (pv 3) (pv 1) rfl) (pw_and1 (pt_val (pe_do f_is_ready hr (by decide) (by rfl) (pa_cons (pe_dget hu (pv 0) (pv 3) (fun _ _ => rfl)) (pa_cons (pv 1) pa_nil)))))))) (fun _ _ _ _ _ => (pv 3)))) (pss_one (ps_ret (pe_ix ix_list (pv 2) pe_int (fun _ _ => rfl))))), ?_⟩
    have hlen := hB.len
    have h12 := hgood.len
    have d12 : Cp12.DEFS = 12 := rfl
    have hoa : o ≠ a := ne_of ho ha (by simp)
    refine ⟨a, _, ha, trivial, fun od => ⟨_, rfl, a, od, rfl, .inl ⟨kvs, upd_same, fun D hD => ?_⟩⟩⟩
    have hB' := (BookKV.del ha hB).mono (del_upd H a (.frz od (.dK kvs)))
    have hDa : D ≠ a := fun z => by rw [z, upd_same] at hD; cases hD
    have hkey := keys_kept hB (ready done)
    refine lc_keys (keep := fun i => (b[i]?.map (ready done)).getD false) upd_same hD (by omega) (fun _ => rfl) (fun i k v H' Q' hkv s' kk => ?_) (fun x H' Q' q => ⟨_, rfl, q⟩) (fun H' s' hD' => ?_)
    · obtain ⟨d1, hd1, rfl, hdv⟩ := hB'.at hkv
      have hdm : d1 ∈ b := List.mem_of_getElem? hd1
      obtain ⟨x, hx, hxd⟩ := hB'.mem hgood.nd hdm
      have ho' : H' o = some (.lst (wordsV done)) := s' _ _ (by rw [upd_ne hoa]; exact ho)
      have kk' : ∀ H'', Same H' H'' → Q' (ready done d1) H'' := by
        have : (b[i]?.map (ready done)).getD false = ready done d1 := by rw [hd1]; rfl
        rw [this] at kk
        exact kk
      refine ⟨_, rfl, _, rfl, o, _, rfl, .inl (SqL.of ho'), rfl, flat_words _, _, rfl, if_b (fun c => ?_) (fun c => ?_)⟩
      · have c : done.contains d1.name = false := by
          have : (!inV (.str (tx d1.name)) (wordsV done)) = true := c
          rw [inV_words] at this
          simpa only [Bool.not_eq_true'] using this
        refine ⟨_, rfl, _, rfl, a, x, rfl, by rw [← hx]; exact .inl ⟨kvs, .inr (tx d1.name), .inr ⟨od, s' _ _ upd_same⟩, rfl, rfl⟩, _, rfl, _, o, d1, done, rfl, hxd.mono s', ho', by have := uses_len hgood hdm; omega, fun H'' s'' => ⟨_, rfl, ?_⟩⟩
        have := kk' H'' s''
        unfold Pb.ready at this
        rw [c] at this
        exact this
      · have c : done.contains d1.name = true := by
          have : (!inV (.str (tx d1.name)) (wordsV done)) = false := c
          rw [inV_words] at this
          simpa only [Bool.not_eq_false'] using this
        have := kk' H' (Same.refl _)
        unfold Pb.ready at this
        rw [c] at this
        exact this
    · refine ⟨s' _ _ upd_same, ?_⟩
      have hD2 : (upd H' a (.dK kvs)) D = some (.lst (wordsV ((b.filter (ready done)).map (·.name)))) := by rw [upd_ne hDa, hD', hkey]
      have hh : (b.filter (ready done)).head? = some d := by rw [List.head?_filter]; exact hf
      obtain ⟨r, hr2⟩ : ∃ r, b.filter (ready done) = d :: r := by
        cases hfl : b.filter (ready done) with
        | nil => rw [hfl] at hh; cases hh
        | cons x r => rw [hfl] at hh; cases hh; exact ⟨r, rfl⟩
      rw [hr2] at hD2
      exact ⟨_, rfl, D, _, 0, _, rfl, rfl, SqL.of hD2, atI_nat (j := 0) rfl, q _ (unlock ha s')⟩
abbrev s_entry_order : Stmt := top 51
abbrev n_entry_order : List Str := ["definitions", "order"]
theorem sc_entry_order : FnScope n_entry_order ["definitions"] (defScope s_entry_order) := ⟨rfl, rfl, rfl, by decide +kernel, rfl, by decide +kernel, by decide +kernel⟩

def sp_entry_order : Sp := fun vs H Q _ => ∃ (a : Addr) (kvs : List (Key × V)) (b : Book), vs = [.ref a] ∧ H a = some (.dK kvs) ∧ BookKV H kvs b ∧ Good b ∧ ∀ H' p, Same H H' → H p = none → H' p = some (.lst (wordsV (orderP b b.length []))) → Q (.ref p) H'
theorem ok_entry_order {f : Addr} {fd : FuncData} (F : Fun K "entry_order" "entry_order" s_entry_order f fd) (T : Txt K w mg aM aR aP aS aN aB) (f_first_ready : Callee P w K mg base "first_ready" 3 ["definitions", "done"] sp_first_ready) : FnOk P w K mg base CX0 4 f fd ["definitions"] sp_entry_order := by
  refine F.ok sc_entry_order (fun vs H Q E h => ?_) (fun cdv A outer s H vs Q E hr h => ?_)
  · obtain ⟨a, kvs, b, rfl, _⟩ := h; rfl
  · obtain ⟨a, kvs, b, rfl, ha, hB, hgood, q⟩ := h
    refine ⟨_, (pss_cons (ps_set (i := 1) sc_entry_order.nd rfl (Or.inl rfl) (pe_lst pa_nil)) (pss_cons (ps_while PassesOwn.never (pt_cmpR op_lt (pe_callB call_len_seq (by rfl) T.b_len (by decide +kernel) (pa_cons (pv 1) pa_nil)) (pe_callB call_lenD (by rfl) T.b_len (by decide +kernel) (pa_cons (pv 0) pa_nil)) (nomark _)) (pss_one (ps_expr (pe_bm PySem.F.plainAttrs_list PySem.F.slot_list_append PySem.F.type_list_append mt_append (pv 1) (pa_cons (pe_do f_first_ready hr (by decide) (by rfl) (pa_cons (pv 0) (pa_cons (pv 1) pa_nil))) pa_nil))))) (pss_one (ps_ret (pv 1))))), ?_⟩
    have hlen := hB.len
    have h12 := hgood.len
    have d12 : Cp12.DEFS = 12 := rfl
    refine ⟨Nat.zero_le _, fun p hp => ?_⟩
    refine ⟨fun m σ H1 => ∃ o : List Bytes, m = b.length - o.length ∧ σ = [some (.ref a), some (.ref p)] ∧ Same H H1 ∧ H1 p = some (.lst (wordsV o)) ∧ Pb.Ord b o ∧ o.length ≤ b.length ∧ orderP b b.length [] = orderP b (b.length - o.length) o,
      ⟨b.length, [], rfl, rfl, same_new hp, upd_same, Pb.Ord.nil b, Nat.zero_le _, rfl⟩, ?_⟩
    rintro m σ H1 ⟨o, rfl, rfl, s1, ho, hO, hol, heq⟩
    refine ⟨_, rfl, p, _, rfl, .inl (SqL.of ho), _, rfl, a, kvs, rfl, s1 _ _ ha, _, _, rfl, rfl, _, rfl, if_b (fun c => ?_) (fun c => ?_)⟩
    · have c : o.length < b.length := by have := of_decide_eq_true c; rw [words_len] at this; omega
      obtain ⟨d, hd⟩ := Pb.exists_ready hgood (hO.open hgood.nd c)
      refine ⟨fun σ' H2 => ∃ o2 : List Bytes, o2.length = o.length + 1 ∧ σ' = [some (.ref a), some (.ref p)] ∧ Same H H2 ∧ H2 p = some (.lst (wordsV o2)) ∧ Pb.Ord b o2 ∧ o2.length ≤ b.length ∧ orderP b b.length [] = orderP b (b.length - o2.length) o2, ?_, ?_⟩
      · rintro σ' H2 ⟨o2, h1, h2⟩
        exact ⟨b.length - o2.length, by omega, o2, rfl, h2⟩
      · refine ⟨_, rfl, .inl ⟨rfl, _, SqL.of ho⟩, _, rfl, _, rfl, a, p, kvs, b, o, d, rfl, s1 _ _ ha, hB.mono s1, hgood, ho, hd, fun H2 s2 => ?_⟩
        refine ⟨p, _, _, rfl, rfl, s2 _ _ ho, by rw [words_len, szL]; omega, ?_⟩
        refine ⟨o ++ [d.name], by simp, rfl, fun b' x e => by rw [upd_ne (ne_of_none e hp)]; exact s2 _ _ (s1 _ _ e), by rw [upd_same]; simp [wordsV], hO.snoc hd, by simp; omega, ?_⟩
        rw [heq]
        obtain ⟨k, hk⟩ : ∃ k, b.length - o.length = k + 1 := ⟨b.length - o.length - 1, by omega⟩
        have hk2 : b.length - (o ++ [d.name]).length = k := by simp; omega
        rw [hk, hk2]
        simp only [Pb.orderP, hd]
    · have c : b.length ≤ o.length := by have := of_decide_eq_false c; rw [words_len] at this; omega
      have : b.length - o.length = 0 := by omega
      rw [this] at heq
      have heq : orderP b b.length [] = o := heq
      rw [heq] at q
      exact ⟨_, rfl, q _ _ s1 hp ho⟩
/-! ### definition_line, lines_of -/
abbrev s_definition_line : Stmt := top 55
abbrev n_definition_line : List Str := ["definition", "lines"]
theorem sc_definition_line : FnScope n_definition_line ["definition", "lines"] (defScope s_definition_line) := ⟨rfl, rfl, rfl, by decide +kernel, rfl, by decide +kernel, by decide +kernel⟩

def sp_definition_line : Sp := fun vs H Q _ => ∃ (v : V) (la : Addr) (d : Def) (g : Bytes → Option Line) (f : Bytes → Line) (kvs : List (Key × V)) (G : Hp), vs = [v, .ref la] ∧ Same G H ∧ DefAt G v d ∧ okD d ∧ H la = some (.dK kvs) ∧ Pb.Tells g f (usesD d) ∧
  (∀ u ∈ usesD d, ∃ x, valV kvs (.inr (tx u)) = some x ∧ LineAt G x (f u)) ∧ ∀ r G' H', Grow G H G' H' → OptR LineAt G' r (lineD g d) → Q r H'
theorem ok_definition_line {f : Addr} {fd : FuncData} (F : Fun K "definition_line" "definition_line" s_definition_line f fd) (T : Txt K w mg aM aR aP aS aN aB) (f_expression_value : Callee P w K mg base "expression_value" 4 ["steps", "lines"] sp_expression_value) : FnOk P w K mg base CX0 5 f fd ["definition", "lines"] sp_definition_line := by
  refine F.ok sc_definition_line (fun vs H Q E h => ?_) (fun cdv A outer s H vs Q E hr h => ?_)
  · obtain ⟨v, la, d, g, f, kvs, G, rfl, _⟩ := h; rfl
  · obtain ⟨v, la, d, g, f, kvs, G, rfl, hG, ⟨a, bv, c, rfl, h1, h2, h3⟩, hok, hla, htell, hlines, q⟩ := h
    refine ⟨_, (pss_cons (ps_if (pt_cmpR op_eq (pe_ix ix_tup (pv 0) pe_int (fun _ _ => rfl)) pe_str (nomark _)) (pss_one (ps_ret (pe_ix ix_tup (pv 0) pe_int (fun _ _ => rfl)))) pss_nil) (pss_one (ps_ret (pe_do f_expression_value hr (by decide) (by rfl) (pa_cons (pe_ix ix_tup (pv 0) pe_int (fun _ _ => rfl)) (pa_cons (pv 1) pa_nil)))))), ?_⟩
    obtain ⟨n, bd⟩ := d
    refine ⟨_, rfl, a, _, 0, _, rfl, rfl, SqT.of (hG _ _ h1), atI_nat (j := 0) rfl, rfl, _, rfl, ?_⟩
    rw [eq_lit]
    cases bd with
    | theme l =>
      refine if_t (show decide (ascii "theme" = ascii "theme") = true by decide) ?_
      exact ⟨_, rfl, a, _, 1, _, rfl, rfl, SqT.of (hG _ _ h1), atI_nat (j := 1) rfl, q _ _ _ (Grow.refl hG) h3⟩
    | part e =>
      refine if_f (show decide (ascii "part" = ascii "theme") = false by decide) ?_
      refine ⟨_, rfl, a, _, 1, _, rfl, rfl, SqT.of (hG _ _ h1), atI_nat (j := 1) rfl, _, rfl, _, la, e, g, f, kvs, G, rfl, hG, h3.1, hok.2, by have := h3.2; omega, hla, fun u hu => htell u ((Pb.mem_usesD rfl).mpr hu), fun u hu => hlines u ((Pb.mem_usesD rfl).mpr hu), q⟩
/-- the pairs of a dict of lines -/
def LinesKV (G : Hp) (kvs : List (Key × V)) (b : Book) : Prop := kvs.length ≤ 12 ∧ ∀ d ∈ b, ∃ x l, valV kvs (.inr (tx d.name)) = some x ∧ LineAt G x l ∧ Cp12.line b d.name = some l ∧ Cp12.fine l = true
theorem LinesKV.mono {G G' : Hp} {kvs : List (Key × V)} {b : Book} (s : Same G G') (h : LinesKV G kvs b) : LinesKV G' kvs b := ⟨h.1, fun d hd => by
  obtain ⟨x, l, h1, h2, h3⟩ := h.2 d hd
  exact ⟨x, l, h1, h2.mono s, h3⟩⟩
abbrev s_lines_of : Stmt := top 54
abbrev n_lines_of : List Str := ["definitions", "lines", "name", "line"]
theorem sc_lines_of : FnScope n_lines_of ["definitions"] (defScope s_lines_of) := ⟨rfl, rfl, rfl, by decide +kernel, rfl, by decide +kernel, by decide +kernel⟩

def sp_lines_of : Sp := fun vs H Q _ => ∃ (a : Addr) (kvs : List (Key × V)) (b : Book) (G : Hp), vs = [.ref a] ∧ Same G H ∧ H a = some (.dK kvs) ∧ BookKV G kvs b ∧ Good b ∧ (Cp12.whole b = false → ∀ H', Same H H' → Q .non H') ∧
  (Cp12.whole b = true → ∀ la lkvs G' H', Grow G H G' H' → G' la = some (.dK lkvs) → LinesKV G' lkvs b → Q (.ref la) H')
theorem ok_lines_of {f : Addr} {fd : FuncData} (F : Fun K "lines_of" "lines_of" s_lines_of f fd) (T : Txt K w mg aM aR aP aS aN aB) (f_entry_order : Callee P w K mg base "entry_order" 4 ["definitions"] sp_entry_order) (f_definition_line : Callee P w K mg base "definition_line" 5 ["definition", "lines"] sp_definition_line) : FnOk P w K mg base CX0 6 f fd ["definitions"] sp_lines_of := by
  refine F.ok sc_lines_of (fun vs H Q E h => ?_) (fun cdv A outer s H vs Q E hr h => ?_)
  · obtain ⟨a, kvs, b, G, rfl, _⟩ := h; rfl
  · have hu := hu_of hr
    obtain ⟨a, kvs, b, G, rfl, hG, ha, hB, hgood, q0, q1⟩ := h
    refine ⟨_, (pss_cons (ps_set (i := 1) sc_lines_of.nd rfl (Or.inl rfl) pe_dnewK) (pss_cons (ps_for PassesOwn.never rfl (pi_list (pe_do f_entry_order hr (by decide) (by rfl) (pa_cons (pv 0) pa_nil))) (pg_name (i := 2) sc_lines_of.nd rfl (Or.inl rfl)) (pss_cons (ps_set (i := 3) sc_lines_of.nd rfl (Or.inl rfl) (pe_do f_definition_line hr (by decide) (by rfl) (pa_cons (pe_dget hu (pv 0) (pv 2) (fun _ _ => rfl)) (pa_cons (pv 1) pa_nil)))) (pss_cons (ps_if (pt_cmpR op_isN (pv 3) pe_non (nomark _)) (pss_one (ps_ret pe_non)) pss_nil) (pss_one (ps_dput hu (pv 1) (pv 2) (pv 3) rfl))))) (pss_one (ps_ret (pv 1))))), ?_⟩
    have h12 := hgood.len
    have d12 : Cp12.DEFS = 12 := rfl
    obtain ⟨hO, hOl⟩ := Pb.orderP_ord hgood b.length [] (Pb.Ord.nil b) (by simp)
    have hall := hO.all hgood.nd (by omega)
    refine fun la hla => ?_
    have s0 : Same H (upd H la (.dK [])) := same_new hla
    have hBH := hB.mono hG
    refine ⟨_, rfl, a, kvs, b, rfl, s0 _ _ ha, hBH.mono s0, hgood, fun H1 p s1 hp0 hp1 => ?_⟩
    generalize orderP b b.length [] = ord at hO hOl hall hp1
    have hp00 : H p = none := s0.free hp0
    have hla1 : H1 la = some (.dK []) := s1 _ _ upd_same
    have hpla : p ≠ la := fun z => by rw [z, upd_same] at hp0; cases hp0
    have g1 : Grow G H G H1 := Grow.of hG (s0.trans s1)
    refine ⟨p, rfl, ⟨_, SqL.of hp1⟩, for_list (K := K) (a := p) (xs := wordsV ord) (fun i σ H2 => ∃ (y2 y3 : Option V) (G2 : Hp) (lk : List (Key × V)), σ = [some (.ref a), some (.ref la), y2, y3] ∧ Grow G H G2 H2 ∧ G2 la = none ∧ H2 la = some (.dK lk) ∧ H2 p = some (.lst (wordsV ord)) ∧ lk.length ≤ i ∧
        ∀ u ∈ ord.take i, ∃ x l, valV lk (.inr (tx u)) = some x ∧ LineAt G2 x l ∧ Cp12.line b u = some l ∧ Cp12.fine l = true)
      ⟨none, none, G, [], rfl, g1, hG.free hla, hla1, hp1, Nat.le_refl _, by simp⟩ (fun i σ H2 _ ⟨_, _, _, _, _, _, _, _, h, _⟩ => SqL.of h) (fun i x σ H2 hx ⟨y2, y3, G2, lk, es, g2, gla, hlk, hp2, hlkl, hls⟩ => ?_) (fun σ H2 ⟨y2, y3, G2, lk, es, g2, gla, hlk, hp2, hlkl, hls⟩ => ?_)⟩
    · subst es
      have hi : i < ord.length := by have := (List.getElem?_eq_some_iff.mp hx).1; rw [words_len] at this; exact this
      have hw : ord[i]? = some ord[i] := List.getElem?_eq_getElem hi
      have hx' := words_get hw
      rw [hx] at hx'
      cases hx'
      obtain ⟨d, hdm, hdn, hus⟩ := hO.topo i _ hw
      rw [← hdn]
      have hfix := Pb.line_fix hgood hdm
      obtain ⟨x, hx1, hxd⟩ := hB.mem hgood.nd hdm
      have htell : Pb.Tells (Cp12.line b) (fun u => (Cp12.line b u).getD []) (usesD d) := fun u hu => by
        obtain ⟨_, l, _, _, h3, h4⟩ := hls u (hus u hu)
        show Cp12.line b u = some ((Cp12.line b u).getD []) ∧ Cp12.fine ((Cp12.line b u).getD []) = true
        rw [h3]; exact ⟨rfl, h4⟩
      refine ⟨_, rfl, _, rfl, a, x, rfl, by rw [← hx1]; exact DGet.k (k := .inr (tx d.name)) (g2.h _ _ ha), _, rfl, _, la, d, Cp12.line b, fun u => (Cp12.line b u).getD [], lk, G2, rfl, g2.i, hxd.mono g2.g, hgood.ok d hdm, hlk, htell, fun u hu => ?_, fun r G3 H3 g3 hr3 => ?_⟩
      · obtain ⟨x, l, h1, h2, h3, _⟩ := hls u (hus u hu)
        refine ⟨x, h1, ?_⟩
        show LineAt G2 x ((Cp12.line b u).getD [])
        rw [h3]; exact h2
      · rw [← hfix] at hr3
        have gla3 : G3 la = none := g3.out hlk gla
        cases hl : Cp12.line b d.name with
        | none =>
          rw [hl] at hr3
          obtain rfl : r = .non := hr3
          refine ⟨_, rfl, rfl, _, rfl, q0 ?_ _ (g2.trans g3).h⟩
          unfold Cp12.whole
          rw [List.all_eq_false]
          exact ⟨d, hdm, by rw [hl]; decide⟩
        | some l =>
          rw [hl] at hr3
          have hr3 : LineAt G3 r l := hr3
          have hr3' := hr3
          obtain ⟨ra, rs, rfl, _⟩ := hr3'
          have hfine : Cp12.fine l = true := by
            rw [hfix] at hl
            have hok := hgood.ok d hdm
            obtain ⟨n, bd⟩ := d
            cases bd with
            | theme l' =>
              have : l' = l := Option.some.inj hl
              subst this
              exact hok.2.1
            | part e => exact Pb.value_fine e l hok.2 (fun u hu => htell u ((Pb.mem_usesD rfl).mpr hu)) hl
          refine ⟨_, rfl, rfl, _, rfl, _, rfl, _, rfl, _, rfl, la, _, rfl, DPut.k (k := .inr (tx d.name)) (g3.h _ _ hlk) (by rw [szL]; omega), ?_⟩
          refine ⟨_, _, G3, _, rfl, (g2.trans g3).set hla gla3, gla3, upd_same, by rw [upd_ne hpla]; exact g3.h _ _ hp2, ?_, fun u hu => ?_⟩
          · have := putK_len lk (.inr (tx d.name)) (V.ref ra)
            omega
          · rw [take_more hw] at hu
            by_cases c : u = d.name
            · subst c
              exact ⟨_, l, valV_put_same _ _ _, hr3, hl, hfine⟩
            · rcases List.mem_append.mp hu with hu | hu
              · obtain ⟨x, l', h1, h2, h3⟩ := hls u hu
                refine ⟨x, l', ?_, h2.mono g3.g, h3⟩
                rw [valV_put_other _ _ (fun z => c (tx_inj (Sum.inr.inj z)))]
                exact h1
              · exact absurd ((List.mem_singleton.mp hu).trans hdn.symm) c
    · subst es
      rw [words_len, List.take_length] at hls
      have hwhole : Cp12.whole b = true := by
        unfold Cp12.whole
        rw [List.all_eq_true]
        intro d hd
        obtain ⟨_, l, _, _, h3, _⟩ := hls d.name (hall d hd)
        rw [h3]; rfl
      refine ⟨_, rfl, q1 hwhole la lk _ _ (g2.put hla hlk gla) upd_same ⟨by rw [words_len] at hlkl; omega, fun d hd => ?_⟩⟩
      obtain ⟨x, l, h1, h2, h3⟩ := hls d.name (hall d hd)
      exact ⟨x, l, h1, h2.mono (same_new gla), h3⟩
end
end Pbd
/-! zip(tuple, list) -/
namespace Pbd
open PySem PySem.Spec PyProof.Rows L2 TL
def ItzM (K : PySem.W.Frag) (a b : Addr) : It :=
  ⟨fun i H => ∃ xs ys : List V, SqT K H a xs ∧ SqL K H b ys ∧ i < min xs.length ys.length,
   fun i H v H' => ∃ (T : Addr) (x y : V), v = V.ref T ∧ H T = none ∧ H' = upd H T (HO.tup [x, y]) ∧ (∀ xs, SqT K H a xs → xs[i]? = some x) ∧ (∀ ys, SqL K H b ys → ys[i]? = some y),
   fun i H => ∃ xs ys : List V, SqT K H a xs ∧ SqL K H b ys ∧ i = min xs.length ys.length⟩
/-- the cells of a zip made when the heap had N objects -/
def zipAt (N : Nat) (a b : Addr) (i : Nat) (h : Heap) : Prop :=
  IsZip h (N + 4) (N + 2) (N + 3) .none ∧ IsTupOf2 h (N + 2) (.ref N) (.ref (N + 1)) ∧ (∃ c d, IsTupOf2 h (N + 3) c d) ∧ h.IsTupleIter N a i ∧ h.IsListIter (N + 1) b i
def zipCells (N : Nat) : List Addr := [N + 4, N + 2, N + 3, N, N + 1]
theorem zip_cells {N : Nat} {c : Addr} (h : c ∈ zipCells N) : c = N + 4 ∨ c = N + 2 ∨ c = N + 3 ∨ c = N ∨ c = N + 1 := by simpa [zipCells] using h
theorem turn_zipM {P : Program} {w : World} {K : PySem.W.Frag} {elts : List Expr} {kk : Nat} {tpos : Pos} {N : Nat} {a b : Addr} (ha : a < N) (hb : b < N) : Turn P w K (.Tuple elts kk tpos) (ItzM K a b) (zipCells N) (N + 4) (zipAt N a b) := by
  have S := zip_sep2 (N := N) (fp1 := [a]) (fp2 := [b]) (fun c hc => by rw [List.mem_singleton.mp hc]; exact ha) (fun c hc => by rw [List.mem_singleton.mp hc]; exact hb)
  have na : a ≠ N := Nat.ne_of_lt ha
  have nb : b ≠ N + 1 := Nat.ne_of_lt (Nat.lt_succ_of_lt hb)
  have wr : ∀ c, c ∉ zipCells N → c ∉ ([N + 4, N + 3, N, N + 1] : List Addr) := fun c hc hm => hc (by
    have : c = N + 4 ∨ c = N + 3 ∨ c = N ∨ c = N + 1 := by simpa using hm
    unfold zipCells
    rcases this with rfl | rfl | rfl | rfl <;> simp)
  refine ⟨by simp [zipCells], fun i h st c hc => ?_, fun i h h' st k => ?_, ?_, ?_, fun A i s Q E st h => wpAny_pyIter_zip st.1 h⟩
  · obtain ⟨hz, hTI, ⟨x, y, hTO⟩, ⟨o1, e1, _, d1⟩, ⟨o2, e2, _, d2⟩⟩ := st
    rcases zip_cells hc with rfl | rfl | rfl | rfl | rfl
    · exact ⟨_, hz, fun v q => by cases q⟩
    · exact ⟨_, hTI, fun v q => by cases q⟩
    · exact ⟨_, hTO, fun v q => by cases q⟩
    · exact ⟨o1, e1, fun v q => by rw [d1] at q; cases q⟩
    · exact ⟨o2, e2, fun v q => by rw [d2] at q; cases q⟩
  · obtain ⟨hz, hTI, ⟨x, y, hTO⟩, h1, h2⟩ := st
    have m : ∀ j, j ∈ zipCells N → ∀ o, h.get? j = some o → h'.get? j = some o := k
    exact ⟨m _ (by simp [zipCells]) _ hz, m _ (by simp [zipCells]) _ hTI, ⟨x, y, m _ (by simp [zipCells]) _ hTO⟩, h1.at fun o e => m _ (by simp [zipCells]) o e, h2.at fun o e => m _ (by simp [zipCells]) o e⟩
  · intro X hP hw hK hc i pins s σ H E I hf st hg
    subst hP hw hK
    obtain ⟨hz, hTI, hTO, h1, h2⟩ := st
    obtain ⟨xs, ys, qx, qy, hlt⟩ := hg
    obtain ⟨us, rx, pt, _⟩ := I.tuple qx
    obtain ⟨vs, ry, pl, _⟩ := I.list qy
    have lx := rx.length
    have ly := ry.length
    have W := GoesN.zip2 (elts := elts) (x1 := kk) (pos := tpos) S (Draws.tuple (prog := X.prog) (w := X.w) (A := X.A.in1) (I.ok.hd hc) N a na us.toArray) (Draws.list (prog := X.prog) (w := X.w) (A := X.A.in1) (I.ok.hd hc) (N + 1) b nb vs.toArray)
    refine W.goes i s _ E (by simp only [List.size_toArray]; omega) ⟨hz, hTI, hTO, ⟨h1, pt⟩, h2, pl.isList⟩ fun v h' tk hY st' hk htk => ?_
    obtain ⟨T, x, y, rfl, hnew, hx, hy, hT⟩ := hY
    obtain ⟨z1, z2, z3, ⟨z4, _⟩, z5, _⟩ := st'
    have ex : xs[i]? = some xs[i] := List.getElem?_eq_getElem (by omega)
    have ey : ys[i]? = some ys[i] := List.getElem?_eq_getElem (by omega)
    obtain ⟨u1, e1, r1⟩ := rx.get ex
    obtain ⟨u2, e2, r2⟩ := ry.get ey
    have q1 : us[i]? = some x := by simpa using hx
    have q2 : vs[i]? = some y := by simpa using hy
    rw [q1] at e1
    rw [q2] at e2
    cases e1
    cases e2
    have hTn : H T = none := I.hok.fresh hnew
    refine ⟨V.ref T, upd H T (HO.tup [xs[i], ys[i]]), I.turnedNew (t' := tk) (ch := zipCells N) (fun c o hc e => hk c o (wr c hc) e) hf hnew ⟨(by show 2 ≤ sizeLine; decide), [x, y], .cons r1 (.cons r2 .nil), hT⟩, rfl,
      ⟨T, _, _, rfl, hTn, rfl, fun l hl => by rw [I.tuple_inj hl qx]; exact ex, fun l hl => by rw [I.list_inj hl qy]; exact ey⟩, ⟨z1, z2, z3, z4, z5⟩, fun c hcm => ?_⟩
    have hcs : c < s.heap.objs.size := by
      obtain ⟨c1, d1, hTO1⟩ := hTO
      rcases zip_cells hcm with rfl | rfl | rfl | rfl | rfl
      · exact Heap.lt_size hz
      · exact Heap.lt_size hTI
      · exact Heap.lt_size hTO1
      · obtain ⟨_, e, _⟩ := h1; exact Heap.lt_size e
      · obtain ⟨_, e, _⟩ := h2; exact Heap.lt_size e
    rw [upd_ne (Nat.ne_of_lt (Nat.lt_of_lt_of_le hcs hnew))]
    exact (hf c hcm).1
  · intro X hP hw hK hc i pins s σ H E I hf st hg
    subst hP hw hK
    obtain ⟨hz, hTI, hTO, h1, h2⟩ := st
    obtain ⟨xs, ys, qx, qy, hend⟩ := hg
    obtain ⟨us, rx, pt, _⟩ := I.tuple qx
    obtain ⟨vs, ry, pl, _⟩ := I.list qy
    have lx := rx.length
    have ly := ry.length
    have W := GoesN.zip2 (elts := elts) (x1 := kk) (pos := tpos) S (Draws.tuple (prog := X.prog) (w := X.w) (A := X.A.in1) (I.ok.hd hc) N a na us.toArray) (Draws.list (prog := X.prog) (w := X.w) (A := X.A.in1) (I.ok.hd hc) (N + 1) b nb vs.toArray)
    have hn : i = min us.toArray.size vs.toArray.size := by simp only [List.size_toArray]; omega
    subst hn
    exact W.stops s _ E ⟨hz, hTI, hTO, ⟨h1, pt⟩, h2, pl.isList⟩ fun h' tk hk htk => I.turnedL (t' := tk) (ch := zipCells N) (fun c o hc e => hk c o (wr c hc) e) hf
def iZipM (K : PySem.W.Frag) (ta : TA) : TI := fun σ H R => ta σ H fun vs H1 => ∃ (a b : Addr) (xs ys : List V), vs = [V.ref a, V.ref b] ∧ SqT K H1 a xs ∧ SqL K H1 b ys ∧ R (ItzM K a b) H1
theorem pi_zipM {X : Cx} {e e2 : Expr} {ta : TA} {p pos tpos : Pos} {elts : List Expr} {kk : Nat} (hg : Gl X "zip") (hm : X.mg "zip" = none) (ha : PA X [e, e2] ta)
    (hs : starEach [e, e2] X.env = (false, eval e X.env) :: starEach [e2] X.env := by rfl) (hpl : (backTo pos (starEach [e2] X.env)).any (·.1) = false := by rfl) :
    PI X (.Tuple elts kk tpos) (.Call (.Name "zip" p) [e, e2] [] pos) (iZipM X.K ta) := by
  refine ⟨fun pins s σ H R I h => Call_ (ld_blt I hg hm PyProof.Rows.boot_zip (PyProof.Rows.callWith_type1 (thn (ha.run pos pins s σ H _ I h) fun us s1 ⟨vs, H1, I1, r1, q1⟩ => ?_) hs hpl))⟩
  obtain ⟨a, b, xs, ys, rfl, qx, qy, q⟩ := q1
  obtain ⟨ua, ub, rfl, ra, rb⟩ : ∃ ua ub, us = [ua, ub] ∧ RelV (.ref a) ua ∧ RelV (.ref b) ub := by
    cases r1 with
    | cons h1 t =>
      cases t with
      | cons h2 t =>
        cases t
        exact ⟨_, _, rfl, h1, h2⟩
  obtain rfl : ua = Value.ref a := ra
  obtain rfl : ub = Value.ref b := rb
  obtain ⟨its, _, pt, _⟩ := I1.tuple qx
  obtain ⟨its2, _, pl, _⟩ := I1.list qy
  have la : a < s1.heap.objs.size := by obtain ⟨_, e, _⟩ := id pt; exact Heap.lt_size e
  have lb : b < s1.heap.objs.size := pl.lt
  refine zip_begins2 (begins_tuple a its.toArray) (begins_list b its2.toArray) pt pl.isList fun h' hz hTI hTO g1 g2 hsz hk => wpAny_pyIter_zip hz ?_
  refine ⟨s1.heap.objs.size + 4, zipCells s1.heap.objs.size, zipAt s1.heap.objs.size a b, ItzM X.K a b, H1, rfl, I1.kept (t' := s1.toks) hk, turn_zipM la lb, ⟨hz, hTI, ⟨_, _, hTO⟩, ⟨_, g1, rfl, rfl⟩, ⟨_, g2, rfl, rfl⟩⟩, fun c hc => ?_, q⟩
  have hle : s1.heap.objs.size ≤ c := by
    rcases zip_cells hc with rfl | rfl | rfl | rfl | rfl <;> first | exact Nat.le_add_right _ _ | exact Nat.le_refl _
  exact I1.fpOk hle (I1.hok.fresh hle)
/-- a loop over zip(tuple, list) -/
theorem for_zipM {K : PySem.W.Frag} {a b : Addr} {xs ys : List V} {g : TG} {tb : TS} {D : Ends} {σ : L2.St} {H : Hp} (Pv : Nat → L2.St → Hp → Prop) (h0 : Pv 0 σ H) (hq : ∀ i σ H, Pv i σ H → SqT K H a xs ∧ SqL K H b ys)
    (hs : ∀ (i : Nat) (x y : V) (T : Addr) (σ : L2.St) (H : Hp), xs[i]? = some x → ys[i]? = some y → Pv i σ H → H T = none → g (.ref T) σ (upd H T (.tup [x, y])) fun σ2 H2 => tb { D with nx := Pv (i + 1), ct := Pv (i + 1), bk := D.nx } σ2 H2)
    (hd : ∀ σ H, Pv (min xs.length ys.length) σ H → D.nx σ H) :
    ∃ W : Nat → Nat → L2.St → Hp → Prop, (∃ m, W 0 m σ H) ∧ ∀ i m σ H, W i m σ H →
      ((ItzM K a b).stop i H ∧ D.nx σ H) ∨ ((ItzM K a b).go i H ∧ ∃ N : L2.St → Hp → Prop, (∀ σ' H', N σ' H' → ∃ m', m' < m ∧ W (i + 1) m' σ' H') ∧ ∀ v H', (ItzM K a b).yld i H v H' → g v σ H' fun σ2 H2 => tb { D with nx := N, ct := N, bk := D.nx } σ2 H2) := by
  refine ⟨fun i m σ H => m = min xs.length ys.length - i ∧ i ≤ min xs.length ys.length ∧ Pv i σ H, ⟨min xs.length ys.length, rfl, Nat.zero_le _, h0⟩, fun i m σ H hW => ?_⟩
  obtain ⟨rfl, hi, p⟩ := hW
  obtain ⟨qx, qy⟩ := hq i σ H p
  by_cases hlt : i < min xs.length ys.length
  · refine .inr ⟨⟨xs, ys, qx, qy, hlt⟩, Pv (i + 1), fun σ' H' p' => ⟨min xs.length ys.length - (i + 1), by omega, rfl, hlt, p'⟩, fun v H' hy => ?_⟩
    obtain ⟨T, x, y, rfl, hT, rfl, f1, f2⟩ := hy
    exact hs i x y T σ H (f1 xs qx) (f2 ys qy) p hT
  · obtain rfl : i = min xs.length ys.length := by omega
    exact .inl ⟨⟨xs, ys, qx, qy, rfl⟩, hd σ H p⟩
end Pbd
namespace Pbd
open PySem PySem.Spec PyProof.Rows L2 TL
open Cp12 (Bytes ascii names value Def Book)
open Pb (rpn okE usesD has Good okD)
theorem u65 {A : Around} {k : Nat} (hr : Room k A) : A.units + 65 < cLine := by have := hr.un; omega
/-! ### joined texts -/
theorem joined_joinL (c : Nat) : ∀ ws : List Bytes, Cp12.joined c ws = joinL [c] ws
  | [] => rfl
  | [w] => rfl
  | w :: x :: r => by
    show w ++ c :: Cp12.joined c (x :: r) = w ++ ([c] ++ joinL [c] (x :: r))
    rw [joined_joinL c (x :: r)]; rfl
theorem join_tx (c : Nat) (ws : List Bytes) : Txt.join (tx [c]) (ws.map tx) = tx (Cp12.joined c ws) := by
  apply ext_tl
  rw [join_eq, tl_join, tl_tx, tl_tx, joined_joinL, List.map_map]
  have : (tl ∘ tx) = id := by funext x; rfl
  rw [this, List.map_id]
theorem joined_le (c : Nat) {k : Nat} : ∀ ws : List Bytes, (∀ u ∈ ws, u.length ≤ k) → (Cp12.joined c ws).length ≤ ws.length * (k + 1)
  | [], _ => by simp [Cp12.joined]
  | [w], h => by
    have := h w (by simp)
    simp only [Cp12.joined, List.length_singleton]; omega
  | w :: x :: r, h => by
    have h1 := h w (by simp)
    have ih := joined_le c (x :: r) fun u hu => h u (List.mem_cons_of_mem _ hu)
    show (w ++ c :: Cp12.joined c (x :: r)).length ≤ _
    rw [List.length_append, List.length_cons]
    have e : (w :: x :: r).length * (k + 1) = (x :: r).length * (k + 1) + (k + 1) := by
      rw [List.length_cons, Nat.add_mul, Nat.one_mul]
    rw [e]; omega
theorem sum_len_le {k : Nat} : ∀ ys : List Str, (∀ y ∈ ys, y.length ≤ k) → (ys.map (·.length)).sum ≤ ys.length * k
  | [], _ => by simp
  | y :: r, h => by
    have h1 := h y (by simp)
    have ih := sum_len_le r fun u hu => h u (List.mem_cons_of_mem _ hu)
    rw [List.map_cons, List.sum_cons, List.length_cons, Nat.add_mul]; omega
theorem eventText_len {e : Ev} (h : okEv e = true) : (Cp12.eventText e).length ≤ 40 := by
  obtain ⟨en, n⟩ := e
  have hn : n ≤ 1024 := by
    simp only [okEv, Bool.and_eq_true, decide_eq_true_eq] at h
    exact h.2.2
  have hd := dec_len (n := n) (by omega)
  cases en with
  | none =>
    show ([114] ++ 58 :: Cp12.decimal n).length ≤ 40
    simp only [List.length_append, List.length_cons, List.length_nil]; omega
  | some nt =>
    obtain ⟨d, al⟩ := nt
    have hnote : (0 ≤ d ∧ d ≤ 69) ∧ (-2 ≤ al ∧ al ≤ 2) := by
      simp only [okEv, Cp12.isNote, Bool.and_eq_true, decide_eq_true_eq] at h
      omega
    obtain ⟨c, m, _, _, h3, h4⟩ := eventText_note d al n hnote.1 hnote.2
    have hd2 := dec_len (n := (d / 7).toNat) (by omega)
    rw [h3]
    simp only [List.length_append, List.length_singleton]; omega
theorem text_len : ∀ e : Cp12.Expr, okE e → (Cp12.text e false).length ≤ 44 * (rpn e).length := by
  have tt : ∀ e : Cp12.Expr, (Cp12.text e true).length ≤ (Cp12.text e false).length + 4 := fun e => by
    rw [← Pb.asItem_text]; exact asItem_len _
  intro e
  induction e with
  | name u =>
    intro h
    have : Cp12.isName u = true := h (.name u) (by simp [rpn])
    unfold Cp12.isName at this
    simp only [Bool.and_eq_true, decide_eq_true_eq] at this
    simp only [Cp12.text, rpn, List.length_singleton]; omega
  | rest n =>
    intro h
    have h1 : 1 ≤ n ∧ n ≤ 1024 := h (.rest n) (by simp [rpn])
    have hd := dec_len (n := n) (by omega)
    have : (ascii "r:").length = 2 := by decide
    simp only [Cp12.text, rpn, List.length_singleton, List.length_append]; omega
  | join a b iha ihb =>
    intro h
    have h1 := iha fun t ht => h t (by simp [rpn, ht])
    have h2 := ihb fun t ht => h t (by simp [rpn, ht])
    have h3 := tt b
    have : (ascii " + ").length = 3 := by decide
    simp only [Cp12.text, rpn, List.length_append, List.length_singleton, Bool.false_eq_true, if_false]; omega
  | up a n ih =>
    intro h
    have h1 := ih fun t ht => h t (by simp [rpn, ht])
    have h2 : n ≤ 69 := (h (.num .up n) (by simp [rpn])).2
    have h3 := tt a
    have hd := dec_len (n := n) (by omega)
    have : (ascii " up ").length = 4 := by decide
    simp only [Cp12.text, rpn, List.length_append, List.length_singleton]; omega
  | down a n ih =>
    intro h
    have h1 := ih fun t ht => h t (by simp [rpn, ht])
    have h2 : n ≤ 69 := (h (.num .down n) (by simp [rpn])).2
    have h3 := tt a
    have hd := dec_len (n := n) (by omega)
    have : (ascii " down ").length = 6 := by decide
    simp only [Cp12.text, rpn, List.length_append, List.length_singleton]; omega
  | over a ih =>
    intro h
    have h1 := ih fun t ht => h t (by simp [rpn, ht])
    have h3 := tt a
    have : (ascii " over").length = 5 := by decide
    simp only [Cp12.text, rpn, List.length_append, List.length_singleton]; omega
  | back a ih =>
    intro h
    have h1 := ih fun t ht => h t (by simp [rpn, ht])
    have h3 := tt a
    have : (ascii " back").length = 5 := by decide
    simp only [Cp12.text, rpn, List.length_append, List.length_singleton]; omega
  | long a n ih =>
    intro h
    have h1 := ih fun t ht => h t (by simp [rpn, ht])
    have h2 : n ≤ 16 := (h (.num .long n) (by simp [rpn])).2
    have h3 := tt a
    have hd := dec_len (n := n) (by omega)
    have : (ascii " long ").length = 6 := by decide
    simp only [Cp12.text, rpn, List.length_append, List.length_singleton]; omega
  | short a n ih =>
    intro h
    have h1 := ih fun t ht => h t (by simp [rpn, ht])
    have h2 : n ≤ 16 := (h (.num .short n) (by simp [rpn])).2
    have h3 := tt a
    have hd := dec_len (n := n) (by omega)
    have : (ascii " short ").length = 7 := by decide
    simp only [Cp12.text, rpn, List.length_append, List.length_singleton]; omega
  | times a n ih =>
    intro h
    have h1 := ih fun t ht => h t (by simp [rpn, ht])
    have h2 : n ≤ 16 := (h (.num .times n) (by simp [rpn])).2
    have h3 := tt a
    have hd := dec_len (n := n) (by omega)
    have : (ascii " times ").length = 7 := by decide
    simp only [Cp12.text, rpn, List.length_append, List.length_singleton]; omega
def bodyText (d : Def) : Bytes := match d.body with
  | .theme l => Cp12.joined 32 (l.map Cp12.eventText)
  | .part e => Cp12.text e false
theorem defText_eq {d : Def} (ok : okD d) : Cp12.defText d = kindD d ++ [32] ++ d.name ++ [32] ++ bodyText d := by
  obtain ⟨n, bd⟩ := d
  cases bd with
  | theme l =>
    have hl : 1 ≤ l.length := ok.2.2.1
    cases l with
    | nil => exact absurd hl (by decide)
    | cons e r => simp [Cp12.defText, kindD, bodyText, Cp12.joined]
  | part e => simp [Cp12.defText, kindD, bodyText, Cp12.joined]
theorem fine_ok {l : Line} (h : Cp12.fine l = true) : ∀ e ∈ l, okEv e = true := by
  rw [fine_eq, Bool.and_eq_true, List.all_eq_true] at h
  exact h.2
theorem lit_sp : Str.ofString " " = tx [32] := by rw [lit]; rfl
section
variable {P : Program} {w : World} {K : PySem.W.Frag} {mg : Str → Option Value} {base : Heap} {aM aR aP aS aN aB : Addr}
/-- ' '.join of texts that are known -/
theorem join_ok {H : Hp} {p : Addr} {ws : List Bytes} {k c : Nat} {Q : VK} (hp : H p = some (.lst (wordsV ws))) (hk : ∀ u ∈ ws, u.length ≤ k) (hl : ws.length * k + ws.length ≤ 16777216) (q : Q (.str (tx (Cp12.joined c ws))) H) :
    ∃ a p', ∃ ys : List Str, (V.str (tx [c])) = .str a ∧ [V.ref p] = [.ref p'] ∧ (SqL K H p' (ys.map V.str) ∨ SqT K H p' (ys.map V.str)) ∧ (ys.map (·.length)).sum + ys.length * a.length ≤ 16777216 ∧ Q (.str (Txt.join a ys)) H := by
  refine ⟨tx [c], p, ws.map tx, rfl, rfl, .inl ?_, ?_, by rw [join_tx]; exact q⟩
  · rw [List.map_map]; exact SqL.of hp
  · have := sum_len_le (k := k) (ws.map tx) fun y hy => by
      obtain ⟨u, hu, rfl⟩ := List.mem_map.mp hy
      rw [tx_len]; exact hk u hu
    rw [List.length_map] at this
    have e : (tx [c]).length = 1 := rfl
    rw [List.length_map, e]
    omega
/-! ### body_text, definition_text -/
abbrev s_body_text : Stmt := top 57
abbrev n_body_text : List Str := ["definition", "event"]
theorem sc_body_text : FnScope n_body_text ["definition"] (defScope s_body_text) := ⟨rfl, rfl, rfl, by decide +kernel, rfl, by decide +kernel, by decide +kernel⟩

def sp_body_text : Sp := fun vs H Q _ => ∃ (v : V) (d : Def), vs = [v] ∧ DefAt H v d ∧ okD d ∧ ∀ H', Same H H' → Q (.str (tx (bodyText d))) H'
theorem ok_body_text {f : Addr} {fd : FuncData} (F : Fun K "body_text" "body_text" s_body_text f fd) (T : Txt K w mg aM aR aP aS aN aB) (f_event_text : Callee P w K mg base "event_text" 2 ["event"] sp_event_text) (f_expression_text : Callee P w K mg base "expression_text" 3 ["steps"] sp_expression_text) : FnOk P w K mg base CX0 4 f fd ["definition"] sp_body_text := by
  refine F.ok sc_body_text (fun vs H Q E h => ?_) (fun cdv A outer s H vs Q E hr h => ?_)
  · obtain ⟨v, d, rfl, _⟩ := h; rfl
  · obtain ⟨v, d, rfl, ⟨a, bv, c, rfl, h1, h2, h3⟩, hok, q⟩ := h
    refine ⟨_, (pss_cons (ps_if (pt_cmpR op_eq (pe_ix ix_tup (pv 0) pe_int (fun _ _ => rfl)) pe_str (nomark _)) (pss_one (ps_ret (pe_join pe_str (pe_lc (own := [("event", 1)]) (g := gName 1) rfl sc_body_text.nd (pi_list (pe_ix ix_tup (pv 0) pe_int (fun _ _ => rfl))) (blkOk_by (own := [("event", 1)]) (N := n_body_text) (sc := defScope s_body_text) (by decide +kernel)) (fun _ _ _ _ _ => pg_name (i := 1) sc_body_text.nd rfl (Or.inl rfl)) (fun _ _ _ _ _ => pts_nil) (fun _ _ _ _ _ => (pe_do f_event_text hr (by decide) (by rfl) (pa_cons (pv 1) pa_nil))))))) pss_nil) (pss_one (ps_ret (pe_do f_expression_text hr (by decide) (by rfl) (pa_cons (pe_ix ix_tup (pv 0) pe_int (fun _ _ => rfl)) pa_nil))))), ?_⟩
    obtain ⟨n, bd⟩ := d
    refine ⟨_, rfl, a, _, 0, _, rfl, rfl, SqT.of h1, atI_nat (j := 0) rfl, rfl, _, rfl, ?_⟩
    rw [eq_lit]
    cases bd with
    | theme l =>
      refine if_t (show decide (ascii "theme" = ascii "theme") = true by decide) ?_
      have h3 : LineAt H bv l := h3
      obtain ⟨la, xs, rfl, hla, hp⟩ := h3
      have hl32 : l.length ≤ 32 := hok.2.2.2
      have hfine := fine_ok hok.2.1
      have hxl := paired_len hp
      refine ⟨⟨_, rfl⟩, _, rfl, a, _, 1, _, rfl, rfl, SqT.of h1, atI_nat (j := 1) rfl, la, rfl, ⟨_, SqL.of hla⟩, fun D hD => ?_⟩
      refine lc_vals (xs := xs) (ys := wordsV (l.map Cp12.eventText)) (SqL.of hla) hD (by rw [words_len, List.length_map]; exact hxl.symm) (by omega) (fun _ => rfl) (fun i x y H' Q' hx hy s' k => ?_) (fun H' s' hD' => ?_)
      · obtain ⟨e, he, hev⟩ := paired_get hp hx
        have : (wordsV (l.map Cp12.eventText))[i]? = some (.str (tx (Cp12.eventText e))) := words_get (by rw [List.getElem?_map, he]; rfl)
        rw [this] at hy
        cases hy
        exact ⟨_, rfl, _, e, rfl, hev.mono s', hfine e (List.mem_of_getElem? he), k _ (Same.refl _)⟩
      · rw [lit_sp]
        refine join_ok (k := 40) hD' (fun u hu => ?_) (by rw [List.length_map]; omega) (q H' s')
        obtain ⟨e, he, rfl⟩ := List.mem_map.mp hu
        exact eventText_len (hfine e he)
    | part e =>
      refine if_f (show decide (ascii "part" = ascii "theme") = false by decide) ?_
      refine ⟨_, rfl, a, _, 1, _, rfl, rfl, SqT.of h1, atI_nat (j := 1) rfl, _, e, rfl, h3.1, hok.2, by have := h3.2; omega, q⟩
abbrev s_definition_text : Stmt := top 56
abbrev n_definition_text : List Str := ["name", "definition", "kind", "body"]
theorem sc_definition_text : FnScope n_definition_text ["name", "definition"] (defScope s_definition_text) := ⟨rfl, rfl, rfl, by decide +kernel, rfl, by decide +kernel, by decide +kernel⟩

def sp_definition_text : Sp := fun vs H Q _ => ∃ (v : V) (d : Def), vs = [.str (tx d.name), v] ∧ DefAt H v d ∧ okD d ∧ ∀ H', Same H H' → Q (.str (tx (Cp12.defText d))) H'
theorem bodyText_len {H : Hp} {v : V} {d : Def} (h : DefAt H v d) (ok : okD d) : (bodyText d).length ≤ 50000 := by
  obtain ⟨a, bv, c, rfl, h1, h2, h3⟩ := h
  obtain ⟨n, bd⟩ := d
  cases bd with
  | theme l =>
    have hl32 : l.length ≤ 32 := ok.2.2.2
    have hfine := fine_ok ok.2.1
    have := joined_le 32 (k := 40) (l.map Cp12.eventText) fun u hu => by
      obtain ⟨e, he, rfl⟩ := List.mem_map.mp hu
      exact eventText_len (hfine e he)
    rw [List.length_map] at this
    show (Cp12.joined 32 (l.map Cp12.eventText)).length ≤ 50000
    omega
  | part e =>
    have h1 := text_len e ok.2
    have h2 : (rpn e).length ≤ 1000 := h3.2
    show (Cp12.text e false).length ≤ 50000
    omega
theorem name_len {u : Bytes} (h : Cp12.isName u = true) : u.length ≤ 8 := by
  unfold Cp12.isName at h
  simp only [Bool.and_eq_true, decide_eq_true_eq] at h
  exact h.2.1
theorem kindD_len (d : Def) : (kindD d).length ≤ 5 := by
  unfold kindD
  cases d.body with
  | theme l => exact (by decide : (ascii "theme").length ≤ 5)
  | part e => exact (by decide : (ascii "part").length ≤ 5)
theorem defText_len {H : Hp} {v : V} {d : Def} (h : DefAt H v d) (ok : okD d) : (Cp12.defText d).length ≤ 60000 := by
  rw [defText_eq ok]
  have h1 := bodyText_len h ok
  have h2 := name_len ok.1
  have h3 := kindD_len d
  simp only [List.length_append, List.length_singleton]; omega
theorem ok_definition_text {f : Addr} {fd : FuncData} (F : Fun K "definition_text" "definition_text" s_definition_text f fd) (T : Txt K w mg aM aR aP aS aN aB) (f_body_text : Callee P w K mg base "body_text" 4 ["definition"] sp_body_text) : FnOk P w K mg base CX0 5 f fd ["name", "definition"] sp_definition_text := by
  refine F.ok sc_definition_text (fun vs H Q E h => ?_) (fun cdv A outer s H vs Q E hr h => ?_)
  · obtain ⟨v, d, rfl, _⟩ := h; rfl
  · obtain ⟨v, d, rfl, hd, hok, q⟩ := h
    have hbl := bodyText_len hd hok
    have hnl := name_len hok.1
    have hkl := kindD_len d
    have hd' := hd
    obtain ⟨a, bv, c, rfl, h1, h2, h3⟩ := hd'
    refine ⟨_, (pss_cons (ps_set (i := 2) sc_definition_text.nd rfl (Or.inl rfl) (pe_ix ix_tup (pv 1) pe_int (fun _ _ => rfl))) (pss_cons (ps_set (i := 3) sc_definition_text.nd rfl (Or.inl rfl) (pe_do f_body_text hr (by decide) (by rfl) (pa_cons (pv 1) pa_nil))) (pss_one (ps_ret (pe_joined (.cons (pe_fmt (pv 2)) (.cons pe_str (.cons (pe_fmt (pv 0)) (.cons pe_str (.cons (pe_fmt (pv 3)) .nil)))))))))), ?_⟩
    rw [defText_eq hok] at q
    refine ⟨_, rfl, a, _, 0, _, rfl, rfl, SqT.of h1, atI_nat (j := 0) rfl, ?_⟩
    refine ⟨_, rfl, _, d, rfl, hd, hok, fun H1 s1 => ?_⟩
    refine ⟨_, rfl, .inl ⟨tx (kindD d), rfl, by rw [tx_len, szL]; omega, tx (kindD d), rfl, by rw [empty_tx, tx_len, szL]; omega, ?_⟩⟩
    rw [empty_tx]
    refine ⟨_, rfl, by rw [lit_sp]; exact joined_len (by rw [szL, List.length_singleton]; omega), ?_⟩
    rw [lit_sp, tx_append]
    refine ⟨_, rfl, .inl ⟨tx d.name, rfl, by rw [tx_len, szL]; omega, tx d.name, rfl, joined_len (by rw [szL]; simp only [List.length_append, List.length_singleton]; omega), ?_⟩⟩
    rw [tx_append]
    refine ⟨_, rfl, joined_len (by rw [szL]; simp only [List.length_append, List.length_singleton]; omega), ?_⟩
    rw [tx_append]
    refine ⟨_, rfl, .inl ⟨tx (bodyText d), rfl, by rw [tx_len, szL]; omega, tx (bodyText d), rfl, joined_len (by rw [szL]; simp only [List.length_append, List.length_singleton]; omega), ?_⟩⟩
    rw [tx_append]
    exact q H1 s1
end
end Pbd
namespace Pbd
open PySem PySem.Spec PyProof.Rows L2 TL
open Cp12 (Bytes ascii names value Def Book)
open Pb (rpn okE usesD has Good okD readW changeP cmdP)
/-! ### commands in the heap -/
def CmdAt (G : Hp) (v : V) (c : Cp12.Cmd) : Prop := ∃ a items, v = .ref a ∧ G a = some (.lst items) ∧ match c with
  | .theme n l => ∃ x, items = [.str (tx (ascii "theme")), .str (tx n), x] ∧ LineAt G x l
  | .part n e => ∃ x, items = [.str (tx (ascii "part")), .str (tx n), x] ∧ Seq TokAt G x (rpn e) ∧ (rpn e).length ≤ 1000
  | .drop n => items = [.str (tx (ascii "drop")), .str (tx n)]
  | .show n => items = [.str (tx (ascii "show")), .str (tx n)]
  | .long n => items = [.str (tx (ascii "long")), .str (tx n)]
  | .at_ n t => items = [.str (tx (ascii "at")), .str (tx n), .int (t : Nat)]
  | .same n m => items = [.str (tx (ascii "same")), .str (tx n), .str (tx m)]
  | .uses n => items = [.str (tx (ascii "uses")), .str (tx n)]
  | .users n => items = [.str (tx (ascii "users")), .str (tx n)]
  | .list => items = [.str (tx (ascii "list"))]
  | .undo => items = [.str (tx (ascii "undo"))]
  | .dump => items = [.str (tx (ascii "dump"))]
theorem cut_from (k : Nat) (ws : List Bytes) : cutV (wordsV ws) (some (k : Int)) none = wordsV (ws.drop k) := by
  unfold cutV
  rw [HT.sIx_nat, HT.sIx_none, words_len]
  have e : (wordsV ws).drop (min k ws.length) = wordsV (ws.drop k) := by
    unfold wordsV
    rw [← List.map_drop]
    by_cases c : k ≤ ws.length
    · rw [Nat.min_eq_left c]
    · rw [Nat.min_eq_right (by omega), List.drop_length, List.drop_eq_nil_of_le (by omega)]
  rw [e]
  apply List.take_of_length_le
  rw [words_len, List.length_drop]
  omega
theorem WordsOk.drop {ws : List Bytes} (h : WordsOk ws) (k : Nat) : WordsOk (ws.drop k) := ⟨by rw [List.length_drop]; have := h.1; omega, fun u hu => h.2 u (List.mem_of_mem_drop hu)⟩
def optD : Option Ev → PyData
  | none => .none
  | some e => evD e
theorem opt_dp {K : PySem.W.Frag} {H : Hp} {v : V} {o : Option Ev} (h : OptR EvAt H v o) : Dp K H v (optD o) := by
  cases o with
  | none => obtain rfl : v = .non := h; exact .non
  | some e => exact EvAt.dp h
theorem opts_dp {K : PySem.W.Frag} {H : Hp} : ∀ {vs : List V} {os : List (Option Ev)}, Paired (OptR EvAt H) vs os → DpAll K H vs (os.map optD)
  | _, _, .nil => .nil
  | _, _, .cons r t => .cons (opt_dp r) (opts_dp t)
theorem opts_shaped (os : List (Option Ev)) : SeqAt.shaped (.list (os.map optD)) = true := by
  have h1 : ∀ os : List (Option Ev), PyData.canLayAll0 (os.map optD) = true := by
    intro os
    induction os with
    | nil => rfl
    | cons o r ih =>
      have : (optD o).canLay0 = true := by
        cases o with
        | none => rfl
        | some e => exact SeqAt.canLay_of_shaped (ev_shaped e)
      show ((optD o).canLay0 && PyData.canLayAll0 (r.map optD)) = true
      rw [this, ih]; rfl
  have h2 : ∀ os : List (Option Ev), PyData.depthAll (os.map optD) ≤ 1 := by
    intro os
    induction os with
    | nil => simp [PyData.depthAll]
    | cons o r ih =>
      have : (optD o).depth ≤ 1 := by
        cases o with
        | none => simp [optD, PyData.depth]
        | some e =>
          obtain ⟨en, el⟩ := e
          cases en <;> simp [optD, evD, PyData.depth, PyData.depthAll]
      show max (optD o).depth (PyData.depthAll (r.map optD)) ≤ 1
      omega
  unfold SeqAt.shaped
  have h3 : (PyData.list (os.map optD)).canLay0 = true := h1 os
  have h4 : (PyData.list (os.map optD)).depth = PyData.depthAll (os.map optD) + 1 := rfl
  have h5 := h2 os
  rw [h3, h4, decide_eq_true (by omega)]; rfl
theorem opts_any (os : List (Option Ev)) : ((os.map optD).any fun z => PyData.eqv z .none) = os.any fun o => o.isNone := by
  rw [List.any_map]
  congr 1
  funext o
  cases o with
  | none => rfl
  | some e =>
    obtain ⟨en, el⟩ := e
    cases en <;> rfl
theorem OptR.mono {G G' : Hp} {v : V} {o : Option Ev} (s : Same G G') (h : OptR EvAt G v o) : OptR EvAt G' v o := by
  cases o with
  | none => exact h
  | some e => exact EvAt.mono s h
theorem events_read {G : Hp} : ∀ {ws : List Bytes} {vs : List V}, Paired (OptR EvAt G) vs (ws.map Cp12.event?) → (((ws.map Cp12.event?).any fun o => o.isNone) = true → Cp12.allEvents ws = none) ∧ (((ws.map Cp12.event?).any fun o => o.isNone) = false → ∃ l, Cp12.allEvents ws = some l ∧ Paired (EvAt G) vs l)
  | [], _, .nil => ⟨fun h => by simp at h, fun _ => ⟨[], rfl, .nil⟩⟩
  | u :: ws, v :: vs, .cons r t => by
    obtain ⟨i1, i2⟩ := events_read t
    simp only [Cp12.allEvents, List.map_cons, List.any_cons]
    cases he : Cp12.event? u with
    | none => exact ⟨fun _ => rfl, fun h => by simp at h⟩
    | some e =>
      rw [he] at r
      simp only [Option.isNone_some, Bool.false_or, Option.bind_some]
      refine ⟨fun h => by rw [i1 h]; rfl, fun h => ?_⟩
      obtain ⟨l, hl, hp⟩ := i2 h
      exact ⟨e :: l, by rw [hl]; rfl, .cons r hp⟩
def argV (k : Str) (u : Bytes) : V := if k = "time" then numV (Cp12.num? 0 9999 u) else if Cp12.isName u then .str (tx u) else .non
section
variable {P : Program} {w : World} {K : PySem.W.Frag} {mg : Str → Option Value} {base : Heap} {aM aR aP aS aN aB : Addr}
/-! ### read_argument -/
abbrev s_read_argument : Stmt := top 63
abbrev n_read_argument : List Str := ["kind", "word"]
theorem sc_read_argument : FnScope n_read_argument ["kind", "word"] (defScope s_read_argument) := ⟨rfl, rfl, rfl, by decide +kernel, rfl, by decide +kernel, by decide +kernel⟩

def sp_read_argument : Sp := fun vs H Q _ => ∃ (k : Str) (u : Bytes), vs = [.str k, .str (tx u)] ∧ Asc u ∧ u.length ≤ 1000 ∧ Q (argV k u) H
theorem ok_read_argument {f : Addr} {fd : FuncData} (F : Fun K "read_argument" "read_argument" s_read_argument f fd) (T : Txt K w mg aM aR aP aS aN aB) (f_read_number : Callee P w K mg base "read_number" 1 ["word", "low", "high"] sp_read_number) (f_is_name : Callee P w K mg base "is_name" 1 ["word"] sp_is_name) : FnOk P w K mg base CX0 2 f fd ["kind", "word"] sp_read_argument := by
  refine F.ok sc_read_argument (fun vs H Q E h => ?_) (fun cdv A outer s H vs Q E hr h => ?_)
  · obtain ⟨k, u, rfl, _⟩ := h; rfl
  · obtain ⟨k, u, rfl, ha, hl, q⟩ := h
    refine ⟨_, (pss_cons (ps_if (pt_cmpR op_eq (pv 0) pe_str (nomark _)) (pss_one (ps_ret (pe_do f_read_number hr (by decide) (by rfl) (pa_cons (pv 1) (pa_cons pe_int (pa_cons (pe_gint (by rfl) T.g_LATEST_TIME) pa_nil)))))) pss_nil) (pss_one (ps_ret (pe_ifExp (pt_val (pe_do f_is_name hr (by decide) (by rfl) (pa_cons (pv 1) pa_nil))) (pv 1) pe_non)))), ?_⟩
    unfold argV at q
    refine ⟨_, rfl, rfl, _, rfl, if_b (fun c => ?_) (fun c => ?_)⟩
    · have c : k = "time" := V.str.inj (of_decide_eq_true c)
      rw [if_pos c] at q
      exact ⟨_, rfl, u, 0, 9999, rfl, ha, hl, q⟩
    · have c : ¬ k = "time" := fun z => of_decide_eq_false c (congrArg V.str z)
      rw [if_neg c] at q
      refine ⟨_, rfl, u, rfl, ha, hl, _, rfl, if_b (fun c2 => ?_) (fun c2 => ?_)⟩
      · rw [if_pos c2] at q
        exact ⟨_, rfl, q⟩
      · rw [if_neg (by rw [c2]; decide)] at q
        exact q
/-! ### read_events -/
abbrev s_read_events : Stmt := top 65
abbrev n_read_events : List Str := ["words", "events", "word"]
theorem sc_read_events : FnScope n_read_events ["words"] (defScope s_read_events) := ⟨rfl, rfl, rfl, by decide +kernel, rfl, by decide +kernel, by decide +kernel⟩

def sp_read_events : Sp := fun vs H Q _ => ∃ (v : V) (ws : List Bytes) (G : Hp), vs = [v] ∧ Same G H ∧ WordsAt G v ws ∧ WordsOk ws ∧ ∀ r G' H', Grow G H G' H' → OptR LineAt G' r (if Cp12.THEME < ws.length then none else Cp12.allEvents ws) → Q r H'
theorem ok_read_events {f : Addr} {fd : FuncData} (F : Fun K "read_events" "read_events" s_read_events f fd) (T : Txt K w mg aM aR aP aS aN aB) (f_read_event : Callee P w K mg base "read_event" 2 ["word"] sp_read_event) : FnOk P w K mg base CX0 3 f fd ["words"] sp_read_events := by
  refine F.ok sc_read_events (fun vs H Q E h => ?_) (fun cdv A outer s H vs Q E hr h => ?_)
  · obtain ⟨v, ws, G, rfl, _⟩ := h; rfl
  · obtain ⟨v, ws, G, rfl, hG, ⟨a, rfl, ha⟩, hok, q⟩ := h
    refine ⟨_, (pss_cons (ps_if (pt_cmpR op_gt (pe_callB call_len_seq (by rfl) T.b_len (by decide +kernel) (pa_cons (pv 0) pa_nil)) (pe_gint (by rfl) T.g_MOST_THEME_EVENTS) (nomark _)) (pss_one (ps_ret pe_non)) pss_nil) (pss_cons (ps_setLc (i := 1) (own := [("word", 2)]) (g := gName 2) rfl sc_read_events.nd rfl rfl (sw_true rfl rfl rfl (by decide +kernel)) (pi_list (pv 0)) (blkOk_by (own := [("word", 2)]) (N := n_read_events) (sc := defScope s_read_events) (by decide +kernel)) (fun _ _ _ _ _ => pg_name (i := 2) sc_read_events.nd rfl (Or.inl rfl)) (fun _ _ _ _ _ => pts_nil) (fun _ _ _ _ _ => (pe_do f_read_event hr (by decide) (by rfl) (pa_cons (pv 2) pa_nil)))) (pss_one (ps_ret (pe_ifExp (pt_cmpR (op_inD (u65 hr)) pe_non (pv 1) rfl) pe_non (pv 1)))))), ?_⟩
    have hS : SqL K H a (wordsV ws) := SqL.of (hG _ _ ha)
    refine ⟨_, rfl, a, _, rfl, .inl hS, _, _, rfl, rfl, _, rfl, if_b (fun c => ?_) (fun c => ?_)⟩
    · have c : Cp12.THEME < ws.length := by have := of_decide_eq_true c; rw [words_len] at this; show 32 < _; omega
      rw [if_pos c] at q
      exact q _ _ _ (Grow.refl hG) rfl
    · have c : ¬ Cp12.THEME < ws.length := by have := of_decide_eq_false c; rw [words_len] at this; show ¬ 32 < _; omega
      rw [if_neg c] at q
      refine ⟨_, rfl, a, rfl, ⟨_, hS⟩, fun D hD => lc_data (R := OptR EvAt) (fun s r => r.mono s) (xs := wordsV ws) (ys := ws.map Cp12.event?) hG hS hD (by rw [words_len, List.length_map]) (by rw [words_len]; have := hok.1; omega) (fun _ => rfl) (fun i x y G1 H1 Q1 hx hy s1 s2 k => ?_) (fun G1 H1 vs g gD hD' hp => ?_)⟩
      · unfold wordsV at hx
        rw [List.getElem?_map] at hx hy
        cases hu : ws[i]? with
        | none => rw [hu] at hx; cases hx
        | some u =>
          rw [hu] at hx hy
          cases hx
          cases hy
          obtain ⟨h1, h2⟩ := hok.2 u (List.mem_of_getElem? hu)
          exact ⟨_, rfl, u, G1, rfl, h1, h2, s2, fun r G2 H2 g2 hr2 => k _ _ _ g2 hr2⟩
      · obtain ⟨e1, e2⟩ := events_read hp
        have hdp : Dp K H1 (.ref D) (.list ((ws.map Cp12.event?).map optD)) := .lst (SqL.of hD') (opts_dp (paired_mono hp fun _ _ r => r.mono g.i))
        refine ⟨_, rfl, .none, _, .non, hdp, rfl, opts_shaped _, _, rfl, ?_⟩
        rw [opts_any]
        refine if_b (fun c2 => ?_) (fun c2 => ?_)
        · rw [e1 c2] at q
          exact q _ _ _ g rfl
        · obtain ⟨l, hl, hpl⟩ := e2 c2
          rw [hl] at q
          exact ⟨_, rfl, q _ _ _ (g.put hD hD' gD) ⟨D, vs, rfl, upd_same, paired_mono hpl fun _ _ r => r.mono (same_new gD)⟩⟩
/-! ### read_change -/
abbrev s_read_change : Stmt := top 64
abbrev n_read_change : List Str := ["words", "body"]
theorem sc_read_change : FnScope n_read_change ["words"] (defScope s_read_change) := ⟨rfl, rfl, rfl, by decide +kernel, rfl, by decide +kernel, by decide +kernel⟩

def sp_read_change : Sp := fun vs H Q _ => ∃ (v : V) (ws : List Bytes) (u : Bytes) (r : List Bytes) (G : Hp), vs = [v] ∧ ws = u :: r ∧ (u = ascii "theme" ∨ u = ascii "part") ∧ Same G H ∧ WordsAt G v ws ∧ WordsOk ws ∧ ∀ r G' H', Grow G H G' H' → OptR CmdAt G' r (changeP ws) → Q r H'
theorem readW_len {ws : List Bytes} {e : Cp12.Expr} (h : readW ws = some e) : (rpn e).length ≤ ws.length + 1 := by
  have q := Pb.order_read ws
  rw [h] at q
  cases et : Pb.toks? ws with
  | none => rw [et] at q; cases q
  | some ts =>
    rw [et] at q
    have h1 := Pb.mrun_len ts _ _ q
    have h2 := toks_len _ ws ts (Nat.le_refl _) et
    simp only [List.length_nil] at h1
    omega
theorem ok_read_change {f : Addr} {fd : FuncData} (F : Fun K "read_change" "read_change" s_read_change f fd) (T : Txt K w mg aM aR aP aS aN aB) (f_is_name : Callee P w K mg base "is_name" 1 ["word"] sp_is_name) (f_read_events : Callee P w K mg base "read_events" 3 ["words"] sp_read_events) (f_read_expression : Callee P w K mg base "read_expression" 5 ["words"] sp_read_expression) :
    FnOk P w K mg base CX0 6 f fd ["words"] sp_read_change := by
  refine F.ok sc_read_change (fun vs H Q E h => ?_) (fun cdv A outer s H vs Q E hr h => ?_)
  · obtain ⟨v, ws, u, r, G, rfl, _⟩ := h; rfl
  · obtain ⟨v, ws, u, r, G, rfl, rfl, hu, hG, ⟨a, rfl, ha⟩, hok, q⟩ := h
    refine ⟨_, (pss_cons (ps_if (PW.pt (pw_or (pt_cmpR op_lt (pe_callB call_len_seq (by rfl) T.b_len (by decide +kernel) (pa_cons (pv 0) pa_nil)) pe_int (nomark _)) (pw_or1 (pt_not (pt_val (pe_do f_is_name hr (by decide) (by rfl) (pa_cons (pe_ix ix_list (pv 0) pe_int (fun _ _ => rfl)) pa_nil))))))) (pss_one (ps_ret pe_non)) pss_nil) (pss_cons (ps_set (i := 1) sc_read_change.nd rfl (Or.inl rfl) (pe_ifExp (pt_cmpR op_eq (pe_ix ix_list (pv 0) pe_int (fun _ _ => rfl)) pe_str (nomark _)) (pe_do f_read_events hr (by decide) (by rfl) (pa_cons (pe_slice sl_list (pv 0) (po_some pe_int) po_none) pa_nil)) (pe_do f_read_expression hr (by decide) (by rfl) (pa_cons (pe_slice sl_list (pv 0) (po_some pe_int) po_none) pa_nil)))) (pss_one (ps_ret (pe_ifExp (pt_cmpR op_isN (pv 1) pe_non (nomark _)) pe_non (pe_lst (pa_cons (pe_ix ix_list (pv 0) pe_int (fun _ _ => rfl)) (pa_cons (pe_ix ix_list (pv 0) pe_int (fun _ _ => rfl)) (pa_cons (pv 1) pa_nil))))))))), ?_⟩
    have haH := hG _ _ ha
    refine ⟨_, rfl, a, _, rfl, .inl (SqL.of haH), _, _, rfl, rfl, _, rfl, if_b (fun c => ?_) (fun c => ?_)⟩
    · have c : (u :: r).length < 3 := by have := of_decide_eq_true c; rw [words_len] at this; omega
      have : changeP (u :: r) = none := by
        match r, c with
        | [], _ => rfl
        | [_], _ => rfl
        | _ :: _ :: _, c => simp at c; omega
      rw [this] at q
      exact q _ _ _ (Grow.refl hG) rfl
    · have c : ¬ (u :: r).length < 3 := by have := of_decide_eq_false c; rw [words_len] at this; omega
      obtain ⟨n, x, r', rfl⟩ : ∃ n x r', r = n :: x :: r' := by
        match r, c with
        | [], c => simp at c
        | [_], c => simp at c
        | n :: x :: r', _ => exact ⟨n, x, r', rfl⟩
      obtain ⟨hn1, hn2⟩ := hok.2 n (by simp)
      have hw0 : atI (wordsV (u :: n :: x :: r')) 0 = some (.str (tx u)) := atI_nat (j := 0) rfl
      have hw1 : atI (wordsV (u :: n :: x :: r')) 1 = some (.str (tx n)) := atI_nat (j := 1) rfl
      have hcut : cutV (wordsV (u :: n :: x :: r')) (some 2) none = wordsV (x :: r') := cut_from 2 (u :: n :: x :: r')
      have hok2 : WordsOk (x :: r') := hok.drop 2
      refine ⟨_, rfl, a, _, 1, _, rfl, rfl, SqL.of haH, hw1, n, rfl, hn1, hn2, _, rfl, if_b (fun c2 => ?_) (fun c2 => ?_)⟩
      · have c2 : Cp12.isName n = false := by simpa using c2
        have : changeP (u :: n :: x :: r') = none := by simp only [Pb.changeP]; rw [if_pos c2]
        rw [this] at q
        exact q _ _ _ (Grow.refl hG) rfl
      · have c2 : Cp12.isName n = true := by simpa using c2
        have c2' : ¬ Cp12.isName n = false := by rw [c2]; decide
        refine ⟨_, rfl, a, _, 0, _, rfl, rfl, SqL.of haH, hw0, rfl, _, rfl, ?_⟩
        rw [eq_lit]
        -- the list of the command, once its body is read
        have fin : ∀ (G2 H2 : Hp) (bv : V), Grow G H G2 H2 → bv ≠ .non → (∀ p G3 H3, Grow G H G3 H3 → Same G2 G3 → G3 p = some (.lst [.str (tx u), .str (tx n), bv]) → Q (.ref p) H3) →
            (tRet (tIf (tTest (tOp (fun x y H Q => y = .non ∧ Q (.bl (decide (x = .non))) H) (tVar 1) (tC .non))) (tC .non) (tLst (tCons (tOp (rIxL K) (tVar 0) (tC (.int 0))) (tCons (tOp (rIxL K) (tVar 0) (tC (.int 1))) (tCons (tVar 1) tNil))))))
              { nx := fun _ H' => Q .non H', rt := Q } [some (.ref a), some bv] H2 := by
          intro G2 H2 bv g2 hne k
          refine ⟨_, rfl, rfl, _, rfl, if_f (decide_eq_false hne) ?_⟩
          have hS2 := SqL.of (K := K) (g2.h _ _ haH)
          refine ⟨_, rfl, a, _, 0, _, rfl, rfl, hS2, hw0, _, rfl, a, _, 1, _, rfl, rfl, hS2, hw1, _, rfl, (by show 3 ≤ sizeLine; decide), fun p hp => ?_⟩
          have gN := Grow.new (o := .lst [.str (tx u), .str (tx n), bv]) g2.i hp
          exact k p _ _ (g2.trans gN) gN.g upd_same
        rcases hu with rfl | rfl
        · refine if_t (by decide) ?_
          refine ⟨_, rfl, 2, rfl, a, _, rfl, SqL.of haH, fun p hp => ?_⟩
          rw [hcut]
          have g1 := Grow.new (o := .lst (wordsV (x :: r'))) hG hp
          refine ⟨_, x :: r', _, rfl, g1.i, ⟨p, rfl, upd_same⟩, hok2, fun bv G2 H2 g2 hb => ?_⟩
          have ec : changeP (ascii "theme" :: n :: x :: r') = (if Cp12.THEME < (x :: r').length then none else Cp12.allEvents (x :: r')).map fun l => Cp12.Cmd.theme n l := by
            simp only [Pb.changeP]
            rw [if_neg c2', if_true]
            split <;> rfl
          rw [ec] at q
          cases ho : (if Cp12.THEME < (x :: r').length then none else Cp12.allEvents (x :: r')) with
          | none =>
            rw [ho] at q hb
            obtain rfl : bv = .non := hb
            exact ⟨_, rfl, rfl, _, rfl, q _ _ _ (g1.trans g2) rfl⟩
          | some l =>
            rw [ho] at q hb
            have hb : LineAt G2 bv l := hb
            have hb' := hb
            obtain ⟨ba, _, rfl, _⟩ := hb'
            exact fin G2 H2 _ (g1.trans g2) (by simp) fun p G3 H3 g3 s3 hp3 => q _ _ _ g3 ⟨p, _, rfl, hp3, _, rfl, hb.mono s3⟩
        · refine if_f (by decide) ?_
          refine ⟨_, rfl, 2, rfl, a, _, rfl, SqL.of haH, fun p hp => ?_⟩
          rw [hcut]
          have g1 := Grow.new (o := .lst (wordsV (x :: r'))) hG hp
          refine ⟨_, x :: r', _, rfl, g1.i, ⟨p, rfl, upd_same⟩, hok2, fun bv G2 H2 g2 hb => ?_⟩
          have ec : changeP (ascii "part" :: n :: x :: r') = (readW (x :: r')).map fun e => Cp12.Cmd.part n e := by
            simp only [Pb.changeP]
            rw [if_neg c2', if_neg (by decide)]
          rw [ec] at q
          cases ho : readW (x :: r') with
          | none =>
            rw [ho] at q hb
            obtain rfl : bv = .non := hb
            exact ⟨_, rfl, rfl, _, rfl, q _ _ _ (g1.trans g2) rfl⟩
          | some e =>
            rw [ho] at q hb
            have hb : Seq TokAt G2 bv (rpn e) := hb
            have hb' := hb
            obtain ⟨ba, _, rfl, _⟩ := hb'
            have hl := readW_len ho
            have hl2 := hok.1
            simp only [List.length_cons] at hl hl2
            exact fin G2 H2 _ (g1.trans g2) (by simp) fun p G3 H3 g3 s3 hp3 => q _ _ _ g3 ⟨p, _, rfl, hp3, _, rfl, ToksAt.mono s3 hb, by omega⟩
/-! ### read_command -/
abbrev s_read_command : Stmt := top 62
abbrev n_read_command : List Str := ["text", "words", "command", "kind", "word"]
theorem sc_read_command : FnScope n_read_command ["text"] (defScope s_read_command) := ⟨rfl, rfl, rfl, by decide +kernel, rfl, by decide +kernel, by decide +kernel⟩

def sp_read_command : Sp := fun vs H Q _ => ∃ (t : Bytes) (G : Hp), vs = [.str (tx t)] ∧ Asc t ∧ t.length ≤ 400 ∧ Same G H ∧ ∀ r G' H', Grow G H G' H' → OptR CmdAt G' r (Cp12.cmd? t) → Q r H'
theorem lookup_behind (f : String → Addr) (u : Bytes) : ∀ l : List (String × List Str), (l.map fun p => (Str.ofString p.1, Value.ref (f p.1))).lookup (tx u) = (l.find? fun p => decide (u = ascii p.1)).map fun p => Value.ref (f p.1)
  | [] => rfl
  | p :: r => by
    have hlit : (tx u == Str.ofString p.1) = decide (u = ascii p.1) := by
      rw [lit]
      by_cases c : u = ascii p.1
      · rw [← c]; simp
      · rw [decide_eq_false c]
        exact beq_eq_false_iff_ne.mpr fun z => c (tx_inj z)
    rw [List.map_cons, List.find?_cons]
    simp only [List.lookup, hlit]
    cases decide (u = ascii p.1) with
    | true => rfl
    | false => exact lookup_behind f u r
theorem parted_len (c : Nat) : ∀ u : Bytes, (Cp12.parted c u).length ≤ u.length + 1
  | [] => by simp [Cp12.parted]
  | x :: u => by
    have ih := parted_len c u
    simp only [Cp12.parted]
    split
    · simp only [List.length_cons]; omega
    · split
      · simp
      · rename_i w r h
        rw [h] at ih
        simp only [List.length_cons] at ih ⊢; omega
theorem argV_flat (k : Str) (u : Bytes) : flatV (argV k u) = true := by
  unfold argV
  split
  · cases Cp12.num? 0 9999 u <;> rfl
  · split <;> rfl
def argsV (ks : List Str) (us : List Bytes) : List V := (ks.zip us).map fun p => argV p.1 p.2
theorem args_take {ks : List Str} {us : List Bytes} {i : Nat} {k : Str} {u : Bytes} (hk : ks[i]? = some k) (hu : us[i]? = some u) : (argsV ks us).take (i + 1) = (argsV ks us).take i ++ [argV k u] := by
  apply take_more
  unfold argsV
  rw [List.getElem?_map, List.getElem?_zip_eq_some (z := (k, u)) |>.mpr ⟨hk, hu⟩]; rfl
/-- what a table's command is read to, by its first word and the arguments -/
theorem table_cmd {u : Bytes} {us : List Bytes} {p : String × List Str} (hp : p ∈ behind) (hu : u = ascii p.1) (hl : us.length = p.2.length) :
    (inV .non (.str (tx u) :: argsV p.2 us) = true → cmdP (u :: us) = none) ∧ (inV .non (.str (tx u) :: argsV p.2 us) = false → ∃ c, cmdP (u :: us) = some c ∧ ∀ (G : Hp) (a : Addr), G a = some (.lst (.str (tx u) :: argsV p.2 us)) → CmdAt G (.ref a) c) := by
  have hne : ¬ (u = ascii "theme" ∨ u = ascii "part") := by
    rintro (h | h) <;> rw [hu] at h <;> revert h <;> clear hl hu <;> revert p <;> decide +kernel
  have nm : ∀ n : Bytes, argV "name" n = if Cp12.isName n then .str (tx n) else .non := fun n => if_neg (by decide +kernel)
  have tm : ∀ n : Bytes, argV "time" n = numV (Cp12.num? 0 9999 n) := fun n => if_pos rfl
  simp only [behind, List.mem_cons, List.not_mem_nil, or_false] at hp
  have one : ∀ (mk : Bytes → Cp12.Cmd), p.2 = (["name"] : List Str) → (∀ n, Cp12.isName n = false → cmdP [u, n] = none) → (∀ n, Cp12.isName n = true → cmdP [u, n] = some (mk n)) → (∀ n (G : Hp) (a : Addr), G a = some (.lst [.str (tx u), .str (tx n)]) → CmdAt G (.ref a) (mk n)) →
      (inV .non (.str (tx u) :: argsV p.2 us) = true → cmdP (u :: us) = none) ∧ (inV .non (.str (tx u) :: argsV p.2 us) = false → ∃ c, cmdP (u :: us) = some c ∧ ∀ (G : Hp) (a : Addr), G a = some (.lst (.str (tx u) :: argsV p.2 us)) → CmdAt G (.ref a) c) := by
    intro mk hp2 h0 h1 h2
    rw [hp2] at hl ⊢
    obtain ⟨n, rfl⟩ : ∃ n, us = [n] := by
      match us, hl with
      | [n], _ => exact ⟨n, rfl⟩
    have e : argsV (["name"] : List Str) [n] = [if Cp12.isName n then .str (tx n) else .non] := by
      show [argV "name" n] = _
      rw [nm]
    rw [e]
    cases hn : Cp12.isName n with
    | true => exact ⟨fun z => (by cases z), fun _ => ⟨mk n, h1 n hn, fun G a hG => h2 n G a hG⟩⟩
    | false => exact ⟨fun _ => h0 n hn, fun z => by cases z⟩
  have zero : ∀ (c : Cp12.Cmd), p.2 = [] → cmdP [u] = some c → (∀ (G : Hp) (a : Addr), G a = some (.lst [.str (tx u)]) → CmdAt G (.ref a) c) →
      (inV .non (.str (tx u) :: argsV p.2 us) = true → cmdP (u :: us) = none) ∧ (inV .non (.str (tx u) :: argsV p.2 us) = false → ∃ c, cmdP (u :: us) = some c ∧ ∀ (G : Hp) (a : Addr), G a = some (.lst (.str (tx u) :: argsV p.2 us)) → CmdAt G (.ref a) c) := by
    intro c hp2 h1 h2
    rw [hp2] at hl ⊢
    obtain rfl : us = [] := List.length_eq_zero_iff.mp hl
    exact ⟨fun z => (by cases z), fun _ => ⟨c, h1, fun G a hG => h2 G a hG⟩⟩
  rcases hp with rfl | rfl | rfl | rfl | rfl | rfl | rfl | rfl | rfl | rfl
  · exact one .drop rfl (fun n hn => by simp only [Pb.cmdP]; rw [if_neg hne, if_pos hn]) (fun n hn => by simp only [Pb.cmdP]; rw [if_neg hne, if_neg (by rw [hn]; decide), hu]; simp (decide := true) only [if_true]) (fun n G a h => ⟨a, _, rfl, h, by rw [hu]⟩)
  · exact zero .undo rfl (by rw [hu]; rfl) (fun G a h => ⟨a, _, rfl, h, by rw [hu]⟩)
  · exact one .show rfl (fun n hn => by simp only [Pb.cmdP]; rw [if_neg hne, if_pos hn]) (fun n hn => by simp only [Pb.cmdP]; rw [if_neg hne, if_neg (by rw [hn]; decide), hu]; simp (decide := true) only [if_true, if_false]) (fun n G a h => ⟨a, _, rfl, h, by rw [hu]⟩)
  · exact one .long rfl (fun n hn => by simp only [Pb.cmdP]; rw [if_neg hne, if_pos hn]) (fun n hn => by simp only [Pb.cmdP]; rw [if_neg hne, if_neg (by rw [hn]; decide), hu]; simp (decide := true) only [if_true, if_false]) (fun n G a h => ⟨a, _, rfl, h, by rw [hu]⟩)
  · -- at
    obtain ⟨n, x, rfl⟩ : ∃ n x, us = [n, x] := by
      match us, hl with
      | [n, x], _ => exact ⟨n, x, rfl⟩
    have e : argsV ["name", "time"] [n, x] = [if Cp12.isName n then .str (tx n) else .non, numV (Cp12.num? 0 9999 x)] := by
      show [argV "name" n, argV "time" x] = _
      rw [nm, tm]
    have ec : cmdP [u, n, x] = if Cp12.isName n = false then none else (Cp12.num? 0 9999 x).map fun k => Cp12.Cmd.at_ n k := by
      simp only [Pb.cmdP]
      rw [if_neg hne, hu]
      simp (decide := true) only [if_true]
    show (inV .non (.str (tx u) :: argsV ["name", "time"] [n, x]) = true → _) ∧ _
    rw [e, ec]
    cases hn : Cp12.isName n with
    | false => exact ⟨fun _ => rfl, fun z => by cases z⟩
    | true =>
      cases hx : Cp12.num? 0 9999 x with
      | none => exact ⟨fun _ => rfl, fun z => by cases z⟩
      | some k => exact ⟨fun z => (by cases z), fun _ => ⟨.at_ n k, rfl, fun G a hG => ⟨a, _, rfl, hG, by rw [hu]; rfl⟩⟩⟩
  · -- same
    obtain ⟨n, x, rfl⟩ : ∃ n x, us = [n, x] := by
      match us, hl with
      | [n, x], _ => exact ⟨n, x, rfl⟩
    have e : argsV ["name", "name"] [n, x] = [if Cp12.isName n then .str (tx n) else .non, if Cp12.isName x then .str (tx x) else .non] := by
      show [argV "name" n, argV "name" x] = _
      rw [nm, nm]
    have ec : cmdP [u, n, x] = if Cp12.isName n = false then none else if Cp12.isName x then some (.same n x) else none := by
      simp only [Pb.cmdP]
      rw [if_neg hne, hu]
      simp (decide := true) only [if_true, if_false]
    show (inV .non (.str (tx u) :: argsV ["name", "name"] [n, x]) = true → _) ∧ _
    rw [e, ec]
    cases hn : Cp12.isName n with
    | false => exact ⟨fun _ => rfl, fun z => by cases hx : Cp12.isName x <;> rw [hx] at z <;> cases z⟩
    | true =>
      cases hx : Cp12.isName x with
      | false => exact ⟨fun _ => rfl, fun z => by cases z⟩
      | true => exact ⟨fun z => (by cases z), fun _ => ⟨.same n x, rfl, fun G a hG => ⟨a, _, rfl, hG, by rw [hu]; rfl⟩⟩⟩
  · exact one .uses rfl (fun n hn => by simp only [Pb.cmdP]; rw [if_neg hne, if_pos hn]) (fun n hn => by simp only [Pb.cmdP]; rw [if_neg hne, if_neg (by rw [hn]; decide), hu]; simp (decide := true) only [if_true, if_false]) (fun n G a h => ⟨a, _, rfl, h, by rw [hu]⟩)
  · exact one .users rfl (fun n hn => by simp only [Pb.cmdP]; rw [if_neg hne, if_pos hn]) (fun n hn => by simp only [Pb.cmdP]; rw [if_neg hne, if_neg (by rw [hn]; decide), hu]; simp (decide := true) only [if_true, if_false]) (fun n G a h => ⟨a, _, rfl, h, by rw [hu]⟩)
  · exact zero .list rfl (by rw [hu]; rfl) (fun G a h => ⟨a, _, rfl, h, by rw [hu]⟩)
  · exact zero .dump rfl (by rw [hu]; rfl) (fun G a h => ⟨a, _, rfl, h, by rw [hu]⟩)
end
end Pbd
namespace Pbd
open PySem PySem.Spec PyProof.Rows L2 TL
open Cp12 (Bytes ascii names value Def Book)
open Pb (rpn okE usesD has Good okD readW changeP cmdP)
theorem find_behind {u : Bytes} {p : String × List Str} (h : (behind.find? fun p => decide (u = ascii p.1)) = some p) : p ∈ behind ∧ u = ascii p.1 := ⟨List.mem_of_find?_eq_some h, by simpa using List.find?_some h⟩
theorem none_behind {u : Bytes} {us : List Bytes} (h : (behind.find? fun p => decide (u = ascii p.1)) = none) (hne : ¬ (u = ascii "theme" ∨ u = ascii "part")) : cmdP (u :: us) = none := by
  have q : ∀ p ∈ behind, u ≠ ascii p.1 := fun p hp => by simpa using List.find?_eq_none.mp h p hp
  simp only [behind, List.forall_mem_cons, List.not_mem_nil, false_implies, implies_true, and_true] at q
  obtain ⟨q1, q2, q3, q4, q5, q6, q7, q8, q9, q10⟩ := q
  simp only [Pb.cmdP]
  rw [if_neg hne]
  match us with
  | [] => simp only [q2, q9, q10, if_false]
  | [n] => simp only [q1, q3, q4, q7, q8, if_false, ite_self]
  | [n, x] => simp only [q5, q6, if_false, ite_self]
  | _ :: _ :: _ :: _ => rfl
theorem len_behind {u : Bytes} {us : List Bytes} {p : String × List Str} (hp : p ∈ behind) (hu : u = ascii p.1) (hl : us.length ≠ p.2.length) : cmdP (u :: us) = none := by
  have hne : ¬ (u = ascii "theme" ∨ u = ascii "part") := by
    rintro (h | h) <;> rw [hu] at h <;> revert h <;> clear hl hu <;> revert p <;> decide +kernel
  simp only [Pb.cmdP]
  rw [if_neg hne, hu]
  simp only [behind, List.mem_cons, List.not_mem_nil, or_false] at hp
  match us, hl with
  | [], hl => rcases hp with rfl | rfl | rfl | rfl | rfl | rfl | rfl | rfl | rfl | rfl <;> first | exact absurd rfl hl | simp (decide := true) only [if_false]
  | [n], hl => rcases hp with rfl | rfl | rfl | rfl | rfl | rfl | rfl | rfl | rfl | rfl <;> first | exact absurd rfl hl | simp (decide := true) only [if_false, ite_self]
  | [n, x], hl => rcases hp with rfl | rfl | rfl | rfl | rfl | rfl | rfl | rfl | rfl | rfl <;> first | exact absurd rfl hl | simp (decide := true) only [if_false, ite_self]
  | _ :: _ :: _ :: _, hl => rfl
theorem args_len (ks : List Str) (us : List Bytes) (h : us.length = ks.length) : (argsV ks us).length = us.length := by
  unfold argsV
  rw [List.length_map, List.length_zip]; omega
theorem args_flat (ks : List Str) (us : List Bytes) : (argsV ks us).all flatV = true := by
  unfold argsV
  rw [List.all_map, List.all_eq_true]
  intro x _
  exact argV_flat _ _
section
variable {P : Program} {w : World} {K : PySem.W.Frag} {mg : Str → Option Value} {base : Heap} {aM aR aP aS aN aB : Addr}
theorem ok_read_command {f : Addr} {fd : FuncData} (F : Fun K "read_command" "read_command" s_read_command f fd) (T : Txt K w mg aM aR aP aS aN aB) (f_read_change : Callee P w K mg base "read_change" 6 ["words"] sp_read_change) (f_read_argument : Callee P w K mg base "read_argument" 2 ["kind", "word"] sp_read_argument) :
    FnOk P w K mg base CX0 7 f fd ["text"] sp_read_command := by
  refine F.ok sc_read_command (fun vs H Q E h => ?_) (fun cdv A outer s H vs Q E hr h => ?_)
  · obtain ⟨t, G, rfl, _⟩ := h; rfl
  · obtain ⟨t, G, rfl, ha, hl, hG, q⟩ := h
    refine ⟨_, (pss_cons (ps_set (i := 1) sc_read_command.nd rfl (Or.inl rfl) (pe_split (pv 0) pe_str)) (pss_cons (ps_if (PW.pt (pw_or (pt_cmpR op_eq (pe_ix ix_list (pv 1) pe_int (fun _ _ => rfl)) pe_str (nomark _)) (pw_or1 (pt_cmpR op_eq (pe_ix ix_list (pv 1) pe_int (fun _ _ => rfl)) pe_str (nomark _))))) (pss_one (ps_ret (pe_do f_read_change hr (by decide) (by rfl) (pa_cons (pv 1) pa_nil)))) pss_nil) (pss_cons (ps_if (PW.pt (pw_or (pt_cmpR op_notin_kd (pe_ix ix_list (pv 1) pe_int (fun _ _ => rfl)) (pe_gref (by rfl) T.g_WORDS_BEHIND) rfl) (pw_or1 (pt_cmpR op_ne (pe_callB call_len_seq (by rfl) T.b_len (by decide +kernel) (pa_cons (pv 1) pa_nil)) (pe_op op_add (pe_callB call_len_seq (by rfl) T.b_len (by decide +kernel) (pa_cons (pe_ix ix_kt (pe_gref (by rfl) T.g_WORDS_BEHIND) (pe_ix ix_list (pv 1) pe_int (fun _ _ => rfl)) (fun _ _ => rfl)) pa_nil)) pe_int) (nomark _))))) (pss_one (ps_ret pe_non)) pss_nil) (pss_cons (ps_set (i := 2) sc_read_command.nd rfl (Or.inl rfl) (pe_lst (pa_cons (pe_ix ix_list (pv 1) pe_int (fun _ _ => rfl)) pa_nil))) (pss_cons (ps_for PassesOwn.never rfl (pi_zipM (by rfl) T.b_zip (pa_cons (pe_ix ix_kt (pe_gref (by rfl) T.g_WORDS_BEHIND) (pe_ix ix_list (pv 1) pe_int (fun _ _ => rfl)) (fun _ _ => rfl)) (pa_cons (pe_slice sl_list (pv 1) (po_some pe_int) po_none) pa_nil))) (pg_tup rfl (pgs_cons (pg_name (i := 3) sc_read_command.nd rfl (Or.inl rfl)) (pgs_cons (pg_name (i := 4) sc_read_command.nd rfl (Or.inl rfl)) pgs_nil))) (pss_one (ps_expr (pe_bm PySem.F.plainAttrs_list PySem.F.slot_list_append PySem.F.type_list_append mt_append (pv 2) (pa_cons (pe_do f_read_argument hr (by decide) (by rfl) (pa_cons (pv 3) (pa_cons (pv 4) pa_nil))) pa_nil))))) (pss_one (ps_ret (pe_ifExp (pt_cmpR op_in_seq pe_non (pv 2) rfl) pe_non (pv 2))))))))), ?_⟩
    rw [Pb.cmd_eq] at q
    refine ⟨_, rfl, ⟨_, rfl⟩, tx t, tx [32], rfl, by rw [lit]; rfl, by decide, by rw [tx_len, szL]; omega, fun p hp => ?_⟩
    rw [split_tx t 32 (by decide)]
    have hlist : ((Cp12.parted 32 t).map tx).map V.str = wordsV (Cp12.parted 32 t) := by unfold wordsV; rw [List.map_map]; rfl
    rw [hlist]
    have g1 := Grow.new (o := .lst (wordsV (Cp12.parted 32 t))) hG hp
    have hok : WordsOk (Cp12.parted 32 t) := ⟨by have := parted_len 32 t; omega, fun u hu => ⟨parted_asc ha u hu, by have := (parted_mem 32 t u hu).2; omega⟩⟩
    have hGp : upd G p (.lst (wordsV (Cp12.parted 32 t))) p = some (.lst (wordsV (Cp12.parted 32 t))) := upd_same
    have hne0 := Pb.parted_ne' 32 t
    generalize upd H p (.lst (wordsV (Cp12.parted 32 t))) = H1 at *
    generalize upd G p (.lst (wordsV (Cp12.parted 32 t))) = G1 at *
    generalize Cp12.parted 32 t = ws at *
    have hHp := g1.i _ _ hGp
    obtain ⟨u, us, rfl⟩ : ∃ u us, ws = u :: us := by
      cases ws with
      | nil => exact absurd rfl hne0
      | cons u us => exact ⟨u, us, rfl⟩
    have hw0 : atI (wordsV (u :: us)) 0 = some (.str (tx u)) := atI_nat (j := 0) rfl
    obtain ⟨tf, hT, hTt⟩ := T.t_behind
    -- theme, part
    have change : (u = ascii "theme" ∨ u = ascii "part") → (tRet (tDo sp_read_change (tCons (tVar 1) tNil))) { nx := fun _ H' => Q .non H', rt := Q } [some (.str (tx t)), some (.ref p), none, none, none] H1 := by
      intro hc
      have e : cmdP (u :: us) = changeP (u :: us) := by simp only [Pb.cmdP]; rw [if_pos hc]
      rw [e] at q
      exact ⟨_, rfl, .ref p, u :: us, u, us, G1, rfl, rfl, hc, g1.i, ⟨p, rfl, hGp⟩, hok, fun r G2 H2 g2 hr2 => q _ _ _ (g1.trans g2) hr2⟩
    refine ⟨_, rfl, p, _, 0, _, rfl, rfl, SqL.of hHp, hw0, rfl, _, rfl, ?_⟩
    rw [eq_lit]
    refine if_b (fun c => ?_) (fun c => ?_)
    · exact change (.inl (of_decide_eq_true c))
    refine ⟨_, rfl, p, _, 0, _, rfl, rfl, SqL.of hHp, hw0, rfl, _, rfl, ?_⟩
    rw [eq_lit]
    refine if_b (fun c2 => ?_) (fun c2 => ?_)
    · exact change (.inr (of_decide_eq_true c2))
    have hne : ¬ (u = ascii "theme" ∨ u = ascii "part") := fun z => z.elim (of_decide_eq_false c) (of_decide_eq_false c2)
    clear change
    refine ⟨_, rfl, p, _, 0, _, rfl, rfl, SqL.of hHp, hw0, _, tx u, _, rfl, rfl, hT, _, rfl, ?_⟩
    rw [lookup_behind]
    cases hf : behind.find? fun p => decide (u = ascii p.1) with
    | none =>
      rw [none_behind hf hne] at q
      exact q _ _ _ g1 rfl
    | some b =>
      obtain ⟨hb, hub⟩ := find_behind hf
      have hlk : (behind.map fun p => (Str.ofString p.1, Value.ref (tf p.1))).lookup (tx u) = some (.ref (tf b.1)) := by rw [lookup_behind, hf]; rfl
      refine ⟨_, rfl, p, _, rfl, .inl (SqL.of hHp), _, rfl, p, _, 0, _, rfl, rfl, SqL.of hHp, hw0, _, tx u, _, _, .ref (tf b.1), rfl, rfl, hT, hlk, rfl, tf b.1, _, rfl, .inr (hTt b hb _), _, _, rfl, rfl, rfl, _, rfl, ?_⟩
      have hlenN : ∀ n m : Nat, (!decide (V.int (n : Nat) = V.int ((m : Nat) + 1))) = !decide (n = m + 1) := fun n m => by
        congr 1
        by_cases c : n = m + 1
        · subst c; simp
        · rw [decide_eq_false c, decide_eq_false]
          intro z
          have := V.int.inj z
          omega
      refine if_b (fun c3 => ?_) (fun c3 => ?_)
      · have c3 : us.length ≠ b.2.length := by
          have c3 : (!decide (V.int (((wordsV (u :: us)).length : Nat) : Int) = V.int (((b.2.map V.str).length : Nat) + 1))) = true := c3
          rw [hlenN, words_len, List.length_map, List.length_cons] at c3
          have := of_decide_eq_false (by simpa only [Bool.not_eq_true'] using c3)
          omega
        rw [len_behind hb hub c3] at q
        exact q _ _ _ g1 rfl
      have c3 : us.length = b.2.length := by
        have c3 : (!decide (V.int (((wordsV (u :: us)).length : Nat) : Int) = V.int (((b.2.map V.str).length : Nat) + 1))) = false := c3
        rw [hlenN, words_len, List.length_map, List.length_cons] at c3
        have := of_decide_eq_true (by simpa only [Bool.not_eq_false'] using c3)
        omega
      refine ⟨_, rfl, p, _, 0, _, rfl, rfl, SqL.of hHp, hw0, (by show 1 ≤ sizeLine; decide), fun d hd => ?_⟩
      have gd1 : G1 d = none := g1.i.free hd
      have g2 : Grow G1 H1 G1 (upd H1 d (.lst [.str (tx u)])) := Grow.of g1.i (same_new hd)
      have hHp2 := g2.h _ _ hHp
      refine ⟨_, rfl, p, _, 0, _, rfl, rfl, SqL.of hHp2, hw0, _, tx u, _, _, .ref (tf b.1), rfl, rfl, hT, hlk, rfl, _, rfl, 1, rfl, p, _, rfl, SqL.of hHp2, fun c' hc' => ?_⟩
      rw [show cutV (wordsV (u :: us)) (some 1) none = wordsV us from cut_from 1 (u :: us)]
      have g3 : Grow G1 H1 G1 (upd (upd H1 d (.lst [.str (tx u)])) c' (.lst (wordsV us))) := g2.more (same_new hc')
      have hdc : d ≠ c' := fun z => by rw [z] at hc'; rw [← z, upd_same] at hc'; cases hc'
      have hd3 : upd (upd H1 d (.lst [.str (tx u)])) c' (.lst (wordsV us)) d = some (.lst [.str (tx u)]) := by rw [upd_ne hdc, upd_same]
      have hc3 : upd (upd H1 d (.lst [.str (tx u)])) c' (.lst (wordsV us)) c' = some (.lst (wordsV us)) := upd_same
      generalize upd (upd H1 d (.lst [.str (tx u)])) c' (.lst (wordsV us)) = H3 at *
      have hok1 : WordsOk us := hok.drop 1
      refine ⟨tf b.1, c', _, _, rfl, hTt b hb _, SqL.of hc3, for_zipM (K := K) (a := tf b.1) (b := c') (xs := b.2.map V.str) (ys := wordsV us) (fun i σ H' => ∃ y3 y4 : Option V, σ = [some (.str (tx t)), some (.ref p), some (.ref d), y3, y4] ∧ Same H1 H' ∧ H' d = some (.lst (.str (tx u) :: (argsV b.2 us).take i)) ∧ H' c' = some (.lst (wordsV us)))
        ⟨none, none, rfl, g3.h, hd3, hc3⟩ (fun i σ H' ⟨_, _, _, _, _, h4⟩ => ⟨hTt b hb _, SqL.of h4⟩) (fun i x y T' σ H' hx hy ⟨y3, y4, e, s', hd', hc4⟩ hT' => ?_) (fun σ H' ⟨y3, y4, e, s', hd', hc4⟩ => ?_)⟩
      · subst e
        rw [List.getElem?_map] at hx
        obtain ⟨k, hk, rfl⟩ := Option.map_eq_some_iff.mp hx
        unfold wordsV at hy
        rw [List.getElem?_map] at hy
        obtain ⟨v, hv, rfl⟩ := Option.map_eq_some_iff.mp hy
        obtain ⟨hv1, hv2⟩ := hok1.2 v (List.mem_of_getElem? hv)
        have sT := same_new (o := .tup [.str k, .str (tx v)]) hT'
        refine ⟨T', [.str k, .str (tx v)], rfl, SqT.of upd_same, rfl, _, _, rfl, _, _, rfl, rfl, ?_⟩
        refine ⟨_, rfl, .inl ⟨rfl, _, SqL.of (sT _ _ hd')⟩, _, rfl, _, rfl, k, v, rfl, hv1, hv2, d, _, _, rfl, rfl, sT _ _ hd', ?_, ?_⟩
        · rw [szL, List.length_cons, List.length_take, args_len _ _ c3]
          have := hok1.1
          omega
        · refine ⟨_, _, rfl, fun b' o e => ?_, ?_, ?_⟩
          · rw [upd_ne (ne_of_none e hd)]; exact sT _ _ (s' _ _ e)
          · rw [upd_same, args_take hk hv]; rfl
          · rw [upd_ne hdc.symm]; exact sT _ _ hc4
      · subst e
        have hmin : min (b.2.map V.str).length (wordsV us).length = (argsV b.2 us).length := by
          rw [List.length_map, words_len, args_len _ _ c3]; omega
        rw [hmin, List.take_length] at hd'
        obtain ⟨t1, t2⟩ := table_cmd hb hub c3
        have gf : Grow G H G1 H' := ⟨g1.h.trans s', g1.g, g1.i.trans s', g1.n⟩
        refine ⟨_, rfl, d, _, rfl, .inl (SqL.of hd'), rfl, (by rw [List.all_cons, args_flat]; rfl), _, rfl, if_b (fun c5 => ?_) (fun c5 => ?_)⟩
        · rw [t1 c5] at q
          exact q _ _ _ gf rfl
        · obtain ⟨cm, e1, e2⟩ := t2 c5
          rw [e1] at q
          refine ⟨_, rfl, q _ _ _ (gf.put ?_ hd' gd1) (e2 _ _ upd_same)⟩
          cases hHd : H d with
          | none => rfl
          | some o => rw [g1.h _ _ hHd] at hd; cases hd
end
end Pbd
namespace Pbd
open PySem PySem.Spec PyProof.Rows L2 TL
open Cp12 (Bytes ascii names value Def Book)
open Pb (rpn okE usesD has Good okD readW changeP cmdP okC)
/-! ### calls: a method of the desk, the desk made, a def of a table -/
structure MethOk (P : Program) (w : World) (K : PySem.W.Frag) (mg : Str → Option Value) (base : Heap) (C : Addr) (m : Str) (k : Nat) (ps : List Str) (sp : Sp) : Prop where
  ex : ∃ f fd, Cls K C ∧ Meth K C m f ∧ FnOk P w K mg base CX0 k f fd ps sp ∧ Binds K fd ps []
structure MkOk (P : Program) (w : World) (K : PySem.W.Frag) (mg : Str → Option Value) (base : Heap) (C : Addr) (x : Str) (k : Nat) (ps : List Str) (sp : Sp) : Prop where
  ex : ∃ f fd, Mk K C f ∧ mg x = some (.ref C) ∧ FnOk P w K mg base CX0 k f fd ps sp ∧ Binds K fd ps []
def HeldT (P : Program) (w : World) (K : PySem.W.Frag) (mg : Str → Option Value) (base : Heap) (k : Nat) (f : Addr) (sp : Sp) : Prop := ∃ fd ps, FnOk P w K mg base CX0 k f fd ps sp ∧ PySem.W.keepIn K (.ref f) = true ∧ Binds K fd ps []
def tAny (P : Program) (w : World) (K : PySem.W.Frag) (mg : Str → Option Value) (base : Heap) (k : Nat) (tf : TE) (t : TA) : TE := fun σ H Q => tf σ H fun v H1 => ∃ f sp, v = .ref f ∧ HeldT P w K mg base k f sp ∧ t σ H1 fun vs H2 => sp vs H2 Q E0
section
variable {X : Cx} {x m : Str} {k j : Nat} {ps : List Str} {sp : Sp} {p pos apos : Pos} {e o e0 : Expr} {es : List Expr} {t : TA} {ta tf : TE} {C : Addr}
theorem pe_own {pl : Sem Bool} (M : MethOk X.prog X.w X.K X.mg X.base C m k ps sp) (hr : Room j X.A) (hk : k ≤ j) (he : PE X o ta) (ha : PA X (e :: es) t)
    (hst : starEach (e :: es) X.env = (false, eval e X.env) :: starEach es X.env := by rfl) (hpl : (backTo pos (starEach es X.env)).any (·.1) = false := by rfl)
    (ht : eval (.Call (.Attribute o m apos) (e :: es) [] pos) X.env = (eval o X.env >>= fun ov => standAt apos.atName >>= fun _ => holding [ov] (getMethod ov m pl) >>= fun q => callWith pos q.1 q.2 (backTo pos (starEach (e :: es) X.env)) (backToKw pos (keywordEach [] X.env))) := by rfl) :
    PE X (.Call (.Attribute o m apos) (e :: es) [] pos) (tMeth C m sp [] E0 ta t) := by
  obtain ⟨f, fd, c, hm, F, hb⟩ := M.ex
  exact pe_meth (pl := pl) he c hm F (hr.mono hk) hb .nil (pass0 (X := X)) ha hst hpl ht
theorem pe_own0 {pl : Sem Bool} (M : MethOk X.prog X.w X.K X.mg X.base C m k ps sp) (hr : Room j X.A) (hk : k ≤ j) (he : PE X o ta)
    (ht : eval (.Call (.Attribute o m apos) [] [] pos) X.env = (eval o X.env >>= fun ov => standAt apos.atName >>= fun _ => holding [ov] (getMethod ov m pl) >>= fun q => callWith pos q.1 q.2 (backTo pos (starEach [] X.env)) (backToKw pos (keywordEach [] X.env))) := by rfl) :
    PE X (.Call (.Attribute o m apos) [] [] pos) (tMeth C m sp [] E0 ta tNil) := by
  obtain ⟨f, fd, c, hm, F, hb⟩ := M.ex
  exact pe_meth0 (pl := pl) he c hm F (hr.mono hk) hb .nil (pass0 (X := X)) ht
theorem pe_mk0 (M : MkOk X.prog X.w X.K X.mg X.base C x k ps sp) (hr : Room j X.A) (hk : k + 1 ≤ j) (hg : Gl X x) (hdb : (x == ("__debug__" : Str)) = false := by decide) : PE X (.Call (.Name x p) [] [] pos) (tMake C sp [] E0 tNil) := by
  obtain ⟨f, fd, hm, hx, F, hb⟩ := M.ex
  exact pe_make0 hm F (hr.mono hk) hg hx hb .nil (pass0 (X := X)) hdb
theorem pe_any (hk : k ≤ j) (hr : Room j X.A) (hf : PE X e0 tf) (ha : PA X (e :: es) t)
    (hst : starEach (e :: es) X.env = (false, eval e X.env) :: starEach es X.env := by rfl) (hpl : (backTo pos (starEach es X.env)).any (·.1) = false := by rfl)
    (hc : eval (.Call e0 (e :: es) [] pos) X.env = (do callWith pos (← eval e0 X.env) [] (backTo pos (starEach (e :: es) X.env)) (backToKw pos (keywordEach [] X.env))) := by rfl) :
    PE X (.Call e0 (e :: es) [] pos) (tAny X.prog X.w X.K X.mg X.base k tf t) := by
  refine ⟨fun pins s σ H Q I h => Call_ (thn (hf.run pins s σ H _ I h) fun u s1 hh => ?_) hc⟩
  obtain ⟨v, H1, I1, r1, f, sp, ev, ⟨fd, ps, F, hkp, hb⟩, q1⟩ := hh
  subst ev
  obtain rfl : u = Value.ref f := r1
  refine PySem.W.callWith_K (h₀ := X.base) I.ok.mod.kin hkp (thn (ha.run pos pins s1 σ H1 _ I1 q1) fun us s2 hh2 => ?_) hst hpl
  obtain ⟨vs, H2, I2, r2, q2⟩ := hh2
  exact ⟨I2.kIn, run_fn (ds := []) (dvs := []) F (hr.mono hk) hb .nil (pass0 (X := X)) I2 r2 (by rw [List.append_nil]; exact q2)⟩
end
/-! ### the desk in the heap -/
structure StateAt (G : Hp) (d la : Addr) (b : Book) : Prop where
  ex : ∃ kvs ls, G d = some (.dK kvs) ∧ G la = some (.dK ls) ∧ BookKV G kvs b ∧ LinesKV G ls b
  good : Good b
def PastAt (G : Hp) (v : V) (b : Book) : Prop := ∃ t d la, v = .ref t ∧ G t = some (.tup [.ref d, .ref la]) ∧ StateAt G d la b
def flds (d la pa : V) : List (Str × V) := [("definitions", d), ("lines", la), ("past", pa)]
theorem fld_d (d la pa : V) : (flds d la pa).lookup ("definitions" : Str) = some d := by
  unfold flds; rw [List.lookup_cons]; rw [show (("definitions" : Str) == "definitions") = true by decide +kernel]
theorem fld_l (d la pa : V) : (flds d la pa).lookup ("lines" : Str) = some la := by
  unfold flds; rw [List.lookup_cons, List.lookup_cons]; rw [show (("lines" : Str) == "definitions") = false by decide +kernel, show (("lines" : Str) == "lines") = true by decide +kernel]
theorem fld_p (d la pa : V) : (flds d la pa).lookup ("past" : Str) = some pa := by
  unfold flds; rw [List.lookup_cons, List.lookup_cons, List.lookup_cons]; rw [show (("past" : Str) == "definitions") = false by decide +kernel, show (("past" : Str) == "lines") = false by decide +kernel, show (("past" : Str) == "past") = true by decide +kernel]
theorem fld_on (d la pa : V) : (flds d la pa).lookup ("move_on" : Str) = none := by
  unfold flds; rw [List.lookup_cons, List.lookup_cons, List.lookup_cons]; rw [show (("move_on" : Str) == "definitions") = false by decide +kernel, show (("move_on" : Str) == "lines") = false by decide +kernel, show (("move_on" : Str) == "past") = false by decide +kernel]; rfl
theorem fld_back (d la pa : V) : (flds d la pa).lookup ("move_back" : Str) = none := by
  unfold flds; rw [List.lookup_cons, List.lookup_cons, List.lookup_cons]; rw [show (("move_back" : Str) == "definitions") = false by decide +kernel, show (("move_back" : Str) == "lines") = false by decide +kernel, show (("move_back" : Str) == "past") = false by decide +kernel]; rfl
theorem put_d (d la pa x : V) : putF "definitions" x (flds d la pa) = flds x la pa := by
  unfold flds; rw [putF, if_pos (by decide +kernel)]
theorem put_l (d la pa x : V) : putF "lines" x (flds d la pa) = flds d x pa := by
  unfold flds; rw [putF, if_neg (by decide +kernel), putF, if_pos (by decide +kernel)]
theorem put_p (d la pa x : V) : putF "past" x (flds d la pa) = flds d la x := by
  unfold flds; rw [putF, if_neg (by decide +kernel), putF, if_neg (by decide +kernel), putF, if_pos (by decide +kernel)]
theorem put_all (d la pa : V) : putF "past" pa (putF "lines" la (putF "definitions" d [])) = flds d la pa := by
  show putF "past" pa (putF "lines" la ([("definitions", d)] : List (Str × V))) = ([("definitions", d), ("lines", la), ("past", pa)] : List (Str × V))
  have e1 : putF "lines" la ([("definitions", d)] : List (Str × V)) = ([("definitions", d), ("lines", la)] : List (Str × V)) := by
    rw [putF, if_neg (by decide +kernel)]; rfl
  rw [e1, putF, if_neg (by decide +kernel), putF, if_neg (by decide +kernel)]; rfl
/-- the heap grows, all but the desk at p stays -/
structure GrowX (p : Addr) (G H G' H' : Hp) : Prop where
  h : ∀ b o, b ≠ p → H b = some o → H' b = some o
  g : Same G G'
  i : Same G' H'
  n : ∀ b, H b ≠ none → G b = none → G' b = none
theorem GrowX.of {p : Addr} {G H G' H' : Hp} (a : Grow G H G' H') : GrowX p G H G' H' := ⟨fun b o _ e => a.h b o e, a.g, a.i, a.n⟩
theorem GrowX.trans {p : Addr} {G H G1 H1 G2 H2 : Hp} (a : GrowX p G H G1 H1) (b : GrowX p G1 H1 G2 H2) (hp : H1 p ≠ none) : GrowX p G H G2 H2 :=
  ⟨fun x o hx e => b.h x o hx (a.h x o hx e), a.g.trans b.g, b.i, fun x h1 h2 => b.n x (fun q => by
    by_cases c : x = p
    · subst c; exact hp q
    · cases e : H x with
      | none => exact h1 e
      | some o => rw [a.h x o c e] at q; cases q) (a.n x h1 h2)⟩
/-- the desk itself is changed -/
theorem GrowX.put {p : Addr} {G H : Hp} {o : HO} (s : Same G H) (hp : G p = none) : GrowX p G H G (upd H p o) := ⟨fun b x hb e => by rw [upd_ne hb]; exact e, Same.refl _, same_out s hp, fun _ _ h => h⟩
structure DeskAt (C : Addr) (G H : Hp) (p : Addr) (s : Cp12.Desk) : Prop where
  out : G p = none
  ex : ∃ dx d la pa xs, H p = some (.ins C dx (flds (.ref d) (.ref la) (.ref pa))) ∧ G pa = some (.lst xs) ∧ StateAt G d la s.book ∧ Paired (PastAt G) xs s.past.reverse
  len : s.past.length ≤ 20
theorem bookKV_mono {G G' : Hp} {kvs : List (Key × V)} {b : Book} (s : Same G G') (h : BookKV G kvs b) : BookKV G' kvs b := paired_mono h fun _ _ q => ⟨q.1, q.2.mono s⟩
theorem linesKV_mono {G G' : Hp} {kvs : List (Key × V)} {b : Book} (s : Same G G') (h : LinesKV G kvs b) : LinesKV G' kvs b := ⟨h.1, fun d hd => by
  obtain ⟨x, l, h1, h2, h3, h4⟩ := h.2 d hd
  exact ⟨x, l, h1, h2.mono s, h3, h4⟩⟩
theorem StateAt.mono {G G' : Hp} {d la : Addr} {b : Book} (s : Same G G') (h : StateAt G d la b) : StateAt G' d la b := by
  obtain ⟨⟨kvs, ls, h1, h2, h3, h4⟩, g⟩ := h
  exact ⟨⟨kvs, ls, s _ _ h1, s _ _ h2, bookKV_mono s h3, linesKV_mono s h4⟩, g⟩
theorem PastAt.mono {G G' : Hp} {v : V} {b : Book} (s : Same G G') (h : PastAt G v b) : PastAt G' v b := by
  obtain ⟨t, d, la, h1, h2, h3⟩ := h
  exact ⟨t, d, la, h1, s _ _ h2, h3.mono s⟩
/-- the desk stands while the heap grows around it -/
theorem DeskAt.grow {C : Addr} {G H G' H' : Hp} {p : Addr} {s : Cp12.Desk} (D : DeskAt C G H p s) (g : Grow G H G' H') : DeskAt C G' H' p s := by
  obtain ⟨o, ⟨dx, d, la, pa, xs, h1, h2, h3, h4⟩, l⟩ := D
  exact ⟨g.out h1 o, ⟨dx, d, la, pa, xs, g.h _ _ h1, g.g _ _ h2, h3.mono g.g, paired_mono h4 fun _ _ q => q.mono g.g⟩, l⟩
theorem DeskAt.ne {C : Addr} {G H : Hp} {p : Addr} {s : Cp12.Desk} (D : DeskAt C G H p s) : H p ≠ none := by
  obtain ⟨_, ⟨dx, d, la, pa, xs, h1, _⟩, _⟩ := D
  rw [h1]; exact fun z => by cases z
/-- what the walk asks of the class -/
structure TxtD (K : PySem.W.Frag) (C : Addr) : Prop where
  cl : Cls K C
  nd : NoAttr K C "definitions"
  nl : NoAttr K C "lines"
  np : NoAttr K C "past"
section
variable {P : Program} {w : World} {K : PySem.W.Frag} {mg : Str → Option Value} {base : Heap} {aM aR aP aS aN aB C : Addr}
/-! ### Desk.__init__ -/
abbrev s_Desk___init__ : Stmt := inClass (top 69) 0
abbrev n_Desk___init__ : List Str := ["self"]
theorem sc_Desk___init__ : FnScope n_Desk___init__ ["self"] (defScope s_Desk___init__) := ⟨rfl, rfl, rfl, by decide +kernel, rfl, by decide +kernel, by decide +kernel⟩

def sp_init (C : Addr) : Sp := fun vs H Q _ => ∃ (p dx : Addr) (G : Hp), vs = [.ref p] ∧ Same G H ∧ G p = none ∧ H p = some (.ins C dx []) ∧ ∀ G' H', GrowX p G H G' H' → DeskAt C G' H' p Cp12.start → Q .non H'
theorem ok_init {f : Addr} {fd : FuncData} (F : Fun K "__init__" "Desk.__init__" s_Desk___init__ f fd) (T : Txt K w mg aM aR aP aS aN aB) (TD : TxtD K C) : FnOk P w K mg base CX0 1 f fd ["self"] (sp_init C) := by
  refine F.ok sc_Desk___init__ (fun vs H Q E h => ?_) (fun cdv A outer s H vs Q E hr h => ?_)
  · obtain ⟨p, dx, G, rfl, _⟩ := h; rfl
  · obtain ⟨p, dx, G, rfl, hG, hGp, hp, q⟩ := h
    refine ⟨_, (pss_cons (ps_fld (pv 0) pe_dnewK rfl) (pss_cons (ps_fld (pv 0) pe_dnewK rfl) (pss_one (ps_fld (pv 0) (pe_lst pa_nil) rfl)))), ?_⟩
    intro d hd
    have npd : p ≠ d := ne_of_none hp hd
    refine ⟨_, rfl, p, C, dx, [], rfl, (by rw [upd_ne npd]; exact hp), TD.cl, TD.nd, (by show 0 < 1000; decide), fun la hla => ?_⟩
    have g1 := Grow.new (o := .dK []) hG hd
    have hGp1 : upd G d (.dK []) p = none := g1.out hp hGp
    have x2 := GrowX.put (o := .ins C dx (putF "definitions" (.ref d) [])) g1.i hGp1
    have y2 := (GrowX.of (p := p) g1).trans x2 (by rw [upd_ne npd, hp]; exact fun z => by cases z)
    have hp2 : upd (upd H d (.dK [])) p (.ins C dx (putF "definitions" (.ref d) [])) p = some (.ins C dx (putF "definitions" (.ref d) [])) := upd_same
    have hd2 : upd G d (.dK []) d = some (.dK []) := upd_same
    generalize upd (upd H d (.dK [])) p (.ins C dx (putF "definitions" (.ref d) [])) = H2 at *
    generalize upd G d (.dK []) = G2 at *
    have npl : p ≠ la := ne_of_none hp2 hla
    refine ⟨_, rfl, p, C, dx, _, rfl, (by rw [upd_ne npl]; exact hp2), TD.cl, TD.nl, (by show 1 < 1000; decide), (by show 0 ≤ sizeLine; decide), fun pa hpa => ?_⟩
    have g3 := Grow.new (o := .dK []) y2.i hla
    have hGp3 : upd G2 la (.dK []) p = none := g3.out hp2 hGp1
    have x4 := GrowX.put (o := .ins C dx (putF "lines" (.ref la) (putF "definitions" (.ref d) []))) g3.i hGp3
    have y4 := (y2.trans (GrowX.of (p := p) g3) (by rw [hp2]; exact fun z => by cases z)).trans x4 (by rw [upd_ne npl, hp2]; exact fun z => by cases z)
    have hp4 : upd (upd H2 la (.dK [])) p (.ins C dx (putF "lines" (.ref la) (putF "definitions" (.ref d) []))) p = some (.ins C dx (putF "lines" (.ref la) (putF "definitions" (.ref d) []))) := upd_same
    have hd4 : upd G2 la (.dK []) d = some (.dK []) := g3.g _ _ hd2
    have hl4 : upd G2 la (.dK []) la = some (.dK []) := upd_same
    generalize upd (upd H2 la (.dK [])) p (.ins C dx (putF "lines" (.ref la) (putF "definitions" (.ref d) []))) = H4 at *
    generalize upd G2 la (.dK []) = G4 at *
    have npp : p ≠ pa := ne_of_none hp4 hpa
    refine ⟨_, rfl, p, C, dx, _, rfl, (by rw [upd_ne npp]; exact hp4), TD.cl, TD.np, (by show 2 < 1000; decide), ?_⟩
    have g5 := Grow.new (o := .lst []) y4.i hpa
    have hGp5 : upd G4 pa (.lst []) p = none := g5.out hp4 hGp3
    rw [put_all]
    have x6 := GrowX.put (o := .ins C dx (flds (.ref d) (.ref la) (.ref pa))) g5.i hGp5
    have y6 := (y4.trans (GrowX.of (p := p) g5) (by rw [hp4]; exact fun z => by cases z)).trans x6 (by rw [upd_ne npp, hp4]; exact fun z => by cases z)
    refine q _ _ y6 ⟨hGp5, ⟨dx, d, la, pa, [], upd_same, upd_same, ⟨⟨[], [], g5.g _ _ hd4, g5.g _ _ hl4, .nil, ⟨by simp, fun d hd => by cases hd⟩⟩, Good.nil⟩, .nil⟩, by simp [Cp12.start]⟩
end
end Pbd
namespace Pbd
open PySem PySem.Spec PyProof.Rows L2 TL
open Cp12 (Bytes ascii names value Def Book)
open Pb (rpn okE usesD has Good okD readW changeP cmdP okC)
theorem cut_last (n : Nat) (hn : 0 < n) (xs : List V) : cutV xs (some (-(n : Int))) none = xs.drop (xs.length - n) := by
  have e : HT.sIx xs.length 0 (some (-(n : Int))) = xs.length - n := by
    show (if (-(n : Int)) < 0 then ((-(n : Int)) + (xs.length : Int)).toNat else _) = _
    rw [if_pos (by omega)]; omega
  unfold cutV
  rw [e, HT.sIx_none]
  apply List.take_of_length_le
  rw [List.length_drop]; omega
theorem cut_init (xs : List V) (x : V) : cutV (xs ++ [x]) none (some (-1)) = xs := by
  have e : HT.sIx (xs ++ [x]).length (xs ++ [x]).length (some (-1)) = xs.length := by
    show (if (-1 : Int) < 0 then ((-1 : Int) + ((xs ++ [x]).length : Int)).toNat else min (-1 : Int).toNat (xs ++ [x]).length) = _
    rw [if_pos (by omega), List.length_append, List.length_singleton]; omega
  unfold cutV
  rw [e, HT.sIx_none, List.drop_zero, Nat.sub_zero, List.take_left]
theorem past_take {α : Type} (b : α) (l : List α) (n : Nat) : ((b :: l).take n).reverse = (l.reverse ++ [b]).drop ((l.reverse ++ [b]).length - n) := by
  have e : l.reverse ++ [b] = (b :: l).reverse := by simp
  rw [e, List.length_reverse, ← List.reverse_take]
theorem paired_drop {α β : Type} {F : α → β → Prop} : ∀ (n : Nat) {l : List α} {m : List β}, Paired F l m → Paired F (l.drop n) (m.drop n)
  | 0, _, _, h => h
  | n + 1, _, _, .nil => .nil
  | n + 1, _, _, .cons _ t => by simpa using paired_drop n t
section
variable {P : Program} {w : World} {K : PySem.W.Frag} {mg : Str → Option Value} {base : Heap} {aM aR aP aS aN aB C : Addr}
/-! ### Desk.move_on -/
abbrev s_Desk_move_on : Stmt := inClass (top 69) 1
abbrev n_Desk_move_on : List Str := ["self", "definitions", "lines", "past"]
theorem sc_Desk_move_on : FnScope n_Desk_move_on ["self", "definitions", "lines"] (defScope s_Desk_move_on) := ⟨rfl, rfl, rfl, by decide +kernel, rfl, by decide +kernel, by decide +kernel⟩

def sp_move_on (C : Addr) : Sp := fun vs H Q _ => ∃ (p d la : Addr) (s : Cp12.Desk) (b : Book) (G : Hp), vs = [.ref p, .ref d, .ref la] ∧ Same G H ∧ DeskAt C G H p s ∧ StateAt G d la b ∧ ∀ G' H', GrowX p G H G' H' → DeskAt C G' H' p ⟨b, (s.book :: s.past).take 20⟩ → Q .non H'
theorem ok_move_on {f : Addr} {fd : FuncData} (F : Fun K "move_on" "Desk.move_on" s_Desk_move_on f fd) (T : Txt K w mg aM aR aP aS aN aB) (TD : TxtD K C) : FnOk P w K mg base CX0 1 f fd ["self", "definitions", "lines"] (sp_move_on C) := by
  refine F.ok sc_Desk_move_on (fun vs H Q E h => ?_) (fun cdv A outer s H vs Q E hr h => ?_)
  · obtain ⟨p, d, la, s, b, G, rfl, _⟩ := h; rfl
  · obtain ⟨p, d, la, s, b, G, rfl, hG, ⟨hGp, ⟨dx, d0, la0, pa, xs, hp, hpa, hS, hP⟩, hl⟩, hb, q⟩ := h
    refine ⟨_, (pss_cons (ps_set (i := 3) sc_Desk_move_on.nd rfl (Or.inl rfl) (pe_op op_cat (pe_fld (pv 0) rfl) (pe_lst (pa_cons (pe_tup (pa_cons (pe_fld (pv 0) rfl) (pa_cons (pe_fld (pv 0) rfl) pa_nil))) pa_nil)))) (pss_cons (ps_fld (pv 0) (pe_slice sl_list (pv 3) (po_some (pe_un un_neg (pe_gint (by rfl) T.g_MOST_UNDONE))) po_none) rfl) (pss_cons (ps_fld (pv 0) (pv 1) rfl) (pss_one (ps_fld (pv 0) (pv 2) rfl))))), ?_⟩
    have hxl := paired_len hP
    rw [List.length_reverse] at hxl
    refine ⟨_, rfl, p, C, dx, _, _, rfl, hp, TD.cl, TD.np, fld_p _ _ _, _, rfl, p, C, dx, _, _, rfl, hp, TD.cl, TD.nd, fld_d _ _ _, _, rfl, p, C, dx, _, _, rfl, hp, TD.cl, TD.nl, fld_l _ _ _, (by show 2 ≤ sizeLine; decide), fun t ht => ⟨(by show 1 ≤ sizeLine; decide), fun u hu => ?_⟩⟩
    have g1 := Grow.new (o := .tup [.ref d0, .ref la0]) hG ht
    have ht1 : upd G t (.tup [.ref d0, .ref la0]) t = some (.tup [.ref d0, .ref la0]) := upd_same
    generalize upd H t (.tup [.ref d0, .ref la0]) = H1 at *
    generalize upd G t (.tup [.ref d0, .ref la0]) = G1 at *
    have g2 : Grow G H G1 (upd H1 u (.lst [.ref t])) := g1.more (same_new hu)
    have hu2 : upd H1 u (.lst [.ref t]) u = some (.lst [.ref t]) := upd_same
    generalize upd H1 u (.lst [.ref t]) = H2 at *
    refine ⟨pa, u, xs, [.ref t], rfl, rfl, g2.i _ _ (g2.g _ _ hpa), hu2, (by rw [szL, hxl]; simp only [List.length_singleton]; omega), fun c hc => ?_⟩
    have g3 : Grow G H G1 (upd H2 c (.lst (xs ++ [.ref t]))) := g2.more (same_new hc)
    have hc3 : upd H2 c (.lst (xs ++ [.ref t])) c = some (.lst (xs ++ [.ref t])) := upd_same
    generalize upd H2 c (.lst (xs ++ [.ref t])) = H3 at *
    refine ⟨_, rfl, _, rfl, _, rfl, c, _, rfl, SqL.of hc3, fun e he => ?_⟩
    have hp1 : Paired (PastAt G1) (xs ++ [.ref t]) (s.past.reverse ++ [s.book]) := paired_snoc (paired_mono hP fun _ _ z => z.mono g3.g) ⟨t, d0, la0, rfl, ht1, hS.mono g3.g⟩
    have hcut : cutV (xs ++ [V.ref t]) (some (-20)) none = (xs ++ [V.ref t]).drop ((xs ++ [V.ref t]).length - 20) := cut_last 20 (by decide) _
    have hp2 : Paired (PastAt G1) (cutV (xs ++ [V.ref t]) (some (-20)) none) ((s.book :: s.past).take 20).reverse := by
      rw [hcut, past_take, paired_len hp1]
      exact paired_drop _ hp1
    generalize cutV (xs ++ [V.ref t]) (some (-20)) none = ys at *
    have g4 := Grow.new (o := .lst ys) g3.i he
    have g5 := g3.trans g4
    have hp5 := g5.h _ _ hp
    have hGp5 := g5.out hp hGp
    have he5 : upd G1 e (.lst ys) e = some (.lst ys) := upd_same
    generalize upd H3 e (.lst ys) = H5 at *
    generalize upd G1 e (.lst ys) = G5 at *
    refine ⟨_, rfl, p, C, dx, _, rfl, hp5, TD.cl, TD.np, (by show 3 < 1000; decide), ?_⟩
    rw [put_p]
    refine ⟨_, rfl, _, rfl, p, C, dx, _, rfl, upd_same, TD.cl, TD.nd, (by show 3 < 1000; decide), ?_⟩
    rw [put_d]
    refine ⟨_, rfl, _, rfl, p, C, dx, _, rfl, upd_same, TD.cl, TD.nl, (by show 3 < 1000; decide), ?_⟩
    rw [put_l]
    have x1 := (GrowX.of (p := p) g5).trans (GrowX.put (o := .ins C dx (flds (.ref d0) (.ref la0) (.ref e))) g5.i hGp5) (by rw [hp5]; exact fun z => by cases z)
    have x2 := x1.trans (GrowX.put (o := .ins C dx (flds (.ref d) (.ref la0) (.ref e))) x1.i hGp5) (by rw [upd_same]; exact fun z => by cases z)
    have x3 := x2.trans (GrowX.put (o := .ins C dx (flds (.ref d) (.ref la) (.ref e))) x2.i hGp5) (by rw [upd_same]; exact fun z => by cases z)
    exact q _ _ x3 ⟨hGp5, ⟨dx, d, la, e, ys, upd_same, he5, hb.mono g5.g, paired_mono hp2 fun _ _ z => z.mono g4.g⟩, by simp only [List.length_take]; omega⟩
/-! ### Desk.move_back -/
abbrev s_Desk_move_back : Stmt := inClass (top 69) 2
abbrev n_Desk_move_back : List Str := ["self", "state"]
theorem sc_Desk_move_back : FnScope n_Desk_move_back ["self"] (defScope s_Desk_move_back) := ⟨rfl, rfl, rfl, by decide +kernel, rfl, by decide +kernel, by decide +kernel⟩

def sp_move_back (C : Addr) : Sp := fun vs H Q _ => ∃ (p : Addr) (s : Cp12.Desk) (b : Book) (l : List Book) (G : Hp), vs = [.ref p] ∧ Same G H ∧ DeskAt C G H p s ∧ s.past = b :: l ∧ ∀ G' H', GrowX p G H G' H' → DeskAt C G' H' p ⟨b, l⟩ → Q .non H'
theorem ok_move_back {f : Addr} {fd : FuncData} (F : Fun K "move_back" "Desk.move_back" s_Desk_move_back f fd) (T : Txt K w mg aM aR aP aS aN aB) (TD : TxtD K C) : FnOk P w K mg base CX0 1 f fd ["self"] (sp_move_back C) := by
  refine F.ok sc_Desk_move_back (fun vs H Q E h => ?_) (fun cdv A outer s H vs Q E hr h => ?_)
  · obtain ⟨p, s, b, l, G, rfl, _⟩ := h; rfl
  · obtain ⟨p, s, b, l, G, rfl, hG, ⟨hGp, ⟨dx, d0, la0, pa, xs, hp, hpa, hS, hP⟩, hl⟩, hb, q⟩ := h
    refine ⟨_, (pss_cons (ps_set (i := 1) sc_Desk_move_back.nd rfl (Or.inl rfl) (pe_ix ix_list (pe_fld (pv 0) rfl) (pe_un un_neg pe_int) (fun _ _ => rfl))) (pss_cons (ps_fld (pv 0) (pe_slice sl_list (pe_fld (pv 0) rfl) po_none (po_some (pe_un un_neg pe_int))) rfl) (pss_cons (ps_fld (pv 0) (pe_ix ix_tup (pv 1) pe_int (fun _ _ => rfl)) rfl) (pss_one (ps_fld (pv 0) (pe_ix ix_tup (pv 1) pe_int (fun _ _ => rfl)) rfl))))), ?_⟩
    rw [hb, List.reverse_cons] at hP
    obtain ⟨ys, x, rfl, hP1, t, d, la, rfl, ht, hS1⟩ : ∃ ys x, xs = ys ++ [x] ∧ Paired (PastAt G) ys l.reverse ∧ PastAt G x b := by
      have h1 := paired_reverse hP
      rw [List.reverse_append, List.reverse_reverse] at h1
      cases hx : xs.reverse with
      | nil => rw [hx] at h1; cases h1
      | cons x r =>
        rw [hx] at h1
        cases h1 with
        | cons r1 r2 =>
          refine ⟨r.reverse, x, ?_, paired_reverse r2, r1⟩
          have := congrArg List.reverse hx
          rw [List.reverse_reverse, List.reverse_cons] at this
          exact this
    have hpaH := hG _ _ hpa
    refine ⟨_, rfl, p, C, dx, _, _, rfl, hp, TD.cl, TD.np, fld_p _ _ _, _, rfl, pa, _, -1, _, rfl, rfl, SqL.of hpaH, atI_last _ _, ?_⟩
    refine ⟨_, rfl, p, C, dx, _, _, rfl, hp, TD.cl, TD.np, fld_p _ _ _, _, rfl, _, rfl, pa, _, rfl, SqL.of hpaH, fun e he => ?_⟩
    have hcut : cutV (ys ++ [V.ref t]) none (some (-1)) = ys := cut_init _ _
    rw [hcut]
    have g5 := Grow.new (o := .lst ys) hG he
    have hp5 := g5.h _ _ hp
    have hGp5 := g5.out hp hGp
    have he5 : upd G e (.lst ys) e = some (.lst ys) := upd_same
    generalize upd H e (.lst ys) = H5 at *
    generalize upd G e (.lst ys) = G5 at *
    have htp : t ≠ p := fun z => by rw [z, hGp] at ht; cases ht
    have ht5 := g5.i _ _ (g5.g _ _ ht)
    refine ⟨_, rfl, p, C, dx, _, rfl, hp5, TD.cl, TD.np, (by show 3 < 1000; decide), ?_⟩
    rw [put_p]
    refine ⟨_, rfl, t, _, 0, _, rfl, rfl, SqT.of (by rw [upd_ne htp]; exact ht5), atI_nat (j := 0) rfl, _, rfl, p, C, dx, _, rfl, upd_same, TD.cl, TD.nd, (by show 3 < 1000; decide), ?_⟩
    rw [put_d]
    refine ⟨_, rfl, t, _, 1, _, rfl, rfl, SqT.of (by rw [upd_ne htp, upd_ne htp]; exact ht5), atI_nat (j := 1) rfl, _, rfl, p, C, dx, _, rfl, upd_same, TD.cl, TD.nl, (by show 3 < 1000; decide), ?_⟩
    rw [put_l]
    have x1 := (GrowX.of (p := p) g5).trans (GrowX.put (o := .ins C dx (flds (.ref d0) (.ref la0) (.ref e))) g5.i hGp5) (by rw [hp5]; exact fun z => by cases z)
    have x2 := x1.trans (GrowX.put (o := .ins C dx (flds (.ref d) (.ref la0) (.ref e))) x1.i hGp5) (by rw [upd_same]; exact fun z => by cases z)
    have x3 := x2.trans (GrowX.put (o := .ins C dx (flds (.ref d) (.ref la) (.ref e))) x2.i hGp5) (by rw [upd_same]; exact fun z => by cases z)
    refine q _ _ x3 ⟨hGp5, ⟨dx, d, la, e, ys, upd_same, he5, hS1.mono g5.g, paired_mono hP1 fun _ _ z => z.mono g5.g⟩, ?_⟩
    rw [hb] at hl
    simp only [List.length_cons] at hl
    show l.length ≤ 20
    omega
end
end Pbd
namespace Pbd
open PySem PySem.Spec PyProof.Rows L2 TL
open Cp12 (Bytes ascii names value Def Book)
open Pb (rpn okE usesD has Good okD readW changeP cmdP okC)
theorem length_le {l : Line} (h : Cp12.fine l = true) : Cp12.length l ≤ 204800 ∧ l.length ≤ 200 := by
  have h1 : ∀ e ∈ l, e.len ≤ 1024 := fun e he => by
    have := fine_ok h e he
    simp only [okEv, Bool.and_eq_true, decide_eq_true_eq] at this
    exact this.2.2
  have h2 : l.length ≤ 200 := (Pb.fine_iff.mp h).1
  refine ⟨?_, h2⟩
  have h3 : ∀ (m : Line) (n : Nat), (∀ e ∈ m, e.len ≤ 1024) → (m.map fun e => e.len).foldl (· + ·) n ≤ n + m.length * 1024 := by
    intro m
    induction m with
    | nil => intro n _; simp
    | cons e r ih =>
      intro n q
      have := ih (n + e.len) fun x hx => q x (List.mem_cons_of_mem _ hx)
      have he := q e (by simp)
      simp only [List.map_cons, List.foldl_cons, List.length_cons]
      omega
  have := h3 l 0 h1
  show (l.map fun e => e.len).foldl (· + ·) 0 ≤ 204800
  omega
theorem empty_add (u : Bytes) : Str.empty ++ tx u = tx u := ext_tl (by rw [tl_append]; rfl)
section
variable {P : Program} {w : World} {K : PySem.W.Frag} {mg : Str → Option Value} {base : Heap} {aM aR aP aS aN aB C : Addr}
/-! ### size_text -/
abbrev s_size_text : Stmt := top 83
abbrev n_size_text : List Str := ["line", "count", "length"]
theorem sc_size_text : FnScope n_size_text ["line"] (defScope s_size_text) := ⟨rfl, rfl, rfl, by decide +kernel, rfl, by decide +kernel, by decide +kernel⟩

def sp_size_text : Sp := fun vs H Q _ => ∃ (v : V) (l : Line), vs = [v] ∧ LineAt H v l ∧ Cp12.fine l = true ∧ ∀ H', Same H H' → Q (.str (tx (Cp12.joined 32 [Cp12.decimal l.length, Cp12.decimal (Cp12.length l)]))) H'
theorem ok_size_text {f : Addr} {fd : FuncData} (F : Fun K "size_text" "size_text" s_size_text f fd) (T : Txt K w mg aM aR aP aS aN aB) (f_line_length : Callee P w K mg base "line_length" 1 ["line"] sp_line_length) : FnOk P w K mg base CX0 2 f fd ["line"] sp_size_text := by
  refine F.ok sc_size_text (fun vs H Q E h => ?_) (fun cdv A outer s H vs Q E hr h => ?_)
  · obtain ⟨v, l, rfl, _⟩ := h; rfl
  · obtain ⟨v, l, rfl, hv, hf, q⟩ := h
    refine ⟨_, (pss_cons (ps_set (i := 1) sc_size_text.nd rfl (Or.inl rfl) (pe_callB call_len_seq (by rfl) T.b_len (by decide +kernel) (pa_cons (pv 0) pa_nil))) (pss_cons (ps_set (i := 2) sc_size_text.nd rfl (Or.inl rfl) (pe_do f_line_length hr (by decide) (by rfl) (pa_cons (pv 0) pa_nil))) (pss_one (ps_ret (pe_joined (.cons (pe_fmt (pv 1)) (.cons pe_str (.cons (pe_fmt (pv 2)) .nil)))))))), ?_⟩
    have hv' := hv
    obtain ⟨a, xs, rfl, ha, hp⟩ := hv'
    have hxl := paired_len hp
    obtain ⟨h1, h2⟩ := length_le hf
    refine ⟨_, rfl, a, _, rfl, .inl (SqL.of ha), _, rfl, _, l, rfl, hv, by omega, fun H1 s1 => ?_⟩
    have d1 : (Cp12.decimal l.length).length ≤ 12 := dec_len (by omega)
    have d2 : (Cp12.decimal (Cp12.length l)).length ≤ 12 := dec_len (by omega)
    rw [hxl]
    refine ⟨_, rfl, .inr ⟨((l.length : Nat) : Int), rfl, log_small (by omega) (by omega), _, rfl, by rw [tx_num, empty_add, tx_len, szL]; omega, ?_⟩⟩
    rw [tx_num, empty_add]
    refine ⟨_, rfl, by rw [lit_sp]; exact joined_len (by rw [szL, List.length_singleton]; omega), ?_⟩
    rw [lit_sp, tx_append]
    refine ⟨_, rfl, .inr ⟨((Cp12.length l : Nat) : Int), rfl, log_small (by omega) (by omega), _, rfl, by rw [tx_num]; exact joined_len (by rw [szL, List.length_append, List.length_singleton]; omega), ?_⟩⟩
    rw [tx_num, tx_append]
    have e : Cp12.decimal l.length ++ [32] ++ Cp12.decimal (Cp12.length l) = Cp12.joined 32 [Cp12.decimal l.length, Cp12.decimal (Cp12.length l)] := by
      simp [Cp12.joined]
    rw [e]
    exact q H1 s1
/-! ### counted_text -/
abbrev s_counted_text : Stmt := top 84
abbrev n_counted_text : List Str := ["words"]
theorem sc_counted_text : FnScope n_counted_text ["words"] (defScope s_counted_text) := ⟨rfl, rfl, rfl, by decide +kernel, rfl, by decide +kernel, by decide +kernel⟩

def sp_counted_text : Sp := fun vs H Q _ => ∃ (p : Addr) (ws : List Bytes), vs = [.ref p] ∧ H p = some (.lst (wordsV ws)) ∧ ws.length ≤ 1000 ∧ (∀ u ∈ ws, u.length ≤ 100) ∧ ∀ H', Same H H' → Q (.str (tx (Cp12.joined 32 (Cp12.decimal ws.length :: ws)))) H'
theorem ok_counted_text {f : Addr} {fd : FuncData} (F : Fun K "counted_text" "counted_text" s_counted_text f fd) (T : Txt K w mg aM aR aP aS aN aB) : FnOk P w K mg base CX0 1 f fd ["words"] sp_counted_text := by
  refine F.ok sc_counted_text (fun vs H Q E h => ?_) (fun cdv A outer s H vs Q E hr h => ?_)
  · obtain ⟨p, ws, rfl, _⟩ := h; rfl
  · obtain ⟨p, ws, rfl, hp, hl, hu, q⟩ := h
    refine ⟨_, (pss_one (ps_ret (pe_join pe_str (pe_op op_cat (pe_lst (pa_cons (pe_callTy call_str_int (by rfl) T.b_str (by decide +kernel) (pa_cons (pe_callB call_len_seq (by rfl) T.b_len (by decide +kernel) (pa_cons (pv 0) pa_nil)) pa_nil)) pa_nil)) (pv 0))))), ?_⟩
    have d1 : (Cp12.decimal ws.length).length ≤ 12 := dec_len (by omega)
    refine ⟨⟨_, rfl⟩, _, rfl, p, _, rfl, .inl (SqL.of hp), _, rfl, log_small (by rw [words_len]; omega) (by rw [words_len]; omega), (by show 1 ≤ sizeLine; decide), fun c hc => ?_⟩
    rw [words_len]
    have e0 : (.str (toString ((ws.length : Nat) : Int)) : V) = .str (tx (Cp12.decimal ws.length)) := congrArg V.str (tx_num _)
    rw [e0]
    have s1 := same_new (o := .lst [.str (tx (Cp12.decimal ws.length))]) hc
    refine ⟨_, rfl, c, p, _, _, rfl, rfl, upd_same, s1 _ _ hp, (by rw [szL, words_len]; simp only [List.length_singleton]; omega), fun e he => ?_⟩
    rw [lit_sp]
    refine join_ok (k := 100) (ws := Cp12.decimal ws.length :: ws) upd_same (fun u h => ?_) (by simp only [List.length_cons]; omega) (q _ (s1.trans (same_new he)))
    rcases List.mem_cons.mp h with rfl | h
    · omega
    · exact hu u h
/-! ### listing_text -/
abbrev s_listing_text : Stmt := top 85
abbrev n_listing_text : List Str := ["definitions", "names", "name"]
theorem sc_listing_text : FnScope n_listing_text ["definitions", "names"] (defScope s_listing_text) := ⟨rfl, rfl, rfl, by decide +kernel, rfl, by decide +kernel, by decide +kernel⟩

def sp_listing_text : Sp := fun vs H Q _ => ∃ (a o : Addr) (kvs : List (Key × V)) (b ds : Book), vs = [.ref a, .ref o] ∧ H a = some (.dK kvs) ∧ BookKV H kvs b ∧ Good b ∧ H o = some (.lst (wordsV (ds.map (·.name)))) ∧ (∀ d ∈ ds, d ∈ b) ∧ ds.length ≤ 12 ∧ ∀ H', Same H H' → Q (.str (tx (Cp12.listed (ds.map Cp12.defText)))) H'
theorem ok_listing_text {f : Addr} {fd : FuncData} (F : Fun K "listing_text" "listing_text" s_listing_text f fd) (T : Txt K w mg aM aR aP aS aN aB) (f_definition_text : Callee P w K mg base "definition_text" 5 ["name", "definition"] sp_definition_text) : FnOk P w K mg base CX0 6 f fd ["definitions", "names"] sp_listing_text := by
  refine F.ok sc_listing_text (fun vs H Q E h => ?_) (fun cdv A outer s H vs Q E hr h => ?_)
  · obtain ⟨a, o, kvs, b, ds, rfl, _⟩ := h; rfl
  · obtain ⟨a, o, kvs, b, ds, rfl, ha, hb, hg, ho, hds, hl, q⟩ := h
    have hu := hu_of hr
    refine ⟨_, (pss_one (ps_ret (pe_join pe_str (pe_op op_cat (pe_lst (pa_cons (pe_callTy call_str_int (by rfl) T.b_str (by decide +kernel) (pa_cons (pe_callB call_len_seq (by rfl) T.b_len (by decide +kernel) (pa_cons (pv 1) pa_nil)) pa_nil)) pa_nil)) (pe_lc (own := [("name", 2)]) (g := gName 2) rfl sc_listing_text.nd (pi_list (pv 1)) (blkOk_by (own := [("name", 2)]) (N := n_listing_text) (sc := defScope s_listing_text) (by decide +kernel)) (fun _ _ _ _ _ => pg_name (i := 2) sc_listing_text.nd rfl (Or.inl rfl)) (fun _ _ _ _ _ => pts_nil) (fun _ _ _ _ _ => (pe_do f_definition_text hr (by decide) (by rfl) (pa_cons (pv 2) (pa_cons (pe_dget hu (pv 0) (pv 2) (fun _ _ => rfl)) pa_nil))))))))), ?_⟩
    have d1 : (Cp12.decimal ds.length).length ≤ 12 := dec_len (by omega)
    refine ⟨⟨_, rfl⟩, _, rfl, o, _, rfl, .inl (SqL.of ho), _, rfl, log_small (by rw [words_len]; omega) (by rw [words_len, List.length_map]; omega), (by show 1 ≤ sizeLine; decide), fun c hc => ?_⟩
    rw [words_len, List.length_map]
    have e0 : (.str (toString ((ds.length : Nat) : Int)) : V) = .str (tx (Cp12.decimal ds.length)) := congrArg V.str (tx_num _)
    rw [e0]
    have s1 := same_new (o := .lst [.str (tx (Cp12.decimal ds.length))]) hc
    have hc1 : upd H c (.lst [.str (tx (Cp12.decimal ds.length))]) c = some (.lst [.str (tx (Cp12.decimal ds.length))]) := upd_same
    generalize upd H c (.lst [.str (tx (Cp12.decimal ds.length))]) = H1 at *
    refine ⟨_, rfl, o, rfl, ⟨_, SqL.of (s1 _ _ ho)⟩, fun D hD => ?_⟩
    refine lc_vals (xs := wordsV (ds.map (·.name))) (ys := wordsV (ds.map Cp12.defText)) (SqL.of (s1 _ _ ho)) hD (by rw [words_len, words_len, List.length_map, List.length_map]) (by rw [words_len, List.length_map]; omega) (fun _ => rfl) (fun i x y H' Q' hx hy s' k => ?_) (fun H' s' hD' => ?_)
    · unfold wordsV at hx hy
      rw [List.getElem?_map, List.getElem?_map] at hx hy
      cases hd : ds[i]? with
      | none => rw [hd] at hx; cases hx
      | some d =>
        rw [hd] at hx hy
        cases hx
        cases hy
        have hm := hds d (List.mem_of_getElem? hd)
        obtain ⟨x, hx, hdx⟩ := hb.mem hg.nd hm
        exact ⟨_, rfl, _, rfl, _, rfl, a, x, rfl, by rw [← hx]; exact DGet.k (k := .inr (tx d.name)) (s' _ _ (s1 _ _ ha)), x, d, rfl, hdx.mono (s1.trans s'), hg.ok d hm, k⟩
    · refine ⟨c, D, _, _, rfl, rfl, s' _ _ hc1, hD', (by rw [szL, words_len]; simp only [List.length_singleton, List.length_map]; omega), fun e he => ?_⟩
      have el : Str.ofString "\n" = tx [10] := by rw [lit]; rfl
      rw [el]
      have er : Cp12.listed (ds.map Cp12.defText) = Cp12.joined 10 (Cp12.decimal ds.length :: ds.map Cp12.defText) := by unfold Cp12.listed; rw [List.length_map]
      rw [er] at q
      refine join_ok (k := 60000) (ws := Cp12.decimal ds.length :: ds.map Cp12.defText) upd_same (fun u h => ?_) (by simp only [List.length_cons, List.length_map]; omega) (q _ ((s1.trans s').trans (same_new he)))
      rcases List.mem_cons.mp h with rfl | h
      · omega
      · obtain ⟨d, hd, rfl⟩ := List.mem_map.mp h
        obtain ⟨x, hx, hdx⟩ := hb.mem hg.nd (hds d hd)
        exact defText_len hdx (hg.ok d (hds d hd))
end
end Pbd
namespace Pbd
open PySem PySem.Spec PyProof.Rows L2 TL
open Cp12 (Bytes ascii names value Def Book)
open Pb (rpn okE usesD has Good okD readW changeP cmdP okC)
def sp_ans (C : Addr) (isC : Cp12.Cmd → Prop) : Sp := fun vs H Q _ => ∃ (p : Addr) (v : V) (s : Cp12.Desk) (c : Cp12.Cmd) (G : Hp), vs = [.ref p, v] ∧ Same G H ∧ DeskAt C G H p s ∧ CmdAt G v c ∧ okC c ∧ isC c ∧ ∀ G' H', GrowX p G H G' H' → DeskAt C G' H' p (Cp12.does s c).1 → Q (.str (tx (Cp12.does s c).2)) H'
/-- a query leaves the desk as it was -/
theorem quiet {C : Addr} {G H : Hp} {p : Addr} {s : Cp12.Desk} {c : Cp12.Cmd} {Q : VK} {t : Bytes} (hG : Same G H) (D : DeskAt C G H p s) (e : Cp12.does s c = (s, t)) (q : ∀ G' H', GrowX p G H G' H' → DeskAt C G' H' p (Cp12.does s c).1 → Q (.str (tx (Cp12.does s c).2)) H') : ∀ H', Same H H' → Q (.str (tx t)) H' := by
  intro H' s'
  rw [e] at q
  exact q G H' (GrowX.of (Grow.of hG s')) (D.grow (Grow.of hG s'))
theorem ans {s : String} {t : Bytes} (e : t = ascii s) {Q : VK} {H : Hp} (h : Q (.str (tx t)) H) : Q (.str (Str.ofString s)) H := by rw [lit, ← e]; exact h
theorem lit_no (w : String) : Str.ofString ("no " ++ w) = tx (Cp12.no w) := lit _
theorem any_has (b : Book) (n : Bytes) : (b.any fun d => d.name == n) = has b n := rfl
theorem not_in {G : Hp} {kvs : List (Key × V)} {b : Book} {n : Bytes} {A B : Prop} (hkv : BookKV G kvs b) (h0 : has b n = false → A) (h1 : has b n = true → B) : if (!(valV kvs (.inr (tx n))).isSome) = true then A else B := by
  rw [hkv.has]
  cases h : has b n with
  | false => exact h0 h
  | true => exact h1 h
theorem line_of {G : Hp} {ls : List (Key × V)} {b : Book} {n : Bytes} (hls : LinesKV G ls b) (h : has b n = true) : ∃ x l, valV ls (.inr (tx n)) = some x ∧ LineAt G x l ∧ Cp12.line b n = some l ∧ Cp12.fine l = true := by
  obtain ⟨d, hd, rfl⟩ := Pb.mem_of_has h
  exact hls.2 d hd
theorem good_name {b : Book} (g : Good b) {n : Bytes} (h : has b n = true) : n.length ≤ 8 := by
  obtain ⟨d, hd, rfl⟩ := Pb.mem_of_has h
  exact name_len (g.ok d hd).1
theorem users_ok {b : Book} (g : Good b) (n : Bytes) : (Cp12.users b n).length ≤ 12 ∧ ∀ u ∈ Cp12.users b n, u.length ≤ 8 := by
  unfold Cp12.users
  refine ⟨?_, fun u hu => ?_⟩
  · rw [List.length_map]
    exact Nat.le_trans (List.length_filter_le _ _) g.len
  · obtain ⟨d, hd, rfl⟩ := List.mem_map.mp hu
    exact name_len (g.ok d (List.mem_filter.mp hd).1).1
theorem onAt_le : ∀ (l : Line) (i0 s0 t i s : Nat) (e : Ev), (∀ x ∈ l, x.len ≤ 1024) → Cp12.onAt i0 s0 l t = some (i, s, e) → s ≤ s0 + l.length * 1024
  | [], i0, s0, t, i, s, e, _, h => by simp [Cp12.onAt] at h
  | x :: l, i0, s0, t, i, s, e, hx, h => by
    simp only [Cp12.onAt] at h
    split at h
    · cases h; omega
    · have h1 := onAt_le l _ _ t i s e (fun y hy => hx y (List.mem_cons_of_mem _ hy)) h
      have h2 := hx x (by simp)
      simp only [List.length_cons]; omega
theorem len_ok {l : Line} (h : Cp12.fine l = true) : ∀ e ∈ l, e.len ≤ 1024 := fun e he => by
  have := fine_ok h e he
  simp only [okEv, Bool.and_eq_true, decide_eq_true_eq] at this
  exact this.2.2
section
variable {P : Program} {w : World} {K : PySem.W.Frag} {mg : Str → Option Value} {base : Heap} {aM aR aP aS aN aB C : Addr}
/-! ### answer_long -/
abbrev s_answer_long : Stmt := top 76
abbrev n_answer_long : List Str := ["desk", "command"]
theorem sc_answer_long : FnScope n_answer_long ["desk", "command"] (defScope s_answer_long) := ⟨rfl, rfl, rfl, by decide +kernel, rfl, by decide +kernel, by decide +kernel⟩

theorem ok_answer_long {f : Addr} {fd : FuncData} (F : Fun K "answer_long" "answer_long" s_answer_long f fd) (T : Txt K w mg aM aR aP aS aN aB) (TD : TxtD K C) (f_size_text : Callee P w K mg base "size_text" 2 ["line"] sp_size_text) : FnOk P w K mg base CX0 3 f fd ["desk", "command"] (sp_ans C fun c => ∃ n, c = .long n) := by
  refine F.ok sc_answer_long (fun vs H Q E h => ?_) (fun cdv A outer s H vs Q E hr h => ?_)
  · obtain ⟨p, v, s, c, G, rfl, _⟩ := h; rfl
  · obtain ⟨p, v, s, c, G, rfl, hG, D, ⟨a, items, rfl, ha, hit⟩, hok, ⟨n, rfl⟩, q⟩ := h
    have hu := hu_of hr
    refine ⟨_, (pss_cons (ps_if (pt_cmp (pc_dnotin hu (pe_ix ix_list (pv 1) pe_int (fun _ _ => rfl)) (pe_fld (pv 0) rfl))) (pss_one (ps_ret pe_str)) pss_nil) (pss_one (ps_ret (pe_do f_size_text hr (by decide) (by rfl) (pa_cons (pe_dget hu (pe_fld (pv 0) rfl) (pe_ix ix_list (pv 1) pe_int (fun _ _ => rfl)) (fun _ _ => rfl)) pa_nil))))), ?_⟩
    have q' := fun t e => quiet (t := t) hG D e q
    obtain ⟨hGp, ⟨dx, d, la, pa, xs, hp, hpa, ⟨⟨kvs, ls, hd, hla, hkv, hls⟩, hgood⟩, hP⟩, hl⟩ := D
    have hit : items = [.str (tx (ascii "long")), .str (tx n)] := hit
    subst hit
    have haH := hG _ _ ha
    have w1 : atI [V.str (tx (ascii "long")), .str (tx n)] 1 = some (.str (tx n)) := atI_nat (j := 1) rfl
    refine ⟨_, rfl, a, _, 1, _, rfl, rfl, SqL.of haH, w1, _, rfl, p, C, dx, _, _, rfl, hp, TD.cl, TD.nd, fld_d _ _ _, d, _, rfl, DGet.k (k := .inr (tx n)) (hG _ _ hd), _, rfl, ?_⟩
    refine not_in hkv (fun c => ?_) (fun c => ?_)
    · exact ans (t := Cp12.no "name") (by decide) (q' _ (by simp only [Cp12.does, Pb.line_none c]) H (Same.refl _))
    · obtain ⟨x, l, hx, hxl, hl1, hf⟩ := line_of hls c
      exact ⟨_, rfl, p, C, dx, _, _, rfl, hp, TD.cl, TD.nl, fld_l _ _ _, _, rfl, a, _, 1, _, rfl, rfl, SqL.of haH, w1, la, x, rfl, by rw [← hx]; exact DGet.k (k := .inr (tx n)) (hG _ _ hla), x, l, rfl, hxl.mono hG, hf, q' _ (by simp only [Cp12.does, hl1])⟩
/-! ### answer_show -/
abbrev s_answer_show : Stmt := top 75
abbrev n_answer_show : List Str := ["desk", "command", "event"]
theorem sc_answer_show : FnScope n_answer_show ["desk", "command"] (defScope s_answer_show) := ⟨rfl, rfl, rfl, by decide +kernel, rfl, by decide +kernel, by decide +kernel⟩

theorem ok_answer_show {f : Addr} {fd : FuncData} (F : Fun K "answer_show" "answer_show" s_answer_show f fd) (T : Txt K w mg aM aR aP aS aN aB) (TD : TxtD K C) (f_counted_text : Callee P w K mg base "counted_text" 1 ["words"] sp_counted_text) (f_event_text : Callee P w K mg base "event_text" 2 ["event"] sp_event_text) : FnOk P w K mg base CX0 3 f fd ["desk", "command"] (sp_ans C fun c => ∃ n, c = .show n) := by
  refine F.ok sc_answer_show (fun vs H Q E h => ?_) (fun cdv A outer s H vs Q E hr h => ?_)
  · obtain ⟨p, v, s, c, G, rfl, _⟩ := h; rfl
  · obtain ⟨p, v, s, c, G, rfl, hG, D, ⟨a, items, rfl, ha, hit⟩, hok, ⟨n, rfl⟩, q⟩ := h
    have hu := hu_of hr
    refine ⟨_, (pss_cons (ps_if (pt_cmp (pc_dnotin hu (pe_ix ix_list (pv 1) pe_int (fun _ _ => rfl)) (pe_fld (pv 0) rfl))) (pss_one (ps_ret pe_str)) pss_nil) (pss_one (ps_ret (pe_do f_counted_text hr (by decide) (by rfl) (pa_cons (pe_lc (own := [("event", 2)]) (g := gName 2) rfl sc_answer_show.nd (pi_list (pe_dget hu (pe_fld (pv 0) rfl) (pe_ix ix_list (pv 1) pe_int (fun _ _ => rfl)) (fun _ _ => rfl))) (blkOk_by (own := [("event", 2)]) (N := n_answer_show) (sc := defScope s_answer_show) (by decide +kernel)) (fun _ _ _ _ _ => pg_name (i := 2) sc_answer_show.nd rfl (Or.inl rfl)) (fun _ _ _ _ _ => pts_nil) (fun _ _ _ _ _ => (pe_do f_event_text hr (by decide) (by rfl) (pa_cons (pv 2) pa_nil)))) pa_nil))))), ?_⟩
    have q' := fun t e => quiet (t := t) hG D e q
    obtain ⟨hGp, ⟨dx, d, la, pa, xs, hp, hpa, ⟨⟨kvs, ls, hd, hla, hkv, hls⟩, hgood⟩, hP⟩, hl⟩ := D
    have hit : items = [.str (tx (ascii "show")), .str (tx n)] := hit
    subst hit
    have haH := hG _ _ ha
    have w1 : atI [V.str (tx (ascii "show")), .str (tx n)] 1 = some (.str (tx n)) := atI_nat (j := 1) rfl
    refine ⟨_, rfl, a, _, 1, _, rfl, rfl, SqL.of haH, w1, _, rfl, p, C, dx, _, _, rfl, hp, TD.cl, TD.nd, fld_d _ _ _, d, _, rfl, DGet.k (k := .inr (tx n)) (hG _ _ hd), _, rfl, ?_⟩
    refine not_in hkv (fun c => ?_) (fun c => ?_)
    · exact ans (t := Cp12.no "name") (by decide) (q' _ (by simp only [Cp12.does, Pb.line_none c]) H (Same.refl _))
    · obtain ⟨x, l, hx, hxl, hl1, hf⟩ := line_of hls c
      have hxl' := hxl
      obtain ⟨xa, ys, rfl, hxa, hpy⟩ := hxl'
      have hyl := paired_len hpy
      have hl2 := (length_le hf).2
      have hev := fine_ok hf
      refine ⟨_, rfl, p, C, dx, _, _, rfl, hp, TD.cl, TD.nl, fld_l _ _ _, _, rfl, a, _, 1, _, rfl, rfl, SqL.of haH, w1, la, .ref xa, rfl, by rw [← hx]; exact DGet.k (k := .inr (tx n)) (hG _ _ hla), xa, rfl, ⟨_, SqL.of (hG _ _ hxa)⟩, fun D hD => ?_⟩
      refine lc_vals (xs := ys) (ys := wordsV (l.map Cp12.eventText)) (SqL.of (hG _ _ hxa)) hD (by rw [words_len, List.length_map]; exact hyl.symm) (by omega) (fun _ => rfl) (fun i x y H' Q' hx hy s' k => ?_) (fun H' s' hD' => ?_)
      · obtain ⟨e, he, hev1⟩ := paired_get hpy hx
        have : (wordsV (l.map Cp12.eventText))[i]? = some (.str (tx (Cp12.eventText e))) := words_get (by rw [List.getElem?_map, he]; rfl)
        rw [this] at hy
        cases hy
        exact ⟨_, rfl, _, e, rfl, hev1.mono (hG.trans s'), hev e (List.mem_of_getElem? he), k _ (Same.refl _)⟩
      · refine ⟨D, l.map Cp12.eventText, rfl, hD', by rw [List.length_map]; omega, fun u hu => ?_, fun H2 s2 => ?_⟩
        · obtain ⟨e, he, rfl⟩ := List.mem_map.mp hu
          have := eventText_len (hev e he); omega
        · exact q' _ (by simp only [Cp12.does, hl1, List.length_map]) H2 (s'.trans s2)
/-! ### answer_at -/
abbrev s_answer_at : Stmt := top 77
abbrev n_answer_at : List Str := ["desk", "command", "line", "found"]
theorem sc_answer_at : FnScope n_answer_at ["desk", "command"] (defScope s_answer_at) := ⟨rfl, rfl, rfl, by decide +kernel, rfl, by decide +kernel, by decide +kernel⟩

theorem ok_answer_at {f : Addr} {fd : FuncData} (F : Fun K "answer_at" "answer_at" s_answer_at f fd) (T : Txt K w mg aM aR aP aS aN aB) (TD : TxtD K C) (f_find_event : Callee P w K mg base "find_event" 1 ["line", "time"] sp_find_event) (f_event_text : Callee P w K mg base "event_text" 2 ["event"] sp_event_text) : FnOk P w K mg base CX0 3 f fd ["desk", "command"] (sp_ans C fun c => ∃ n t, c = .at_ n t) := by
  refine F.ok sc_answer_at (fun vs H Q E h => ?_) (fun cdv A outer s H vs Q E hr h => ?_)
  · obtain ⟨p, v, s, c, G, rfl, _⟩ := h; rfl
  · obtain ⟨p, v, s, c, G, rfl, hG, D, ⟨a, items, rfl, ha, hit⟩, hok, ⟨n, t, rfl⟩, q⟩ := h
    have hu := hu_of hr
    refine ⟨_, (pss_cons (ps_if (pt_cmp (pc_dnotin hu (pe_ix ix_list (pv 1) pe_int (fun _ _ => rfl)) (pe_fld (pv 0) rfl))) (pss_one (ps_ret pe_str)) pss_nil) (pss_cons (ps_set (i := 2) sc_answer_at.nd rfl (Or.inl rfl) (pe_dget hu (pe_fld (pv 0) rfl) (pe_ix ix_list (pv 1) pe_int (fun _ _ => rfl)) (fun _ _ => rfl))) (pss_cons (ps_set (i := 3) sc_answer_at.nd rfl (Or.inl rfl) (pe_do f_find_event hr (by decide) (by rfl) (pa_cons (pv 2) (pa_cons (pe_ix ix_list (pv 1) pe_int (fun _ _ => rfl)) pa_nil)))) (pss_cons (ps_if (pt_cmpR op_isN (pv 3) pe_non (nomark _)) (pss_one (ps_ret pe_str)) pss_nil) (pss_one (ps_ret (pe_join pe_str (pe_lst (pa_cons (pe_callTy call_str_int (by rfl) T.b_str (by decide +kernel) (pa_cons (pe_ix ix_tup (pv 3) pe_int (fun _ _ => rfl)) pa_nil)) (pa_cons (pe_callTy call_str_int (by rfl) T.b_str (by decide +kernel) (pa_cons (pe_ix ix_tup (pv 3) pe_int (fun _ _ => rfl)) pa_nil)) (pa_cons (pe_do f_event_text hr (by decide) (by rfl) (pa_cons (pe_ix ix_list (pv 2) (pe_ix ix_tup (pv 3) pe_int (fun _ _ => rfl)) (fun _ _ => rfl)) pa_nil)) pa_nil))))))))))), ?_⟩
    have q' := fun t e => quiet (t := t) hG D e q
    obtain ⟨hGp, ⟨dx, d, la, pa, xs, hp, hpa, ⟨⟨kvs, ls, hd, hla, hkv, hls⟩, hgood⟩, hP⟩, hl⟩ := D
    have hit : items = [.str (tx (ascii "at")), .str (tx n), .int (t : Nat)] := hit
    subst hit
    have haH := hG _ _ ha
    have w1 : atI [V.str (tx (ascii "at")), .str (tx n), .int (t : Nat)] 1 = some (.str (tx n)) := atI_nat (j := 1) rfl
    have w2 : atI [V.str (tx (ascii "at")), .str (tx n), .int (t : Nat)] 2 = some (.int (t : Nat)) := atI_nat (j := 2) rfl
    refine ⟨_, rfl, a, _, 1, _, rfl, rfl, SqL.of haH, w1, _, rfl, p, C, dx, _, _, rfl, hp, TD.cl, TD.nd, fld_d _ _ _, d, _, rfl, DGet.k (k := .inr (tx n)) (hG _ _ hd), _, rfl, ?_⟩
    refine not_in hkv (fun c => ?_) (fun c => ?_)
    · exact ans (t := Cp12.no "name") (by decide) (q' _ (by simp only [Cp12.does, Pb.line_none c]) H (Same.refl _))
    · obtain ⟨x, l, hx, hxl, hl1, hf⟩ := line_of hls c
      have hxl' := hxl
      obtain ⟨xa, ys, rfl, hxa, hpy⟩ := hxl'
      have hl2 := (length_le hf).2
      have hev := fine_ok hf
      refine ⟨_, rfl, p, C, dx, _, _, rfl, hp, TD.cl, TD.nl, fld_l _ _ _, _, rfl, a, _, 1, _, rfl, rfl, SqL.of haH, w1, la, .ref xa, rfl, by rw [← hx]; exact DGet.k (k := .inr (tx n)) (hG _ _ hla), ?_⟩
      refine ⟨_, rfl, _, rfl, a, _, 2, _, rfl, rfl, SqL.of haH, w2, .ref xa, t, l, rfl, hxl.mono hG, by omega, fun ho H1 s1 => ?_, fun i b e ho H1 fp s1 hfp => ?_⟩
      · exact ⟨_, rfl, rfl, _, rfl, ans (t := Cp12.no "time") (by decide) (q' _ (by simp only [Cp12.does, hl1, ho]) H1 s1)⟩
      · obtain ⟨hi0, hie⟩ := onAt_ix _ _ _ _ _ _ _ ho
        rw [Nat.sub_zero] at hie
        have hil : i < l.length := (List.getElem?_eq_some_iff.mp hie).1
        have hbl := onAt_le _ _ _ _ _ _ _ (len_ok hf) ho
        obtain ⟨y, hy, hye⟩ := paired_get' hpy hie
        have d1 : (Cp12.decimal i).length ≤ 12 := dec_len (by omega)
        have d2 : (Cp12.decimal b).length ≤ 12 := dec_len (by omega)
        have d3 := eventText_len (hev e (List.mem_of_getElem? hie))
        have f0 : atI [V.int (i : Nat), .int (b : Nat)] 0 = some (.int (i : Nat)) := atI_nat (j := 0) rfl
        have f1 : atI [V.int (i : Nat), .int (b : Nat)] 1 = some (.int (b : Nat)) := atI_nat (j := 1) rfl
        refine ⟨_, rfl, rfl, _, rfl, ?_⟩
        refine ⟨⟨_, rfl⟩, _, rfl, fp, _, 0, _, rfl, rfl, SqT.of hfp, f0, _, rfl, log_small (by omega) (by omega), _, rfl, fp, _, 1, _, rfl, rfl, SqT.of hfp, f1, _, rfl, log_small (by omega) (by omega), ?_⟩
        refine ⟨_, rfl, _, rfl, fp, _, 0, _, rfl, rfl, SqT.of hfp, f0, xa, _, _, y, rfl, rfl, SqL.of (s1 _ _ (hG _ _ hxa)), atI_nat hy, y, e, rfl, hye.mono (hG.trans s1), hev e (List.mem_of_getElem? hie), (by show 3 ≤ sizeLine; decide), fun o ho1 => ?_⟩
        have e1 : (.str (toString ((i : Nat) : Int)) : V) = .str (tx (Cp12.decimal i)) := congrArg V.str (tx_num _)
        have e2 : (.str (toString ((b : Nat) : Int)) : V) = .str (tx (Cp12.decimal b)) := congrArg V.str (tx_num _)
        rw [e1, e2, lit_sp]
        refine join_ok (k := 60) (ws := [Cp12.decimal i, Cp12.decimal b, Cp12.eventText e]) upd_same (fun u hu => ?_) (by simp only [List.length_cons, List.length_nil]; omega) (q' _ (by simp only [Cp12.does, hl1, ho]) _ (s1.trans (same_new ho1)))
        simp only [List.mem_cons, List.not_mem_nil, or_false] at hu
        rcases hu with rfl | rfl | rfl <;> omega
/-! ### answer_same -/
abbrev s_answer_same : Stmt := top 78
abbrev n_answer_same : List Str := ["desk", "command", "index"]
theorem sc_answer_same : FnScope n_answer_same ["desk", "command"] (defScope s_answer_same) := ⟨rfl, rfl, rfl, by decide +kernel, rfl, by decide +kernel, by decide +kernel⟩

theorem ok_answer_same {f : Addr} {fd : FuncData} (F : Fun K "answer_same" "answer_same" s_answer_same f fd) (T : Txt K w mg aM aR aP aS aN aB) (TD : TxtD K C) (f_first_difference : Callee P w K mg base "first_difference" 1 ["line", "other"] sp_first_difference) : FnOk P w K mg base CX0 2 f fd ["desk", "command"] (sp_ans C fun c => ∃ n m, c = .same n m) := by
  refine F.ok sc_answer_same (fun vs H Q E h => ?_) (fun cdv A outer s H vs Q E hr h => ?_)
  · obtain ⟨p, v, s, c, G, rfl, _⟩ := h; rfl
  · obtain ⟨p, v, s, c, G, rfl, hG, D, ⟨a, items, rfl, ha, hit⟩, hok, ⟨n, m, rfl⟩, q⟩ := h
    have hu := hu_of hr
    refine ⟨_, (pss_cons (ps_if (PW.pt (pw_or (pt_cmp (pc_dnotin hu (pe_ix ix_list (pv 1) pe_int (fun _ _ => rfl)) (pe_fld (pv 0) rfl))) (pw_or1 (pt_cmp (pc_dnotin hu (pe_ix ix_list (pv 1) pe_int (fun _ _ => rfl)) (pe_fld (pv 0) rfl)))))) (pss_one (ps_ret pe_str)) pss_nil) (pss_cons (ps_set (i := 2) sc_answer_same.nd rfl (Or.inl rfl) (pe_do f_first_difference hr (by decide) (by rfl) (pa_cons (pe_dget hu (pe_fld (pv 0) rfl) (pe_ix ix_list (pv 1) pe_int (fun _ _ => rfl)) (fun _ _ => rfl)) (pa_cons (pe_dget hu (pe_fld (pv 0) rfl) (pe_ix ix_list (pv 1) pe_int (fun _ _ => rfl)) (fun _ _ => rfl)) pa_nil)))) (pss_one (ps_ret (pe_ifExp (pt_cmpR op_isN (pv 2) pe_non (nomark _)) pe_str (pe_joined (.cons pe_str (.cons (pe_fmt (pv 2)) .nil)))))))), ?_⟩
    have q' := fun t e => quiet (t := t) hG D e q
    obtain ⟨hGp, ⟨dx, d, la, pa, xs, hp, hpa, ⟨⟨kvs, ls, hd, hla, hkv, hls⟩, hgood⟩, hP⟩, hl⟩ := D
    have hit : items = [.str (tx (ascii "same")), .str (tx n), .str (tx m)] := hit
    subst hit
    have haH := hG _ _ ha
    have w1 : atI [V.str (tx (ascii "same")), .str (tx n), .str (tx m)] 1 = some (.str (tx n)) := atI_nat (j := 1) rfl
    have w2 : atI [V.str (tx (ascii "same")), .str (tx n), .str (tx m)] 2 = some (.str (tx m)) := atI_nat (j := 2) rfl
    refine ⟨_, rfl, a, _, 1, _, rfl, rfl, SqL.of haH, w1, _, rfl, p, C, dx, _, _, rfl, hp, TD.cl, TD.nd, fld_d _ _ _, d, _, rfl, DGet.k (k := .inr (tx n)) (hG _ _ hd), _, rfl, ?_⟩
    refine not_in hkv (fun c => ?_) (fun c => ?_)
    · refine ans (t := Cp12.no "name") (by decide) (q' _ ?_ H (Same.refl _))
      simp only [Cp12.does, Pb.line_none c]
    refine ⟨_, rfl, a, _, 2, _, rfl, rfl, SqL.of haH, w2, _, rfl, p, C, dx, _, _, rfl, hp, TD.cl, TD.nd, fld_d _ _ _, d, _, rfl, DGet.k (k := .inr (tx m)) (hG _ _ hd), _, rfl, ?_⟩
    refine not_in hkv (fun c2 => ?_) (fun c2 => ?_)
    · refine ans (t := Cp12.no "name") (by decide) (q' _ ?_ H (Same.refl _))
      simp only [Cp12.does, Pb.line_none c2]
      cases Cp12.line s.book n <;> rfl
    obtain ⟨x, l, hx, hxl, hl1, hf⟩ := line_of hls c
    obtain ⟨y, k, hy, hyl, hl2, hf2⟩ := line_of hls c2
    have hb1 := (length_le hf).2
    have hb2 := (length_le hf2).2
    refine ⟨_, rfl, p, C, dx, _, _, rfl, hp, TD.cl, TD.nl, fld_l _ _ _, _, rfl, a, _, 1, _, rfl, rfl, SqL.of haH, w1, la, x, rfl, by rw [← hx]; exact DGet.k (k := .inr (tx n)) (hG _ _ hla), ?_⟩
    refine ⟨_, rfl, p, C, dx, _, _, rfl, hp, TD.cl, TD.nl, fld_l _ _ _, _, rfl, a, _, 2, _, rfl, rfl, SqL.of haH, w2, la, y, rfl, by rw [← hy]; exact DGet.k (k := .inr (tx m)) (hG _ _ hla), ?_⟩
    refine ⟨x, y, l, k, rfl, hxl.mono hG, hyl.mono hG, by omega, by omega, ?_⟩
    have ed : Cp12.does s (.same n m) = (s, match firstDiff l k with
        | none => ascii "yes"
        | some i => Cp12.joined 32 [Cp12.no "same", Cp12.decimal i]) := by
      simp only [Cp12.does, hl1, hl2]
      rfl
    cases hfd : firstDiff l k with
    | none =>
      rw [hfd] at ed
      exact ⟨_, rfl, rfl, _, rfl, ans (t := ascii "yes") rfl (q' _ ed H (Same.refl _))⟩
    | some i =>
      rw [hfd] at ed
      have hi : i < 200 := by
        have := List.mem_of_find?_eq_some hfd
        rw [List.mem_range] at this
        omega
      have d1 : (Cp12.decimal i).length ≤ 12 := dec_len (by omega)
      have es : Str.ofString "no same " = tx (Cp12.no "same" ++ [32]) := by rw [lit]; exact congrArg tx (by decide)
      have l1 : (Cp12.no "same" ++ [32]).length = 8 := by decide
      refine ⟨_, rfl, rfl, _, rfl, ?_⟩
      refine ⟨Str.ofString "no same ", rfl, by decide +kernel, _, rfl, .inr ⟨((i : Nat) : Int), rfl, log_small (by omega) (by omega), _, rfl, ?_, ?_⟩⟩
      · rw [es, empty_add, tx_num]; exact joined_len (by rw [szL, l1]; omega)
      · rw [es, empty_add, tx_num, tx_append]
        have ej : Cp12.joined 32 [Cp12.no "same", Cp12.decimal i] = Cp12.no "same" ++ [32] ++ Cp12.decimal i := by simp [Cp12.joined]
        rw [← ej]
        exact q' _ ed H (Same.refl _)
/-! ### answer_uses -/
abbrev s_answer_uses : Stmt := top 79
abbrev n_answer_uses : List Str := ["desk", "command"]
theorem sc_answer_uses : FnScope n_answer_uses ["desk", "command"] (defScope s_answer_uses) := ⟨rfl, rfl, rfl, by decide +kernel, rfl, by decide +kernel, by decide +kernel⟩

theorem ok_answer_uses {f : Addr} {fd : FuncData} (F : Fun K "answer_uses" "answer_uses" s_answer_uses f fd) (T : Txt K w mg aM aR aP aS aN aB) (TD : TxtD K C) (f_counted_text : Callee P w K mg base "counted_text" 1 ["words"] sp_counted_text) (f_names_used : Callee P w K mg base "names_used" 1 ["definition"] sp_names_used) : FnOk P w K mg base CX0 2 f fd ["desk", "command"] (sp_ans C fun c => ∃ n, c = .uses n) := by
  refine F.ok sc_answer_uses (fun vs H Q E h => ?_) (fun cdv A outer s H vs Q E hr h => ?_)
  · obtain ⟨p, v, s, c, G, rfl, _⟩ := h; rfl
  · obtain ⟨p, v, s, c, G, rfl, hG, D, ⟨a, items, rfl, ha, hit⟩, hok, ⟨n, rfl⟩, q⟩ := h
    have hu := hu_of hr
    refine ⟨_, (pss_cons (ps_if (pt_cmp (pc_dnotin hu (pe_ix ix_list (pv 1) pe_int (fun _ _ => rfl)) (pe_fld (pv 0) rfl))) (pss_one (ps_ret pe_str)) pss_nil) (pss_one (ps_ret (pe_do f_counted_text hr (by decide) (by rfl) (pa_cons (pe_do f_names_used hr (by decide) (by rfl) (pa_cons (pe_dget hu (pe_fld (pv 0) rfl) (pe_ix ix_list (pv 1) pe_int (fun _ _ => rfl)) (fun _ _ => rfl)) pa_nil)) pa_nil))))), ?_⟩
    have q' := fun t e => quiet (t := t) hG D e q
    obtain ⟨hGp, ⟨dx, d, la, pa, xs, hp, hpa, ⟨⟨kvs, ls, hd, hla, hkv, hls⟩, hgood⟩, hP⟩, hl⟩ := D
    have hit : items = [.str (tx (ascii "uses")), .str (tx n)] := hit
    subst hit
    have haH := hG _ _ ha
    have w1 : atI [V.str (tx (ascii "uses")), .str (tx n)] 1 = some (.str (tx n)) := atI_nat (j := 1) rfl
    refine ⟨_, rfl, a, _, 1, _, rfl, rfl, SqL.of haH, w1, _, rfl, p, C, dx, _, _, rfl, hp, TD.cl, TD.nd, fld_d _ _ _, d, _, rfl, DGet.k (k := .inr (tx n)) (hG _ _ hd), _, rfl, ?_⟩
    refine not_in hkv (fun c => ?_) (fun c => ?_)
    · exact ans (t := Cp12.no "name") (by decide) (q' _ (by simp only [Cp12.does, any_has, c, if_true]) H (Same.refl _))
    · obtain ⟨df, hdf, rfl⟩ := Pb.mem_of_has c
      obtain ⟨x, hx, hdx⟩ := hkv.mem hgood.nd hdf
      refine ⟨_, rfl, p, C, dx, _, _, rfl, hp, TD.cl, TD.nd, fld_d _ _ _, _, rfl, a, _, 1, _, rfl, rfl, SqL.of haH, w1, d, x, rfl, by rw [← hx]; exact DGet.k (k := .inr (tx df.name)) (hG _ _ hd), x, df, rfl, hdx.mono hG, fun o ho => ?_⟩
      refine ⟨o, usesD df, rfl, ho, by have := uses_len hgood hdf; omega, fun u hu => by have := good_name hgood (hgood.closed df hdf u hu); omega, q' _ ?_⟩
      simp only [Cp12.does, any_has, c]
      rw [if_neg (by decide), Pb.uses_mem hgood.nd hdf]
/-! ### answer_users -/
abbrev s_answer_users : Stmt := top 80
abbrev n_answer_users : List Str := ["desk", "command"]
theorem sc_answer_users : FnScope n_answer_users ["desk", "command"] (defScope s_answer_users) := ⟨rfl, rfl, rfl, by decide +kernel, rfl, by decide +kernel, by decide +kernel⟩

theorem ok_answer_users {f : Addr} {fd : FuncData} (F : Fun K "answer_users" "answer_users" s_answer_users f fd) (T : Txt K w mg aM aR aP aS aN aB) (TD : TxtD K C) (f_counted_text : Callee P w K mg base "counted_text" 1 ["words"] sp_counted_text) (f_users_of : Callee P w K mg base "users_of" 2 ["definitions", "name"] sp_users_of) : FnOk P w K mg base CX0 3 f fd ["desk", "command"] (sp_ans C fun c => ∃ n, c = .users n) := by
  refine F.ok sc_answer_users (fun vs H Q E h => ?_) (fun cdv A outer s H vs Q E hr h => ?_)
  · obtain ⟨p, v, s, c, G, rfl, _⟩ := h; rfl
  · obtain ⟨p, v, s, c, G, rfl, hG, D, ⟨a, items, rfl, ha, hit⟩, hok, ⟨n, rfl⟩, q⟩ := h
    have hu := hu_of hr
    refine ⟨_, (pss_cons (ps_if (pt_cmp (pc_dnotin hu (pe_ix ix_list (pv 1) pe_int (fun _ _ => rfl)) (pe_fld (pv 0) rfl))) (pss_one (ps_ret pe_str)) pss_nil) (pss_one (ps_ret (pe_do f_counted_text hr (by decide) (by rfl) (pa_cons (pe_do f_users_of hr (by decide) (by rfl) (pa_cons (pe_fld (pv 0) rfl) (pa_cons (pe_ix ix_list (pv 1) pe_int (fun _ _ => rfl)) pa_nil))) pa_nil))))), ?_⟩
    have q' := fun t e => quiet (t := t) hG D e q
    obtain ⟨hGp, ⟨dx, d, la, pa, xs, hp, hpa, ⟨⟨kvs, ls, hd, hla, hkv, hls⟩, hgood⟩, hP⟩, hl⟩ := D
    have hit : items = [.str (tx (ascii "users")), .str (tx n)] := hit
    subst hit
    have haH := hG _ _ ha
    have w1 : atI [V.str (tx (ascii "users")), .str (tx n)] 1 = some (.str (tx n)) := atI_nat (j := 1) rfl
    refine ⟨_, rfl, a, _, 1, _, rfl, rfl, SqL.of haH, w1, _, rfl, p, C, dx, _, _, rfl, hp, TD.cl, TD.nd, fld_d _ _ _, d, _, rfl, DGet.k (k := .inr (tx n)) (hG _ _ hd), _, rfl, ?_⟩
    refine not_in hkv (fun c => ?_) (fun c => ?_)
    · exact ans (t := Cp12.no "name") (by decide) (q' _ (by simp only [Cp12.does, any_has, c, if_true]) H (Same.refl _))
    · obtain ⟨u1, u2⟩ := users_ok hgood n
      refine ⟨_, rfl, p, C, dx, _, _, rfl, hp, TD.cl, TD.nd, fld_d _ _ _, _, rfl, a, _, 1, _, rfl, rfl, SqL.of haH, w1, d, n, kvs, s.book, rfl, hG _ _ hd, hkv.mono hG, hgood, fun H1 o s1 ho0 ho => ?_⟩
      refine ⟨o, Cp12.users s.book n, rfl, ho, by omega, fun u hu => by have := u2 u hu; omega, fun H2 s2 => q' _ ?_ H2 (s1.trans s2)⟩
      simp only [Cp12.does, any_has, c]
      rw [if_neg (by decide)]
/-! ### answer_list, answer_dump -/
abbrev s_answer_list : Stmt := top 81
abbrev n_answer_list : List Str := ["desk", "command"]
theorem sc_answer_list : FnScope n_answer_list ["desk", "command"] (defScope s_answer_list) := ⟨rfl, rfl, rfl, by decide +kernel, rfl, by decide +kernel, by decide +kernel⟩

theorem ok_answer_list {f : Addr} {fd : FuncData} (F : Fun K "answer_list" "answer_list" s_answer_list f fd) (T : Txt K w mg aM aR aP aS aN aB) (TD : TxtD K C) (f_listing_text : Callee P w K mg base "listing_text" 6 ["definitions", "names"] sp_listing_text) : FnOk P w K mg base CX0 7 f fd ["desk", "command"] (sp_ans C fun c => c = .list) := by
  refine F.ok sc_answer_list (fun vs H Q E h => ?_) (fun cdv A outer s H vs Q E hr h => ?_)
  · obtain ⟨p, v, s, c, G, rfl, _⟩ := h; rfl
  · obtain ⟨p, v, s, c, G, rfl, hG, D, ⟨a, items, rfl, ha, hit⟩, hok, rfl, q⟩ := h
    refine ⟨_, (pss_one (ps_ret (pe_do f_listing_text hr (by decide) (by rfl) (pa_cons (pe_fld (pv 0) rfl) (pa_cons (pe_callTy (call_listD rfl) (by rfl) T.b_list (by decide +kernel) (pa_cons (pe_fld (pv 0) rfl) pa_nil)) pa_nil))))), ?_⟩
    have q' := fun t e => quiet (t := t) hG D e q
    obtain ⟨hGp, ⟨dx, d, la, pa, xs, hp, hpa, ⟨⟨kvs, ls, hd, hla, hkv, hls⟩, hgood⟩, hP⟩, hl⟩ := D
    refine ⟨_, rfl, p, C, dx, _, _, rfl, hp, TD.cl, TD.nd, fld_d _ _ _, _, rfl, p, C, dx, _, _, rfl, hp, TD.cl, TD.nd, fld_d _ _ _, d, kvs, rfl, .inl (hG _ _ hd), fun o ho => ?_⟩
    have ek : (kvs.map fun kv => kV kv.1) = wordsV (s.book.map (·.name)) := by
      have : ∀ {kvs : List (Key × V)} {b : Book}, BookKV G kvs b → (kvs.map fun kv => kV kv.1) = wordsV (b.map (·.name)) := by
        intro kvs b h
        induction h with
        | nil => rfl
        | cons h1 _ ih =>
          simp only [List.map_cons, ih, h1.1]
          rfl
      exact this hkv
    rw [ek]
    have s1 := same_new (o := .lst (wordsV (s.book.map (·.name)))) ho
    exact ⟨d, o, kvs, s.book, s.book, rfl, s1 _ _ (hG _ _ hd), hkv.mono (hG.trans s1), hgood, upd_same, fun _ h => h, hgood.len, fun H2 s2 => q' _ rfl H2 (s1.trans s2)⟩
abbrev s_answer_dump : Stmt := top 82
abbrev n_answer_dump : List Str := ["desk", "command"]
theorem sc_answer_dump : FnScope n_answer_dump ["desk", "command"] (defScope s_answer_dump) := ⟨rfl, rfl, rfl, by decide +kernel, rfl, by decide +kernel, by decide +kernel⟩

theorem ok_answer_dump {f : Addr} {fd : FuncData} (F : Fun K "answer_dump" "answer_dump" s_answer_dump f fd) (T : Txt K w mg aM aR aP aS aN aB) (TD : TxtD K C) (f_listing_text : Callee P w K mg base "listing_text" 6 ["definitions", "names"] sp_listing_text) (f_entry_order : Callee P w K mg base "entry_order" 4 ["definitions"] sp_entry_order) : FnOk P w K mg base CX0 7 f fd ["desk", "command"] (sp_ans C fun c => c = .dump) := by
  refine F.ok sc_answer_dump (fun vs H Q E h => ?_) (fun cdv A outer s H vs Q E hr h => ?_)
  · obtain ⟨p, v, s, c, G, rfl, _⟩ := h; rfl
  · obtain ⟨p, v, s, c, G, rfl, hG, D, ⟨a, items, rfl, ha, hit⟩, hok, rfl, q⟩ := h
    refine ⟨_, (pss_one (ps_ret (pe_do f_listing_text hr (by decide) (by rfl) (pa_cons (pe_fld (pv 0) rfl) (pa_cons (pe_do f_entry_order hr (by decide) (by rfl) (pa_cons (pe_fld (pv 0) rfl) pa_nil)) pa_nil))))), ?_⟩
    have q' := fun t e => quiet (t := t) hG D e q
    obtain ⟨hGp, ⟨dx, d, la, pa, xs, hp, hpa, ⟨⟨kvs, ls, hd, hla, hkv, hls⟩, hgood⟩, hP⟩, hl⟩ := D
    obtain ⟨o1, o2⟩ := Pb.ordered_eq hgood.nd s.book.length [] [] (fun w => Iff.rfl)
    have ef : (s.book.filter fun d => !([] : List Bytes).contains d.name) = s.book := List.filter_eq_self.mpr fun _ _ => rfl
    rw [ef, List.nil_append] at o1
    rw [ef] at o2
    have ol := (Pb.orderP_ord hgood s.book.length [] (Pb.Ord.nil _) (by simp)).2
    rw [o1, List.length_map] at ol
    refine ⟨_, rfl, p, C, dx, _, _, rfl, hp, TD.cl, TD.nd, fld_d _ _ _, _, rfl, p, C, dx, _, _, rfl, hp, TD.cl, TD.nd, fld_d _ _ _, d, kvs, s.book, rfl, hG _ _ hd, hkv.mono hG, hgood, fun H1 o s1 ho0 ho => ?_⟩
    rw [o1] at ho
    exact ⟨d, o, kvs, s.book, _, rfl, s1 _ _ (hG _ _ hd), hkv.mono (hG.trans s1), hgood, ho, o2, by rw [ol]; exact hgood.len, fun H2 s2 => q' _ rfl H2 (s1.trans s2)⟩
end
end Pbd
namespace Pbd
open PySem PySem.Spec PyProof.Rows L2 TL
open Cp12 (Bytes ascii names value Def Book)
open Pb (rpn okE usesD has Good okD readW changeP cmdP okC Reach)
theorem BookKV.any {G : Hp} {kvs : List (Key × V)} {b : Book} (h : BookKV G kvs b) (n : Bytes) : (kvs.any fun kv => decide (kv.1 = (Sum.inr (tx n) : Key))) = b.any fun x => x.name == n := by
  induction h with
  | nil => rfl
  | cons r _ ih =>
    rw [List.any_cons, List.any_cons, ih, r.1, key_eq]
theorem BookKV.put {G : Hp} {kvs : List (Key × V)} {b : Book} {v : V} {d : Def} (h : BookKV G kvs b) (hv : DefAt G v d) : BookKV G (putK kvs (.inr (tx d.name)) v) (Cp12.defined b d) := by
  unfold putK Cp12.defined
  rw [h.any d.name]
  split
  · rename_i hh
    clear hh
    show Paired _ _ _
    induction h with
    | nil => exact .nil
    | @cons kv x kvs b r _ ih =>
      refine .cons ?_ ih
      obtain ⟨k, y⟩ := kv
      obtain ⟨hk, hd⟩ := r
      have hk : k = .inr (tx x.name) := hk
      subst hk
      by_cases c : x.name = d.name
      · dsimp only
        rw [if_pos c, if_pos (by rw [c])]
        exact ⟨by rw [c], hv⟩
      · dsimp only
        rw [if_neg c, if_neg (fun z => c (tx_inj (Sum.inr.inj z)))]
        exact ⟨rfl, hd⟩
  · exact paired_snoc h ⟨rfl, hv⟩
theorem BookKV.drop {G : Hp} {kvs : List (Key × V)} {b : Book} (n : Bytes) (h : BookKV G kvs b) : BookKV G (dropK kvs (.inr (tx n))) (b.filter fun d => d.name != n) := by
  unfold dropK
  show Paired _ _ _
  induction h with
  | nil => exact .nil
  | @cons kv x kvs b r _ ih =>
    obtain ⟨k, y⟩ := kv
    obtain ⟨hk, hd⟩ := r
    have hk : k = .inr (tx x.name) := hk
    subst hk
    by_cases c : x.name = n
    · subst c
      rw [List.filter_cons, List.filter_cons, if_neg (by simp), if_neg (by simp)]
      exact ih
    · rw [List.filter_cons, List.filter_cons, if_pos (decide_eq_true (show (Sum.inr (tx x.name) : Key) ≠ Sum.inr (tx n) from fun z => c (tx_inj (Sum.inr.inj z)))), if_pos (by simpa using c)]
      exact .cons ⟨rfl, hd⟩ ih
theorem valV_drop {kvs : List (Key × V)} {k j : Key} (h : j ≠ k) : valV (dropK kvs k) j = valV kvs j := by
  induction kvs with
  | nil => rfl
  | cons p r ih =>
    by_cases c : p.1 = k
    · have : dropK (p :: r) k = dropK r k := by unfold dropK; rw [List.filter_cons, if_neg (by simpa using c)]
      rw [this, ih, valV_neg (fun z => h (z.symm.trans c))]
    · have : dropK (p :: r) k = p :: dropK r k := by unfold dropK; rw [List.filter_cons, if_pos (by simpa using c)]
      rw [this]
      by_cases c2 : p.1 = j
      · rw [valV_pos c2, valV_pos c2]
      · rw [valV_neg c2, valV_neg c2, ih]
theorem LinesKV.drop {G : Hp} {ls : List (Key × V)} {b : Book} {n : Bytes} (h : LinesKV G ls b) (nd : (b.map (·.name)).Nodup) (hu : ∀ d ∈ b, n ∉ usesD d) : LinesKV G (dropK ls (.inr (tx n))) (b.filter fun d => d.name != n) := by
  refine ⟨Nat.le_trans (dropK_le _ _) h.1, fun d hd => ?_⟩
  obtain ⟨hd1, hd2⟩ := List.mem_filter.mp hd
  have hne : d.name ≠ n := by simpa using hd2
  obtain ⟨x, l, h1, h2, h3, h4⟩ := h.2 d hd1
  refine ⟨x, l, ?_, h2, ?_, h4⟩
  · rw [valV_drop (fun z => hne (tx_inj (Sum.inr.inj z)))]; exact h1
  · unfold Cp12.line at h3 ⊢
    rw [Pb.unroll_drop nd hu _ _ hne]; exact h3
theorem room {G : Hp} {kvs : List (Key × V)} {b : Book} {n : Bytes} {B T : Prop} (hkv : BookKV G kvs b) (hT : (has b n = true ∨ b.length < Cp12.DEFS) → T) (hB : has b n = false → ((has b n = true ∨ b.length < Cp12.DEFS) → T) → B) : if (!(valV kvs (.inr (tx n))).isSome) = true then B else T :=
  not_in hkv (fun c => hB c hT) (fun c => hT (.inl c))
/-- what a definition answers, and the desk behind it -/
def defines (s : Cp12.Desk) (d : Def) : Cp12.Desk × Bytes := if has s.book d.name = false ∧ Cp12.DEFS ≤ s.book.length then (s, Cp12.no "many") else Cp12.changed s (Cp12.defined s.book d) d.name
theorem has_def (b : Book) (d : Def) : has (Cp12.defined b d) d.name = true := Pb.has_of_mem (Pb.mem_defined_self b d)
theorem told_eq (l : Line) : Cp12.told l = (ascii "ok" ++ [32]) ++ Cp12.joined 32 [Cp12.decimal l.length, Cp12.decimal (Cp12.length l)] := by
  simp [Cp12.told, Cp12.joined, Cp12.ok]
section
variable {P : Program} {w : World} {K : PySem.W.Frag} {mg : Str → Option Value} {base : Heap} {aM aR aP aS aN aB C : Addr}
/-! ### define -/
abbrev s_define : Stmt := top 72
abbrev n_define : List Str := ["desk", "name", "definition", "definitions", "lines", "size"]
theorem sc_define : FnScope n_define ["desk", "name", "definition"] (defScope s_define) := ⟨rfl, rfl, rfl, by decide +kernel, rfl, by decide +kernel, by decide +kernel⟩

def sp_define (C : Addr) : Sp := fun vs H Q _ => ∃ (p : Addr) (v : V) (s : Cp12.Desk) (d : Def) (G : Hp), vs = [.ref p, .str (tx d.name), v] ∧ Same G H ∧ DeskAt C G H p s ∧ DefAt G v d ∧ okD d ∧ (∀ u ∈ usesD d, has s.book u = true) ∧ (∀ u ∈ usesD d, ¬ Reach s.book u d.name) ∧
  ∀ G' H', GrowX p G H G' H' → DeskAt C G' H' p (defines s d).1 → Q (.str (tx (defines s d).2)) H'
theorem ok_define {f : Addr} {fd : FuncData} (F : Fun K "define" "define" s_define f fd) (T : Txt K w mg aM aR aP aS aN aB) (TD : TxtD K C) (f_lines_of : Callee P w K mg base "lines_of" 6 ["definitions"] sp_lines_of) (f_size_text : Callee P w K mg base "size_text" 2 ["line"] sp_size_text) (m_move_on : MethOk P w K mg base C "move_on" 1 ["self", "definitions", "lines"] (sp_move_on C)) :
    FnOk P w K mg base CX0 7 f fd ["desk", "name", "definition"] (sp_define C) := by
  refine F.ok sc_define (fun vs H Q E h => ?_) (fun cdv A outer s H vs Q E hr h => ?_)
  · obtain ⟨p, v, s, d, G, rfl, _⟩ := h; rfl
  · obtain ⟨p, v, s, df, G, rfl, hG, D, hv, hok, hcl, hnr, q⟩ := h
    have hu := hu_of hr
    refine ⟨_, (pss_cons (ps_if (PW.pt (pw_and (pt_cmp (pc_dnotin hu (pv 1) (pe_fld (pv 0) rfl))) (pw_and1 (pt_cmpR op_ge (pe_callB call_lenD (by rfl) T.b_len (by decide +kernel) (pa_cons (pe_fld (pv 0) rfl) pa_nil)) (pe_gint (by rfl) T.g_MOST_NAMES) (nomark _))))) (pss_one (ps_ret pe_str)) pss_nil) (pss_cons (ps_set (i := 3) sc_define.nd rfl (Or.inl rfl) (pe_callTy call_dictD (by rfl) T.b_dict (by decide +kernel) (pa_cons (pe_fld (pv 0) rfl) pa_nil))) (pss_cons (ps_dput hu (pv 3) (pv 1) (pv 2) rfl) (pss_cons (ps_set (i := 4) sc_define.nd rfl (Or.inl rfl) (pe_do f_lines_of hr (by decide) (by rfl) (pa_cons (pv 3) pa_nil))) (pss_cons (ps_if (pt_cmpR op_isN (pv 4) pe_non (nomark _)) (pss_one (ps_ret pe_str)) pss_nil) (pss_cons (ps_expr (pe_own m_move_on hr (by decide) (pv 0) (pa_cons (pv 3) (pa_cons (pv 4) pa_nil)))) (pss_cons (ps_set (i := 5) sc_define.nd rfl (Or.inl rfl) (pe_do f_size_text hr (by decide) (by rfl) (pa_cons (pe_dget hu (pv 4) (pv 1) (fun _ _ => rfl)) pa_nil))) (pss_one (ps_ret (pe_joined (.cons pe_str (.cons (pe_fmt (pv 5)) .nil)))))))))))), ?_⟩
    have D0 := D
    obtain ⟨hGp, ⟨dx, d, la, pa, xs, hp, hpa, ⟨⟨kvs, ls, hd, hla, hkv, hls⟩, hgood⟩, hP⟩, hl⟩ := D
    have hkl := hkv.len
    have hbl : s.book.length ≤ 12 := hgood.len
    refine ⟨_, rfl, _, rfl, p, C, dx, _, _, rfl, hp, TD.cl, TD.nd, fld_d _ _ _, d, _, rfl, DGet.k (k := .inr (tx df.name)) (hG _ _ hd), _, rfl, ?_⟩
    refine room hkv (fun c => ?_) (fun c hT => ?_)
    · have eD : defines s df = Cp12.changed s (Cp12.defined s.book df) df.name := by
        unfold defines
        rw [if_neg]
        rintro ⟨z1, z2⟩
        rcases c with c | c
        · rw [c] at z1; cases z1
        · omega
      rw [eD] at q
      have hgood' := hgood.define df hok hcl hnr c
      refine ⟨_, rfl, p, C, dx, _, _, rfl, hp, TD.cl, TD.nd, fld_d _ _ _, d, kvs, rfl, .inl (hG _ _ hd), fun e he => ?_⟩
      have g1 : Grow G H G (upd H e (.dK kvs)) := Grow.of hG (same_new he)
      have hGe : G e = none := hG.free he
      refine ⟨_, rfl, _, rfl, _, rfl, e, _, rfl, DPut.k (k := .inr (tx df.name)) upd_same (by rw [szL]; omega), ?_⟩
      have g2 := g1.set (o := .dK (putK kvs (.inr (tx df.name)) v)) he hGe
      have he2 : upd (upd H e (.dK kvs)) e (.dK (putK kvs (.inr (tx df.name)) v)) e = some (.dK (putK kvs (.inr (tx df.name)) v)) := upd_same
      generalize upd (upd H e (.dK kvs)) e (.dK (putK kvs (.inr (tx df.name)) v)) = H2 at *
      have hkv' := hkv.put hv
      refine ⟨_, rfl, e, _, _, G, rfl, g2.i, he2, hkv', hgood', fun hw H3 s3 => ?_, fun hw la' lkvs G3 H3 g3 hla' hls' => ?_⟩
      · have eC : Cp12.changed s (Cp12.defined s.book df) df.name = (s, Cp12.no "whole") := by unfold Cp12.changed; rw [if_pos hw]
        rw [eC] at q
        have gg := g2.more s3
        exact ⟨_, rfl, rfl, _, rfl, ans (t := Cp12.no "whole") (by decide) (q _ _ (GrowX.of gg) (D0.grow gg))⟩
      · have gg := (g2.trans g3)
        have hGe3 : G3 e = none := g3.out he2 hGe
        have g4 := gg.put he (g3.h _ _ he2) hGe3
        have hst : StateAt (upd G3 e (.dK (putK kvs (.inr (tx df.name)) v))) e la' (Cp12.defined s.book df) := ⟨⟨_, lkvs, upd_same, same_new hGe3 _ _ hla', hkv'.mono g4.g, hls'.mono (same_new hGe3)⟩, hgood'⟩
        have hls4 := hls'.mono (same_new hGe3 (o := .dK (putK kvs (.inr (tx df.name)) v)))
        have hla4 := same_new hGe3 (o := .dK (putK kvs (.inr (tx df.name)) v)) _ _ hla'
        have hGe4 : upd G3 e (.dK (putK kvs (.inr (tx df.name)) v)) e = some (.dK (putK kvs (.inr (tx df.name)) v)) := upd_same
        generalize upd G3 e (.dK (putK kvs (.inr (tx df.name)) v)) = G4 at *
        obtain ⟨x, l, hx, hxl, hl1, hf⟩ := line_of hls4 (has_def s.book df)
        have eC : Cp12.changed s (Cp12.defined s.book df) df.name = (⟨Cp12.defined s.book df, (s.book :: s.past).take 20⟩, Cp12.told l) := by
          unfold Cp12.changed
          rw [if_neg (by rw [hw]; decide), hl1]; rfl
        rw [eC] at q
        refine ⟨_, rfl, rfl, _, rfl, ?_⟩
        refine ⟨_, rfl, p, dx, _, rfl, g4.h _ _ hp, fld_on _ _ _, _, rfl, _, rfl, p, e, la', s, _, G4, rfl, g4.i, D0.grow g4, hst, fun G5 H5 g5 D5 => ?_⟩
        have hD5 : H5 la' = some (.dK lkvs) := g5.i _ _ (g5.g _ _ hla4)
        refine ⟨_, rfl, _, rfl, la', x, rfl, by rw [← hx]; exact DGet.k (k := .inr (tx df.name)) hD5, x, l, rfl, hxl.mono (g5.g.trans g5.i), hf, fun H6 s6 => ?_⟩
        have eo : Str.ofString "ok " = tx (ascii "ok" ++ [32]) := by rw [lit]; exact congrArg tx (by decide)
        have l1 : (ascii "ok" ++ [32]).length = 3 := by decide
        obtain ⟨h1, h2⟩ := length_le hf
        have d1 : (Cp12.decimal l.length).length ≤ 12 := dec_len (by omega)
        have d2 : (Cp12.decimal (Cp12.length l)).length ≤ 12 := dec_len (by omega)
        have hjl : (Cp12.joined 32 [Cp12.decimal l.length, Cp12.decimal (Cp12.length l)]).length ≤ 25 := by
          simp only [Cp12.joined, List.length_append, List.length_cons]; omega
        refine ⟨Str.ofString "ok ", rfl, by decide +kernel, _, rfl, .inl ⟨_, rfl, by rw [tx_len, szL]; omega, _, rfl, ?_, ?_⟩⟩
        · rw [eo, empty_add]; exact joined_len (by rw [szL, l1]; omega)
        · rw [eo, empty_add, tx_append, ← told_eq]
          have g6 := Grow.of g5.i s6
          exact q _ _ (((GrowX.of g4).trans g5 (by rw [g4.h _ _ hp]; exact fun z => by cases z)).trans (GrowX.of g6) D5.ne) (D5.grow g6)
    · refine ⟨_, rfl, p, C, dx, _, _, rfl, hp, TD.cl, TD.nd, fld_d _ _ _, d, kvs, rfl, hG _ _ hd, _, _, rfl, rfl, _, rfl, if_b (fun c2 => ?_) (fun c2 => ?_)⟩
      · have c2 : Cp12.DEFS ≤ s.book.length := by have := of_decide_eq_true c2; rw [hkl] at this; show 12 ≤ _; omega
        have eD : defines s df = (s, Cp12.no "many") := by unfold defines; rw [if_pos ⟨c, c2⟩]
        rw [eD] at q
        exact ans (t := Cp12.no "many") (by decide) (q G H (GrowX.of (Grow.refl hG)) D0)
      · exact hT (.inr (by have := of_decide_eq_false c2; rw [hkl] at this; show _ < 12; omega))
end
end Pbd
namespace Pbd
open PySem PySem.Spec PyProof.Rows L2 TL
open Cp12 (Bytes ascii names value Def Book)
open Pb (rpn okE usesD has Good okD readW changeP cmdP okC Reach)
theorem GrowX.after {p : Addr} {G H G1 H1 G2 H2 : Hp} (a : Grow G H G1 H1) (b : GrowX p G1 H1 G2 H2) (hp : H1 p ≠ none) : GrowX p G H G2 H2 := (GrowX.of a).trans b hp
section
variable {P : Program} {w : World} {K : PySem.W.Frag} {mg : Str → Option Value} {base : Heap} {aM aR aP aS aN aB C : Addr}
/-! ### answer_theme -/
abbrev s_answer_theme : Stmt := top 70
abbrev n_answer_theme : List Str := ["desk", "command"]
theorem sc_answer_theme : FnScope n_answer_theme ["desk", "command"] (defScope s_answer_theme) := ⟨rfl, rfl, rfl, by decide +kernel, rfl, by decide +kernel, by decide +kernel⟩

theorem ok_answer_theme {f : Addr} {fd : FuncData} (F : Fun K "answer_theme" "answer_theme" s_answer_theme f fd) (T : Txt K w mg aM aR aP aS aN aB) (TD : TxtD K C) (f_define : Callee P w K mg base "define" 7 ["desk", "name", "definition"] (sp_define C)) (f_make_theme : Callee P w K mg base "make_theme" 1 ["events"] sp_make_theme) : FnOk P w K mg base CX0 8 f fd ["desk", "command"] (sp_ans C fun c => ∃ n l, c = .theme n l) := by
  refine F.ok sc_answer_theme (fun vs H Q E h => ?_) (fun cdv A outer s H vs Q E hr h => ?_)
  · obtain ⟨p, v, s, c, G, rfl, _⟩ := h; rfl
  · obtain ⟨p, v, s, c, G, rfl, hG, D, ⟨a, items, rfl, ha, hit⟩, hok, ⟨n, l, rfl⟩, q⟩ := h
    refine ⟨_, (pss_one (ps_ret (pe_do f_define hr (by decide) (by rfl) (pa_cons (pv 0) (pa_cons (pe_ix ix_list (pv 1) pe_int (fun _ _ => rfl)) (pa_cons (pe_do f_make_theme hr (by decide) (by rfl) (pa_cons (pe_ix ix_list (pv 1) pe_int (fun _ _ => rfl)) pa_nil)) pa_nil)))))), ?_⟩
    obtain ⟨x, hit, hx⟩ : ∃ x, items = [.str (tx (ascii "theme")), .str (tx n), x] ∧ LineAt G x l := hit
    subst hit
    have haH := hG _ _ ha
    have w1 : atI [V.str (tx (ascii "theme")), .str (tx n), x] 1 = some (.str (tx n)) := atI_nat (j := 1) rfl
    have w2 : atI [V.str (tx (ascii "theme")), .str (tx n), x] 2 = some x := atI_nat (j := 2) rfl
    have hok : Cp12.isName n = true ∧ Cp12.fine l = true ∧ 1 ≤ l.length ∧ l.length ≤ Cp12.THEME := hok
    refine ⟨_, rfl, _, rfl, a, _, 1, _, rfl, rfl, SqL.of haH, w1, _, rfl, a, _, 2, _, rfl, rfl, SqL.of haH, w2, x, l, G, rfl, hG, hx, fun r G1 H1 g1 hr1 => ?_⟩
    exact ⟨p, r, s, ⟨n, .theme l⟩, G1, rfl, g1.i, D.grow g1, hr1 n, ⟨hok.1, hok.2⟩, (fun u hu => by cases hu), (fun u hu => by cases hu), fun G2 H2 g2 D2 => q _ _ (GrowX.after g1 g2 (D.grow g1).ne) D2⟩
/-! ### answer_undo -/
abbrev s_answer_undo : Stmt := top 74
abbrev n_answer_undo : List Str := ["desk", "command"]
theorem sc_answer_undo : FnScope n_answer_undo ["desk", "command"] (defScope s_answer_undo) := ⟨rfl, rfl, rfl, by decide +kernel, rfl, by decide +kernel, by decide +kernel⟩

theorem ok_answer_undo {f : Addr} {fd : FuncData} (F : Fun K "answer_undo" "answer_undo" s_answer_undo f fd) (T : Txt K w mg aM aR aP aS aN aB) (TD : TxtD K C) (m_move_back : MethOk P w K mg base C "move_back" 1 ["self"] (sp_move_back C)) : FnOk P w K mg base CX0 2 f fd ["desk", "command"] (sp_ans C fun c => c = .undo) := by
  refine F.ok sc_answer_undo (fun vs H Q E h => ?_) (fun cdv A outer s H vs Q E hr h => ?_)
  · obtain ⟨p, v, s, c, G, rfl, _⟩ := h; rfl
  · obtain ⟨p, v, s, c, G, rfl, hG, D, ⟨a, items, rfl, ha, hit⟩, hok, rfl, q⟩ := h
    refine ⟨_, (pss_cons (ps_if (pt_not (pt_truth (pe_fld (pv 0) rfl) (by intro _; rfl))) (pss_one (ps_ret pe_str)) pss_nil) (pss_cons (ps_expr (pe_own0 m_move_back hr (by decide) (pv 0))) (pss_one (ps_ret pe_str)))), ?_⟩
    have D0 := D
    obtain ⟨hGp, ⟨dx, d, la, pa, xs, hp, hpa, hS, hP⟩, hl⟩ := D
    have hxl := paired_len hP
    rw [List.length_reverse] at hxl
    refine ⟨_, rfl, p, C, dx, _, _, rfl, hp, TD.cl, TD.np, fld_p _ _ _, _, .inl ⟨xs, SqL.of (hG _ _ hpa), rfl⟩, ?_⟩
    cases hs : s.past with
    | nil =>
      rw [hs] at hxl
      have : xs = [] := List.length_eq_zero_iff.mp hxl
      subst this
      have e : Cp12.does s .undo = (s, Cp12.no "undo") := by simp only [Cp12.does, hs]
      exact ans (t := Cp12.no "undo") (by decide) (quiet hG D0 e q H (Same.refl _))
    | cons b l =>
      cases hx : xs with
      | nil => rw [hs, hx] at hxl; cases hxl
      | cons x r =>
        have e : Cp12.does s .undo = (⟨b, l⟩, Cp12.ok) := by simp only [Cp12.does, hs]
        rw [e] at q
        refine ⟨_, rfl, p, dx, _, rfl, hp, fld_back _ _ _, p, s, b, l, G, rfl, hG, D0, hs, fun G1 H1 g1 D1 => ?_⟩
        exact ans (t := Cp12.ok) rfl (q _ _ g1 D1)
/-! ### answer_drop -/
abbrev s_answer_drop : Stmt := top 73
abbrev n_answer_drop : List Str := ["desk", "command", "definitions", "lines"]
theorem sc_answer_drop : FnScope n_answer_drop ["desk", "command"] (defScope s_answer_drop) := ⟨rfl, rfl, rfl, by decide +kernel, rfl, by decide +kernel, by decide +kernel⟩

theorem ok_answer_drop {f : Addr} {fd : FuncData} (F : Fun K "answer_drop" "answer_drop" s_answer_drop f fd) (T : Txt K w mg aM aR aP aS aN aB) (TD : TxtD K C) (f_users_of : Callee P w K mg base "users_of" 2 ["definitions", "name"] sp_users_of) (m_move_on : MethOk P w K mg base C "move_on" 1 ["self", "definitions", "lines"] (sp_move_on C)) : FnOk P w K mg base CX0 3 f fd ["desk", "command"] (sp_ans C fun c => ∃ n, c = .drop n) := by
  refine F.ok sc_answer_drop (fun vs H Q E h => ?_) (fun cdv A outer s H vs Q E hr h => ?_)
  · obtain ⟨p, v, s, c, G, rfl, _⟩ := h; rfl
  · obtain ⟨p, v, s, c, G, rfl, hG, D, ⟨a, items, rfl, ha, hit⟩, hok, ⟨n, rfl⟩, q⟩ := h
    have hu := hu_of hr
    refine ⟨_, (pss_cons (ps_if (pt_cmp (pc_dnotin hu (pe_ix ix_list (pv 1) pe_int (fun _ _ => rfl)) (pe_fld (pv 0) rfl))) (pss_one (ps_ret pe_str)) pss_nil) (pss_cons (ps_if (pt_truth (pe_do f_users_of hr (by decide) (by rfl) (pa_cons (pe_fld (pv 0) rfl) (pa_cons (pe_ix ix_list (pv 1) pe_int (fun _ _ => rfl)) pa_nil))) (by intro _; rfl)) (pss_one (ps_ret pe_str)) pss_nil) (pss_cons (ps_set (i := 2) sc_answer_drop.nd rfl (Or.inl rfl) (pe_callTy call_dictD (by rfl) T.b_dict (by decide +kernel) (pa_cons (pe_fld (pv 0) rfl) pa_nil))) (pss_cons (ps_expr (pe_dpop1 (pv 2) (pe_ix ix_list (pv 1) pe_int (fun _ _ => rfl)) ⟨rfl, rfl, rfl, rfl⟩)) (pss_cons (ps_set (i := 3) sc_answer_drop.nd rfl (Or.inl rfl) (pe_callTy call_dictD (by rfl) T.b_dict (by decide +kernel) (pa_cons (pe_fld (pv 0) rfl) pa_nil))) (pss_cons (ps_expr (pe_dpop1 (pv 3) (pe_ix ix_list (pv 1) pe_int (fun _ _ => rfl)) ⟨rfl, rfl, rfl, rfl⟩)) (pss_cons (ps_expr (pe_own m_move_on hr (by decide) (pv 0) (pa_cons (pv 2) (pa_cons (pv 3) pa_nil)))) (pss_one (ps_ret pe_str))))))))), ?_⟩
    have q' := fun t e => quiet (t := t) hG D e q
    have D0 := D
    obtain ⟨hGp, ⟨dx, d, la, pa, xs, hp, hpa, ⟨⟨kvs, ls, hd, hla, hkv, hls⟩, hgood⟩, hP⟩, hl⟩ := D
    have hit : items = [.str (tx (ascii "drop")), .str (tx n)] := hit
    subst hit
    have haH := hG _ _ ha
    have w1 : atI [V.str (tx (ascii "drop")), .str (tx n)] 1 = some (.str (tx n)) := atI_nat (j := 1) rfl
    refine ⟨_, rfl, a, _, 1, _, rfl, rfl, SqL.of haH, w1, _, rfl, p, C, dx, _, _, rfl, hp, TD.cl, TD.nd, fld_d _ _ _, d, _, rfl, DGet.k (k := .inr (tx n)) (hG _ _ hd), _, rfl, ?_⟩
    refine not_in hkv (fun c => ?_) (fun c => ?_)
    · exact ans (t := Cp12.no "name") (by decide) (q' _ (by simp only [Cp12.does, any_has, c, if_true]) H (Same.refl _))
    refine ⟨_, rfl, p, C, dx, _, _, rfl, hp, TD.cl, TD.nd, fld_d _ _ _, _, rfl, a, _, 1, _, rfl, rfl, SqL.of haH, w1, d, n, kvs, s.book, rfl, hG _ _ hd, hkv.mono hG, hgood, fun H1 o s1 ho0 ho => ?_⟩
    refine ⟨_, .inl ⟨_, SqL.of ho, rfl⟩, ?_⟩
    have hc : ¬ (s.book.any fun d => d.name == n) = false := by rw [any_has, c]; decide
    cases husr : Cp12.users s.book n with
    | cons u r =>
      have e : Cp12.does s (.drop n) = (s, Cp12.no "used") := by
        simp only [Cp12.does]
        rw [if_neg hc, if_pos (by rw [husr]; exact List.cons_ne_nil _ _)]
      exact ans (t := Cp12.no "used") (by decide) (q' _ e H1 s1)
    | nil =>
      have hnu := Pb.users_nil hgood.nd husr
      have e : Cp12.does s (.drop n) = (⟨s.book.filter fun d => d.name != n, (s.book :: s.past).take 20⟩, Cp12.ok) := by
        simp only [Cp12.does]
        rw [if_neg hc, if_neg (by rw [husr]; exact fun z => z rfl)]; rfl
      rw [e] at q
      obtain ⟨x, hx⟩ : ∃ x, valV kvs (.inr (tx n)) = some x := by
        have := hkv.has n
        rw [c] at this
        exact Option.isSome_iff_exists.mp this
      obtain ⟨y, l, hy, _⟩ := line_of hls c
      have hp1 := s1 _ _ hp
      have hd1 := s1 _ _ (hG _ _ hd)
      have ha1 := s1 _ _ haH
      have g1 : Grow G H G H1 := Grow.of hG s1
      refine ⟨_, rfl, p, C, dx, _, _, rfl, hp1, TD.cl, TD.nd, fld_d _ _ _, d, kvs, rfl, .inl hd1, fun e1 he1 => ?_⟩
      have hGe1 : G e1 = none := g1.i.free he1
      have hHe1 : H e1 = none := by
        cases hH : H e1 with
        | none => rfl
        | some o => rw [s1 _ _ hH] at he1; cases he1
      have g2 : Grow G H G (upd H1 e1 (.dK kvs)) := g1.more (same_new he1)
      have hae : a ≠ e1 := ne_of_none ha1 he1
      refine ⟨_, rfl, e1, rfl, .inl ⟨kvs, .inl upd_same⟩, _, rfl, a, _, 1, _, rfl, rfl, SqL.of (g2.h _ _ haH), w1, kvs, .inr (tx n), x, upd_same, rfl, hx, ?_⟩
      have g3 := g2.set (o := .dK (dropK kvs (.inr (tx n)))) hHe1 hGe1
      have he3 : upd (upd H1 e1 (.dK kvs)) e1 (.dK (dropK kvs (.inr (tx n)))) e1 = some (.dK (dropK kvs (.inr (tx n)))) := upd_same
      generalize upd (upd H1 e1 (.dK kvs)) e1 (.dK (dropK kvs (.inr (tx n)))) = H3 at *
      refine ⟨_, rfl, p, C, dx, _, _, rfl, g3.h _ _ hp, TD.cl, TD.nl, fld_l _ _ _, la, ls, rfl, .inl (g3.i _ _ (g3.g _ _ hla)), fun e2 he2 => ?_⟩
      have hGe2 : G e2 = none := g3.i.free he2
      have hHe2 : H e2 = none := by
        cases hH : H e2 with
        | none => rfl
        | some o => rw [g3.h _ _ hH] at he2; cases he2
      have h12 : e1 ≠ e2 := ne_of_none he3 he2
      have g4 : Grow G H G (upd H3 e2 (.dK ls)) := g3.more (same_new he2)
      refine ⟨_, rfl, e2, rfl, .inl ⟨ls, .inl upd_same⟩, _, rfl, a, _, 1, _, rfl, rfl, SqL.of (g4.h _ _ haH), w1, ls, .inr (tx n), y, upd_same, rfl, hy, ?_⟩
      have g5 := g4.set (o := .dK (dropK ls (.inr (tx n)))) hHe2 hGe2
      have he5 : upd (upd H3 e2 (.dK ls)) e2 (.dK (dropK ls (.inr (tx n)))) e2 = some (.dK (dropK ls (.inr (tx n)))) := upd_same
      have he15 : upd (upd H3 e2 (.dK ls)) e2 (.dK (dropK ls (.inr (tx n)))) e1 = some (.dK (dropK kvs (.inr (tx n)))) := by rw [upd_ne h12, upd_ne h12]; exact he3
      generalize upd (upd H3 e2 (.dK ls)) e2 (.dK (dropK ls (.inr (tx n)))) = H5 at *
      have g6 := g5.put hHe1 he15 hGe1
      have hGe26 : upd G e1 (.dK (dropK kvs (.inr (tx n)))) e2 = none := by rw [upd_ne h12.symm]; exact hGe2
      have g7 := g6.put hHe2 he5 hGe26
      have hst : StateAt (upd (upd G e1 (.dK (dropK kvs (.inr (tx n))))) e2 (.dK (dropK ls (.inr (tx n))))) e1 e2 (s.book.filter fun d => d.name != n) :=
        ⟨⟨_, _, by rw [upd_ne h12]; exact upd_same, upd_same, (hkv.drop n).mono g7.g, (hls.drop hgood.nd hnu).mono g7.g⟩, hgood.drop hnu⟩
      generalize upd (upd G e1 (.dK (dropK kvs (.inr (tx n))))) e2 (.dK (dropK ls (.inr (tx n)))) = G7 at *
      refine ⟨_, rfl, p, dx, _, rfl, g7.h _ _ hp, fld_on _ _ _, _, rfl, _, rfl, p, e1, e2, s, _, G7, rfl, g7.i, D0.grow g7, hst, fun G8 H8 g8 D8 => ?_⟩
      exact ans (t := Cp12.ok) rfl (q _ _ (GrowX.after g7 g8 (D0.grow g7).ne) D8)
/-! ### answer_part -/
abbrev s_answer_part : Stmt := top 71
abbrev n_answer_part : List Str := ["desk", "command", "part", "name"]
theorem sc_answer_part : FnScope n_answer_part ["desk", "command"] (defScope s_answer_part) := ⟨rfl, rfl, rfl, by decide +kernel, rfl, by decide +kernel, by decide +kernel⟩

theorem ok_answer_part {f : Addr} {fd : FuncData} (F : Fun K "answer_part" "answer_part" s_answer_part f fd) (T : Txt K w mg aM aR aP aS aN aB) (TD : TxtD K C) (f_define : Callee P w K mg base "define" 7 ["desk", "name", "definition"] (sp_define C)) (f_make_part : Callee P w K mg base "make_part" 2 ["steps"] sp_make_part) (f_names_used : Callee P w K mg base "names_used" 1 ["definition"] sp_names_used) (f_reaches : Callee P w K mg base "reaches" 2 ["definitions", "starts", "goal"] sp_reaches) : FnOk P w K mg base CX0 8 f fd ["desk", "command"] (sp_ans C fun c => ∃ n e, c = .part n e) := by
  refine F.ok sc_answer_part (fun vs H Q E h => ?_) (fun cdv A outer s H vs Q E hr h => ?_)
  · obtain ⟨p, v, s, c, G, rfl, _⟩ := h; rfl
  · obtain ⟨p, v, s, c, G, rfl, hG, D, ⟨a, items, rfl, ha, hit⟩, hok, ⟨n, e, rfl⟩, q⟩ := h
    have hu := hu_of hr
    refine ⟨_, (pss_cons (ps_set (i := 2) sc_answer_part.nd rfl (Or.inl rfl) (pe_do f_make_part hr (by decide) (by rfl) (pa_cons (pe_ix ix_list (pv 1) pe_int (fun _ _ => rfl)) pa_nil))) (pss_cons (ps_for PassesOwn.never rfl (pi_list (pe_do f_names_used hr (by decide) (by rfl) (pa_cons (pv 2) pa_nil))) (pg_name (i := 3) sc_answer_part.nd rfl (Or.inl rfl)) (pss_one (ps_if (pt_cmp (pc_dnotin hu (pv 3) (pe_fld (pv 0) rfl))) (pss_one (ps_ret pe_str)) pss_nil))) (pss_cons (ps_if (pt_val (pe_do f_reaches hr (by decide) (by rfl) (pa_cons (pe_fld (pv 0) rfl) (pa_cons (pe_do f_names_used hr (by decide) (by rfl) (pa_cons (pv 2) pa_nil)) (pa_cons (pe_ix ix_list (pv 1) pe_int (fun _ _ => rfl)) pa_nil))))) (pss_one (ps_ret pe_str)) pss_nil) (pss_one (ps_ret (pe_do f_define hr (by decide) (by rfl) (pa_cons (pv 0) (pa_cons (pe_ix ix_list (pv 1) pe_int (fun _ _ => rfl)) (pa_cons (pv 2) pa_nil))))))))), ?_⟩
    obtain ⟨x, hit, hx, hxl⟩ : ∃ x, items = [.str (tx (ascii "part")), .str (tx n), x] ∧ Seq TokAt G x (rpn e) ∧ (rpn e).length ≤ 1000 := hit
    subst hit
    have haH := hG _ _ ha
    have w1 : atI [V.str (tx (ascii "part")), .str (tx n), x] 1 = some (.str (tx n)) := atI_nat (j := 1) rfl
    have w2 : atI [V.str (tx (ascii "part")), .str (tx n), x] 2 = some x := atI_nat (j := 2) rfl
    have hok : Cp12.isName n = true ∧ okE e := hok
    refine ⟨_, rfl, a, _, 2, _, rfl, rfl, SqL.of haH, w2, x, e, G, rfl, hG, hx, hxl, fun r G1 H1 g1 hr1 => ?_⟩
    have D1 := D.grow g1
    have q1 : ∀ G' H', GrowX p G1 H1 G' H' → DeskAt C G' H' p (Cp12.does s (.part n e)).1 → Q (.str (tx (Cp12.does s (.part n e)).2)) H' := fun G' H' g' D' => q _ _ (GrowX.after g1 g' D1.ne) D'
    have q' := fun t e => quiet (t := t) g1.i D1 e q1
    have D0 := D1
    obtain ⟨hGp, ⟨dx, d, la, pa, xs, hp, hpa, ⟨⟨kvs, ls, hd, hla, hkv, hls⟩, hgood⟩, hP⟩, hl⟩ := D1
    have hd1 := g1.i _ _ hd
    have hrn := hr1 n
    have hmem : ∀ u, u ∈ usesD ⟨n, .part e⟩ ↔ u ∈ names e := fun u => Pb.mem_usesD rfl
    have hul : (usesD ⟨n, .part e⟩).length ≤ 1000 := by
      show (Pb.once (names e)).length ≤ 1000
      have h1 := once_len (names e)
      have h2 := List.length_filterMap_le Pb.nameOf (rpn e)
      rw [← Pb.names_rpn] at h2
      omega
    refine ⟨_, rfl, r, ⟨n, .part e⟩, rfl, hrn.mono g1.i, fun c hc => ?_⟩
    refine ⟨c, rfl, ⟨_, SqL.of hc⟩, for_list (K := K) (a := c) (xs := wordsV (usesD ⟨n, .part e⟩)) (fun i σ H2 => ∃ y : Option V, σ = [some (.ref p), some (.ref a), some r, y] ∧ H2 = H1 ∧ ∀ u ∈ (usesD ⟨n, .part e⟩).take i, has s.book u = true)
      ⟨none, rfl, rfl, by simp⟩ (fun i σ H2 _ ⟨_, _, h2, _⟩ => by rw [h2]; exact SqL.of hc) (fun i y σ H2 hy ⟨y3, es, h2, hin⟩ => ?_) (fun σ H2 ⟨y3, es, h2, hin⟩ => ?_)⟩
    · subst es h2
      unfold wordsV at hy
      rw [List.getElem?_map] at hy
      obtain ⟨u, hu1, rfl⟩ := Option.map_eq_some_iff.mp hy
      refine ⟨_, rfl, _, rfl, p, C, dx, _, _, rfl, hp, TD.cl, TD.nd, fld_d _ _ _, d, _, rfl, DGet.k (k := .inr (tx u)) hd1, _, rfl, ?_⟩
      refine not_in hkv (fun c2 => ?_) (fun c2 => ?_)
      · have e0 : Cp12.does s (.part n e) = (s, Cp12.no "name") := by
          simp only [Cp12.does]
          rw [if_pos]
          rw [List.all_eq_false]
          exact ⟨u, (hmem u).mp (List.mem_of_getElem? hu1), by rw [any_has, c2]; decide⟩
        exact ans (t := Cp12.no "name") (by decide) (q' _ e0 _ (Same.refl _))
      · refine ⟨_, rfl, rfl, fun v hv => ?_⟩
        rw [take_more hu1] at hv
        rcases List.mem_append.mp hv with hv | hv
        · exact hin v hv
        · rw [List.mem_singleton.mp hv]; exact c2
    · subst es h2
      rw [words_len, List.take_length] at hin
      have hall : ¬ ((names e).all fun w => s.book.any fun d => d.name == w) = false := by
        intro z
        rw [List.all_eq_false] at z
        obtain ⟨u, h1, h2⟩ := z
        rw [any_has, hin u ((hmem u).mpr h1)] at h2
        exact h2 rfl
      have hring := Pb.ring_iff hgood ⟨n, .part e⟩ (names e) (fun u hu => hin u ((hmem u).mpr hu))
      refine ⟨_, rfl, p, C, dx, _, _, rfl, hp, TD.cl, TD.nd, fld_d _ _ _, _, rfl, r, ⟨n, .part e⟩, rfl, hrn.mono g1.i, fun c2 hc2 => ?_⟩
      refine ⟨_, rfl, a, _, 1, _, rfl, rfl, SqL.of (g1.h _ _ haH), w1, d, c2, n, kvs, s.book, usesD ⟨n, .part e⟩, rfl, hd1, hkv.mono g1.i, hgood, hc2, hin, hul, fun hre H3 s3 => ?_, fun hre H3 s3 => ?_⟩
      · have e0 : Cp12.does s (.part n e) = (s, Cp12.no "ring") := by
          simp only [Cp12.does]
          rw [if_neg hall, if_pos]
          obtain ⟨u, h1, h2⟩ := hre
          exact hring.mpr ⟨u, (hmem u).mp h1, h2⟩
        exact ⟨_, rfl, ans (t := Cp12.no "ring") (by decide) (q' _ e0 H3 s3)⟩
      · have e0 : Cp12.does s (.part n e) = defines s ⟨n, .part e⟩ := by
          simp only [Cp12.does]
          rw [if_neg hall, if_neg]
          · rfl
          · intro z
            obtain ⟨u, h1, h2⟩ := hring.mp z
            exact hre ⟨u, (hmem u).mpr h1, h2⟩
        rw [e0] at q1
        have g3 : Grow G1 _ G1 H3 := Grow.of g1.i s3
        refine ⟨_, rfl, _, rfl, _, rfl, a, _, 1, _, rfl, rfl, SqL.of (s3 _ _ (g1.h _ _ haH)), w1, _, rfl, p, r, s, ⟨n, .part e⟩, G1, rfl, g3.i, D0.grow g3, hrn, hok, hin, fun u hu z => hre ⟨u, hu, z⟩, fun G4 H4 g4 D4 => q1 _ _ (GrowX.after g3 g4 (D0.grow g3).ne) D4⟩
end
end Pbd
namespace Pbd
open PySem PySem.Spec PyProof.Rows L2 TL
open Cp12 (Bytes ascii names value Def Book)
open Pb (rpn okE usesD has Good okD readW changeP cmdP okC Reach)
def wordOf : Cp12.Cmd → String
  | .theme _ _ => "theme"
  | .part _ _ => "part"
  | .drop _ => "drop"
  | .show _ => "show"
  | .long _ => "long"
  | .at_ _ _ => "at"
  | .same _ _ => "same"
  | .uses _ => "uses"
  | .users _ => "users"
  | .list => "list"
  | .undo => "undo"
  | .dump => "dump"
def ansNames : List String := ["theme", "part", "drop", "undo", "show", "long", "at", "same", "uses", "users", "list", "dump"]
theorem lookup_ans (f : String → Addr) (u : Bytes) : ∀ l : List String, (l.map fun p => (Str.ofString p, Value.ref (f p))).lookup (tx u) = (l.find? fun p => decide (u = ascii p)).map fun p => Value.ref (f p)
  | [] => rfl
  | p :: r => by
    have hlit : (tx u == Str.ofString p) = decide (u = ascii p) := by
      rw [lit]
      by_cases c : u = ascii p
      · rw [← c]; simp
      · rw [decide_eq_false c]
        exact beq_eq_false_iff_ne.mpr fun z => c (tx_inj z)
    rw [List.map_cons, List.find?_cons]
    simp only [List.lookup, hlit]
    cases decide (u = ascii p) with
    | true => rfl
    | false => exact lookup_ans f u r
theorem find_ans (c : Cp12.Cmd) : (ansNames.find? fun p => decide (ascii (wordOf c) = ascii p)) = some (wordOf c) := by
  have h : ∀ w ∈ ansNames, (ansNames.find? fun p => decide (ascii w = ascii p)) = some w := by decide
  refine h _ ?_
  cases c <;> simp [wordOf, ansNames]
theorem cmd_word {G : Hp} {v : V} {c : Cp12.Cmd} (h : CmdAt G v c) : ∃ a items, v = .ref a ∧ G a = some (.lst items) ∧ atI items 0 = some (.str (tx (ascii (wordOf c)))) := by
  obtain ⟨a, items, rfl, ha, hit⟩ := h
  refine ⟨a, items, rfl, ha, ?_⟩
  cases c with
  | theme n l => obtain ⟨x, rfl, _⟩ := hit; exact atI_nat (j := 0) rfl
  | part n e => obtain ⟨x, rfl, _⟩ := hit; exact atI_nat (j := 0) rfl
  | _ =>
    have hit : items = _ := hit
    subst hit
    exact atI_nat (j := 0) rfl
section
variable {P : Program} {w : World} {K : PySem.W.Frag} {mg : Str → Option Value} {base : Heap} {aM aR aP aS aN aB C : Addr}
/-- the table of the answers -/
structure TabOk (P : Program) (w : World) (K : PySem.W.Frag) (mg : Str → Option Value) (base : Heap) (C aA : Addr) (k : Nat) : Prop where
  ex : ∃ f : String → Addr, KTab K w aA (ansNames.map fun p => (Str.ofString p, Value.ref (f p))) ∧ ∀ c : Cp12.Cmd, ∃ isC : Cp12.Cmd → Prop, isC c ∧ HeldT P w K mg base k (f (wordOf c)) (sp_ans C isC)
/-! ### answer_text -/
abbrev s_answer_text : Stmt := top 87
abbrev n_answer_text : List Str := ["desk", "text", "command"]
theorem sc_answer_text : FnScope n_answer_text ["desk", "text"] (defScope s_answer_text) := ⟨rfl, rfl, rfl, by decide +kernel, rfl, by decide +kernel, by decide +kernel⟩

def sp_answer_text (C : Addr) : Sp := fun vs H Q _ => ∃ (p : Addr) (t : Bytes) (s : Cp12.Desk) (G : Hp), vs = [.ref p, .str (tx t)] ∧ Asc t ∧ t.length ≤ 400 ∧ Same G H ∧ DeskAt C G H p s ∧ ∀ G' H', GrowX p G H G' H' → DeskAt C G' H' p (Cp12.said s t).1 → Q (.str (tx (Cp12.said s t).2)) H'
theorem ok_answer_text {f aA : Addr} {fd : FuncData} (F : Fun K "answer_text" "answer_text" s_answer_text f fd) (T : Txt K w mg aM aR aP aS aN aB) (f_read_command : Callee P w K mg base "read_command" 7 ["text"] sp_read_command) (g_ANSWERS : mg "ANSWERS" = some (.ref aA)) (TA : TabOk P w K mg base C aA 8) :
    FnOk P w K mg base CX0 9 f fd ["desk", "text"] (sp_answer_text C) := by
  refine F.ok sc_answer_text (fun vs H Q E h => ?_) (fun cdv A outer s H vs Q E hr h => ?_)
  · obtain ⟨p, t, s, G, rfl, _⟩ := h; rfl
  · obtain ⟨p, t, s, G, rfl, hasc, hlen, hG, D, q⟩ := h
    obtain ⟨tf, hT, hall⟩ := TA.ex
    refine ⟨_, (pss_cons (ps_set (i := 2) sc_answer_text.nd rfl (Or.inl rfl) (pe_do f_read_command hr (by decide) (by rfl) (pa_cons (pv 1) pa_nil))) (pss_cons (ps_if (pt_cmpR op_isN (pv 2) pe_non (nomark _)) (pss_one (ps_ret pe_str)) pss_nil) (pss_one (ps_ret (pe_any (k := 8) (by decide) hr (pe_ix ix_kt (pe_gref (by rfl) g_ANSWERS) (pe_ix ix_list (pv 2) pe_int (fun _ _ => rfl)) (fun _ _ => rfl)) (pa_cons (pv 0) (pa_cons (pv 2) pa_nil))))))), ?_⟩
    refine ⟨_, rfl, t, G, rfl, hasc, hlen, hG, fun r G1 H1 g1 hr1 => ?_⟩
    have D1 := D.grow g1
    unfold Cp12.said at q
    cases hc : Cp12.cmd? t with
    | none =>
      rw [hc] at q hr1
      obtain rfl : r = .non := hr1
      exact ⟨_, rfl, rfl, _, rfl, ans (t := Cp12.no "form") (by decide) (q _ _ (GrowX.of g1) D1)⟩
    | some c =>
      rw [hc] at q hr1
      have hr1 : CmdAt G1 r c := hr1
      have hok : okC c := Pb.cmdP_ok (by rw [← Pb.cmd_eq]; exact hc)
      obtain ⟨a, items, rfl, ha, hit⟩ := cmd_word hr1
      obtain ⟨isC, hi, hh⟩ := hall c
      have hlk : (ansNames.map fun p => (Str.ofString p, Value.ref (tf p))).lookup (tx (ascii (wordOf c))) = some (.ref (tf (wordOf c))) := by rw [lookup_ans, find_ans]; rfl
      refine ⟨_, rfl, rfl, _, rfl, ?_⟩
      exact ⟨_, rfl, a, _, 0, _, rfl, rfl, SqL.of (g1.i _ _ ha), hit, _, tx (ascii (wordOf c)), _, _, .ref (tf (wordOf c)), rfl, rfl, hT, hlk, rfl, tf (wordOf c), _, rfl, hh, _, rfl, _, rfl, p, .ref a, s, c, G1, rfl, g1.i, D1, hr1, hok, hi, fun G2 H2 g2 D2 => q _ _ (GrowX.after g1 g2 D1.ne) D2⟩
end
end Pbd
namespace Pbd
open PySem PySem.Spec PyProof.Rows L2 TL
open Cp12 (Bytes ascii names value Def Book)
open Pb (csl sub)
def isB (z : Int) : Bool := decide (32 ≤ z) && decide (z ≤ 126)
def kvC (c : Nat) : Key × V := (Sum.inl ((c : Nat) : Int), V.str (tx [c]))
def signsKV : List (Key × V) := csl.map kvC
theorem csl_lit : Str.ofString " #()+:0123456789abcdefghijklmnopqrstuvwxyz" = tx csl := lit _
theorem csl_nodup : csl.Nodup := by decide +kernel
theorem csl_le : ∀ c ∈ csl, c < 127 := by decide +kernel
theorem merge_signs : ∀ (l : List Nat) (acc : List (Key × V)), (∀ c ∈ l, valV acc (Sum.inl (c : Int)) = none) → l.Nodup → mergeK acc (l.map kvC) = acc ++ l.map kvC
  | [], acc, _, _ => by simp [mergeK]
  | c :: l, acc, h, nd => by
    have hc := h c (by simp)
    have nd' := List.nodup_cons.mp nd
    have e1 : putK acc (Sum.inl (c : Int)) (V.str (tx [c])) = acc ++ [(Sum.inl (c : Int), V.str (tx [c]))] := putK_new _ hc
    show mergeK (putK acc (Sum.inl (c : Int)) (V.str (tx [c]))) (l.map kvC) = _
    rw [merge_signs l _ (fun x hx => ?_) nd'.2, e1]
    · simp [kvC]
    · rw [valV_put_other _ _ (fun z => ?_)]
      · exact h x (List.mem_cons_of_mem _ hx)
      · have : x = c := by have := Sum.inl.inj z; omega
        exact nd'.1 (this ▸ hx)
theorem val_signs (n : Nat) : ∀ l : List Nat, valV (l.map kvC) (Sum.inl (n : Int)) = if l.contains n then some (.str (tx [n])) else none
  | [] => rfl
  | c :: l => by
    by_cases h : c = n
    · subst h
      rw [List.map_cons]
      have e : valV (kvC c :: l.map kvC) (Sum.inl ((c : Nat) : Int)) = some (kvC c).2 := valV_pos (p := kvC c) rfl
      rw [e]; simp [kvC]
    · rw [List.map_cons, valV_neg (fun z => h (by have := Sum.inl.inj z; omega)), val_signs n l]
      have : (c :: l).contains n = l.contains n := by
        rw [List.contains_cons]
        rw [show (n == c) = false from beq_eq_false_iff_ne.mpr fun z => h z.symm]; rfl
      rw [this]
theorem val_sub (n : Nat) : (valV signsKV (Sum.inl (n : Int))).getD (.str (tx [63])) = .str (tx [sub n]) := by
  unfold signsKV
  rw [val_signs n csl]
  unfold Pb.sub
  split <;> rfl
theorem sub_lt (n : Nat) : sub n < 127 := by
  unfold Pb.sub
  split
  · rename_i h; exact csl_le n (by simpa using h)
  · decide
/-- [elt for c in text]: each element stands for a datum, in G, which grows -/
theorem lc_text {α : Type} {R : Hp → V → α → Prop} (hR : ∀ {G G' : Hp} {v : V} {x : α}, Same G G' → R G v x → R G' v x) {z : Str} {ys : List α} {i0 : Nat} {te : TE} {σ : L2.St} {G1 H1 : Hp} {D : Addr} {Qd : Hp → Prop}
    (hG : Same G1 H1) (hD : H1 D = none) (hl : ys.length = z.cps.size) (hb : z.cps.size ≤ 10000000)
    (hw : ∀ x : V, wipe ((wipe σ [i0]).set i0 (some x)) [i0] = wipe σ [i0])
    (hs : ∀ (i : Nat) (c : Nat) (y : α) (G H : Hp) (Q : VK), z.cps[i]? = some c → ys[i]? = some y → Same G1 G → Same G H → (∀ v G' H', Grow G H G' H' → R G' v y → Q v H') → te ((wipe σ [i0]).set i0 (some (.str ⟨#[c]⟩))) H Q)
    (hd : ∀ G H vs, Grow G1 H1 G H → G D = none → H D = some (.lst vs) → Paired (R G) vs ys → Qd H) :
    ∃ W : Nat → Nat → Hp → Prop, (∃ m, W 0 m (upd H1 D (.lst []))) ∧ ∀ i m H, W i m H →
      ((Its z).stop i H ∧ Qd H) ∨ ((Its z).go i H ∧ ∃ Nx : Hp → Prop, (∀ H', Nx H' → ∃ m', m' < m ∧ W (i + 1) m' H') ∧ ∀ x H', (Its z).yld i H x H' → gName i0 x (wipe σ [i0]) H' fun σ2 H2 => wipe σ2 [i0] = wipe σ [i0] ∧ tYes σ2 H2 fun b H3 =>
        if b = true then te σ2 H3 fun y H4 => ∃ acc, H4 D = some (.lst acc) ∧ acc.length < sizeLine ∧ Nx (upd H4 D (.lst (acc ++ [y]))) else Nx H3) := by
  have hgD : G1 D = none := hG.free hD
  refine lc_it (walk_str (z := z)) (fun i H => ∃ G vs, Grow G1 H1 G H ∧ G D = none ∧ H D = some (.lst vs) ∧ Paired (R G) vs (ys.take i)) ⟨G1, [], (Grow.refl hG).set hD hgD, hgD, upd_same, by simpa using Paired.nil⟩ (fun _ _ _ _ => trivial) (fun i x H H' hi hp hy => ?_) (fun H hp => ?_)
  · obtain ⟨G, vs, g, gD, hh, hp⟩ := hp
    obtain ⟨rfl, c, hc, rfl⟩ := hy
    have hi' : i < ys.length := by rw [hl]; exact hi
    have hy : ys[i]? = some ys[i] := List.getElem?_eq_getElem hi'
    refine ⟨hw _, hs i c _ G _ _ hc hy g.g g.i fun v G' H'' g' r => ?_⟩
    have gD' : G' D = none := g'.out hh gD
    refine ⟨_, g'.h _ _ hh, ?_, G', _, (g.trans g').set hD gD', gD', upd_same, ?_⟩
    · have := paired_len hp
      rw [List.length_take] at this
      rw [szL]; omega
    · rw [take_more hy]
      exact paired_snoc (paired_mono hp fun _ _ q => hR g'.g q) r
  · obtain ⟨G, vs, g, gD, hh, hp⟩ := hp
    refine hd G H vs g gD hh ?_
    rw [← hl, List.take_length] at hp
    exact hp
theorem join_none : ∀ l : List Nat, joinL [] (l.map fun c => [c]) = l
  | [] => rfl
  | [c] => rfl
  | c :: d :: r => by
    show [c] ++ ([] ++ joinL [] ((d :: r).map fun c => [c])) = _
    rw [join_none (d :: r)]; rfl
theorem join_signs (l : List Nat) : Txt.join (Str.ofString "") (l.map fun c => tx [c]) = tx l := by
  apply ext_tl
  have e0 : tl (Str.ofString "") = [] := by decide +kernel
  rw [join_eq, tl_join, e0, List.map_map]
  have : (tl ∘ fun c => tx [c]) = fun (c : Nat) => [c] := by funext x; rfl
  rw [this, join_none]; rfl
section
variable {P : Program} {w : World} {K : PySem.W.Frag} {mg : Str → Option Value} {base : Heap} {aM aR aP aS aN aB C : Addr}
/-! ### is_text -/
abbrev s_is_text : Stmt := top 96
abbrev n_is_text : List Str := ["command", "byte"]
theorem sc_is_text : FnScope n_is_text ["command"] (defScope s_is_text) := ⟨rfl, rfl, rfl, by decide +kernel, rfl, by decide +kernel, by decide +kernel⟩

def sp_is_text : Sp := fun vs H Q _ => ∃ (a : Addr) (ns : List Int), vs = [.ref a] ∧ H a = some (.lst (ns.map V.int)) ∧ ns.length ≤ 10000 ∧ ∀ H', Same H H' → Q (.bl (decide (ns.length ≤ 400) && ns.all isB)) H'
theorem ok_is_text {f : Addr} {fd : FuncData} (F : Fun K "is_text" "is_text" s_is_text f fd) (T : Txt K w mg aM aR aP aS aN aB) : FnOk P w K mg base CX0 1 f fd ["command"] sp_is_text := by
  refine F.ok sc_is_text (fun vs H Q E h => ?_) (fun cdv A outer s H vs Q E hr h => ?_)
  · obtain ⟨a, ns, rfl, _⟩ := h; rfl
  · obtain ⟨a, ns, rfl, ha, hl, q⟩ := h
    refine ⟨_, (pss_one (ps_ret (pe_and (pe_cmpR op_le (pe_callB call_len_seq (by rfl) T.b_len (by decide +kernel) (pa_cons (pv 0) pa_nil)) (pe_gint (by rfl) T.g_MOST_BYTES) (nomark _)) (pe_one (pe_callB (cr_all rfl) (by rfl) T.b_all (by decide +kernel) (pa_cons (pe_lc (own := [("byte", 1)]) (g := gName 1) rfl sc_is_text.nd (pi_list (pv 0)) (blkOk_by (own := [("byte", 1)]) (N := n_is_text) (sc := defScope s_is_text) (by decide +kernel)) (fun _ _ _ _ _ => pg_name (i := 1) sc_is_text.nd rfl (Or.inl rfl)) (fun _ _ _ _ _ => pts_nil) (fun _ _ _ _ _ => (pe_chain op_le op_le (pe_gint (by rfl) T.g_LOWEST_BYTE) (pv 1) (pe_gint (by rfl) T.g_HIGHEST_BYTE)))) pa_nil)))))), ?_⟩
    refine ⟨_, rfl, a, _, rfl, .inl (SqL.of ha), _, _, rfl, rfl, _, rfl, if_b (fun c1 => ?_) (fun c1 => ?_)⟩
    · have c1 : ns.length ≤ 400 := by have := of_decide_eq_true c1; rw [List.length_map] at this; omega
      rw [decide_eq_true c1] at q
      refine ⟨_, rfl, a, rfl, ⟨_, SqL.of ha⟩, fun D hD => lc_vals (xs := ns.map V.int) (ys := ns.map fun z => V.bl (isB z)) (SqL.of ha) hD (by rw [List.length_map, List.length_map]) (by rw [List.length_map]; omega) (fun _ => rfl) (fun i x y H' Q' hx hy s' k => ?_) (fun H' s' hD' => ?_)⟩
      · rw [List.getElem?_map] at hx hy
        cases hz : ns[i]? with
        | none => rw [hz] at hx; cases hx
        | some z =>
          rw [hz] at hx hy
          cases hx
          cases hy
          refine ⟨_, rfl, _, _, rfl, rfl, _, rfl, if_b (fun c2 => ?_) (fun c2 => ?_)⟩
          · refine ⟨_, _, rfl, rfl, ?_⟩
            have := k _ (Same.refl _)
            dsimp only [isB] at this
            rw [c2] at this
            exact this
          · have := k _ (Same.refl _)
            dsimp only [isB] at this
            rw [c2] at this
            exact this
      · refine ⟨D, ns.map isB, rfl, by rw [List.map_map]; exact SqL.of hD', ?_⟩
        rw [List.all_map]
        exact q H' s'
    · have c1 : ¬ ns.length ≤ 400 := by have := of_decide_eq_false c1; rw [List.length_map] at this; omega
      rw [decide_eq_false c1] at q
      exact q _ (Same.refl _)
/-! ### text_of -/
abbrev s_text_of : Stmt := top 97
abbrev n_text_of : List Str := ["command", "signs", "sign", "byte"]
theorem sc_text_of : FnScope n_text_of ["command"] (defScope s_text_of) := ⟨rfl, rfl, rfl, by decide +kernel, rfl, by decide +kernel, by decide +kernel⟩

def sp_text_of : Sp := fun vs H Q _ => ∃ (a : Addr) (ns : List Nat), vs = [.ref a] ∧ H a = some (.lst (ns.map fun n => V.int (n : Nat))) ∧ ns.length ≤ 400 ∧ ∀ H', Same H H' → Q (.str (tx (ns.map sub))) H'
def SignAt (G : Hp) (v : V) (c : Nat) : Prop := ∃ t, v = .ref t ∧ G t = some (.tup [.int (c : Nat), .str (tx [c])])
theorem SignAt.mono {G G' : Hp} {v : V} {c : Nat} (s : Same G G') (h : SignAt G v c) : SignAt G' v c := by
  obtain ⟨t, h1, h2⟩ := h
  exact ⟨t, h1, s _ _ h2⟩
theorem signs_refs {G : Hp} : ∀ {vs : List V} {l : List Nat}, Paired (SignAt G) vs l → ∃ ps : List Addr, vs = ps.map V.ref ∧ Paired (fun p (kv : Key × V) => SqT K G p [kV kv.1, kv.2]) ps (l.map kvC)
  | _, _, .nil => ⟨[], rfl, .nil⟩
  | _, _, .cons h r => by
    obtain ⟨ps, e, hp⟩ := signs_refs r
    obtain ⟨t, rfl, ht⟩ := h
    exact ⟨t :: ps, by rw [e]; rfl, .cons (SqT.of ht) hp⟩
theorem ok_text_of {f : Addr} {fd : FuncData} (F : Fun K "text_of" "text_of" s_text_of f fd) (T : Txt K w mg aM aR aP aS aN aB) : FnOk P w K mg base CX0 1 f fd ["command"] sp_text_of := by
  refine F.ok sc_text_of (fun vs H Q E h => ?_) (fun cdv A outer s H vs Q E hr h => ?_)
  · obtain ⟨a, ns, rfl, _⟩ := h; rfl
  · obtain ⟨a, ns, rfl, ha, hl, q⟩ := h
    have hu := hu_of hr
    refine ⟨_, (pss_cons (ps_set (i := 1) sc_text_of.nd rfl (Or.inr rfl) (pe_callTy (call_dictP rfl) (by rfl) T.b_dict (by decide +kernel) (pa_cons (pe_lc (own := [("sign", 2)]) (g := gName 2) rfl sc_text_of.nd (pi_str (pe_gstr (by rfl) T.g_COMMAND_SIGNS)) (blkOk_by (own := [("sign", 2)]) (N := n_text_of) (sc := defScope s_text_of) (by decide +kernel)) (fun _ _ _ _ _ => pg_name (i := 2) sc_text_of.nd rfl (Or.inl rfl)) (fun _ _ _ _ _ => pts_nil) (fun _ _ _ _ _ => (pe_tup (pa_cons (pe_callB call_ord (by rfl) T.b_ord (by decide +kernel) (pa_cons (pv 2) pa_nil)) (pa_cons (pv 2) pa_nil))))) pa_nil))) (pss_one (ps_ret (pe_join pe_str (pe_lc (own := [("byte", 3)]) (g := gName 3) rfl sc_text_of.nd (pi_list (pv 0)) (blkOk_by (own := [("byte", 3)]) (N := n_text_of) (sc := defScope s_text_of) (by decide +kernel)) (fun _ _ _ _ _ => pg_name (i := 3) sc_text_of.nd rfl (Or.inl rfl)) (fun _ _ _ _ _ => pts_nil) (fun _ _ _ _ _ => (pe_dget2 hu (pv 1) (pv 3) (pe_gstr (by rfl) T.g_OTHER_SIGN) ⟨rfl, rfl, rfl, rfl⟩))))))), ?_⟩
    rw [csl_lit]
    have hsz : (tx csl).cps.size = csl.length := by simp [tx]
    have hc100 : csl.length ≤ 100 := by decide
    refine ⟨_, rfl, fun D hD => lc_text (R := SignAt) (fun s r => r.mono s) (z := tx csl) (ys := csl) (G1 := H) (Same.refl _) hD hsz.symm (by rw [hsz]; omega) (fun _ => rfl) (fun i c y G1 H1 Q1 hc hy s1 s2 k => ?_) (fun G1 H1 vs g1 gD hD1 hp => ?_)⟩
    · have : (tx csl).cps[i]? = csl[i]? := by simp [tx]
      rw [this, hy] at hc
      cases hc
      refine ⟨_, rfl, _, rfl, rfl, _, rfl, (by show 2 ≤ sizeLine; decide), fun t ht => ?_⟩
      exact k _ _ _ (Grow.new s2 ht) ⟨t, rfl, upd_same⟩
    · obtain ⟨ps, e, hps⟩ := signs_refs (K := K) (paired_mono hp fun _ _ z => z.mono g1.i)
      subst e
      refine ⟨D, ps, csl.map kvC, rfl, SqL.of hD1, hps, fun d hd => ?_⟩
      have em : mergeK [] (csl.map kvC) = signsKV := by rw [merge_signs csl [] (fun _ _ => rfl) csl_nodup]; rfl
      rw [em]
      have s2 : Same H (upd H1 d (.dK signsKV)) := g1.h.trans (same_new hd)
      have hd2 : upd H1 d (.dK signsKV) d = some (.dK signsKV) := upd_same
      generalize upd H1 d (.dK signsKV) = H2 at *
      have ha2 := s2 _ _ ha
      refine ⟨⟨_, rfl⟩, _, rfl, a, rfl, ⟨_, SqL.of ha2⟩, fun D2 hD2 => lc_vals (xs := ns.map fun n => V.int (n : Nat)) (ys := wordsV ((ns.map sub).map fun c => [c])) (SqL.of ha2) hD2 (by rw [words_len, List.length_map, List.length_map, List.length_map]) (by rw [List.length_map]; omega) (fun _ => rfl) (fun i x y H' Q' hx hy s' k => ?_) (fun H' s' hD' => ?_)⟩
      · unfold wordsV at hy
        rw [List.getElem?_map, List.getElem?_map, List.getElem?_map] at hy
        rw [List.getElem?_map] at hx
        cases hz : ns[i]? with
        | none => rw [hz] at hx; cases hx
        | some n =>
          rw [hz] at hx hy
          cases hx
          cases hy
          have e63 : Str.ofString "?" = tx [63] := by rw [lit]; rfl
          refine ⟨_, rfl, d, rfl, .inl ⟨_, .inl (s' _ _ hd2)⟩, _, rfl, _, DGet.k (k := .inl (n : Int)) (s' _ _ hd2), ?_⟩
          rw [e63, val_sub]
          exact k _ (Same.refl _)
      · refine ⟨_, D2, (ns.map sub).map (fun c => tx [c]), rfl, rfl, .inl ?_, ?_, ?_⟩
        · have : wordsV ((ns.map sub).map fun c => [c]) = ((ns.map sub).map (fun c => tx [c])).map V.str := by
            unfold wordsV
            simp [List.map_map, Function.comp_def]
          rw [← this]
          exact SqL.of hD'
        · have h1 := sum_len_le (k := 1) ((ns.map sub).map fun c => tx [c]) fun y hy => by
            obtain ⟨c, _, rfl⟩ := List.mem_map.mp hy
            exact Nat.le_refl 1
          have h0 : (Str.ofString "").length = 0 := by decide +kernel
          rw [h0]
          rw [List.length_map, List.length_map] at h1 ⊢
          omega
        · rw [join_signs]
          exact q H' (s2.trans s')
end
end Pbd
namespace Pbd
open PySem PySem.Spec PyProof.Rows L2 TL
open Cp12 (Bytes ascii names value Def Book)
open Pb (csl sub)
theorem Grow.old {G H G' H' : Hp} (g : Grow G H G' H') {o : Addr} (h : H' o = none) : H o = none := by
  cases e : H o with
  | none => rfl
  | some u => rw [g.h _ _ e] at h; cases h
theorem GrowX.old {p : Addr} {G H G' H' : Hp} (g : GrowX p G H G' H') (hp : H' p ≠ none) {o : Addr} (h : H' o = none) : H o = none := by
  have hne : o ≠ p := fun z => hp (z ▸ h)
  cases e : H o with
  | none => rfl
  | some u => rw [g.h _ _ hne e] at h; cases h
section
variable {P : Program} {w : World} {K : PySem.W.Frag} {mg : Str → Option Value} {base : Heap} {aM aR aP aS aN aB C : Addr}
/-! ### say -/
abbrev s_say : Stmt := top 95
abbrev n_say : List Str := ["desk", "command", "answer", "sign"]
theorem sc_say : FnScope n_say ["desk", "command"] (defScope s_say) := ⟨rfl, rfl, rfl, by decide +kernel, rfl, by decide +kernel, by decide +kernel⟩

/-- what a call is told -/
abbrev told (s : Cp12.Desk) (ns : List Int) : List Int := Pb.says s ns
def sp_say (C : Addr) : Sp := fun vs H Q _ => ∃ (p a : Addr) (s : Cp12.Desk) (ns : List Int) (G : Hp), vs = [.ref p, .ref a] ∧ Same G H ∧ DeskAt C G H p s ∧ H a = some (.lst (ns.map V.int)) ∧ ns.length ≤ 10000 ∧ (told s ns).length ≤ 10000000 ∧
  ∀ o G' H', GrowX p G H G' H' → DeskAt C G' H' p (Cp12.step s (.say ns)).1 → H o = none → H' o = some (.lst ((told s ns).map V.int)) → Q (.ref o) H'
theorem ok_say {f : Addr} {fd : FuncData} (F : Fun K "say" "say" s_say f fd) (T : Txt K w mg aM aR aP aS aN aB) (f_is_text : Callee P w K mg base "is_text" 1 ["command"] sp_is_text) (f_text_of : Callee P w K mg base "text_of" 1 ["command"] sp_text_of) (f_answer_text : Callee P w K mg base "answer_text" 9 ["desk", "text"] (sp_answer_text C)) :
    FnOk P w K mg base CX0 10 f fd ["desk", "command"] (sp_say C) := by
  refine F.ok sc_say (fun vs H Q E h => ?_) (fun cdv A outer s H vs Q E hr h => ?_)
  · obtain ⟨p, a, s, ns, G, rfl, _⟩ := h; rfl
  · obtain ⟨p, a, s, ns, G, rfl, hG, D, ha, hl, hlen, q⟩ := h
    refine ⟨_, (pss_cons (ps_if (pt_not (pt_val (pe_do f_is_text hr (by decide) (by rfl) (pa_cons (pv 1) pa_nil)))) (pss_one (ps_ret (pe_lst (pa_cons (pe_un un_neg pe_int) pa_nil)))) pss_nil) (pss_cons (ps_set (i := 2) sc_say.nd rfl (Or.inl rfl) (pe_do f_answer_text hr (by decide) (by rfl) (pa_cons (pv 0) (pa_cons (pe_do f_text_of hr (by decide) (by rfl) (pa_cons (pv 1) pa_nil)) pa_nil)))) (pss_one (ps_ret (pe_op op_cat (pe_lst (pa_cons (pe_callB call_len_str (by rfl) T.b_len (by decide +kernel) (pa_cons (pv 2) pa_nil)) pa_nil)) (pe_lc (own := [("sign", 3)]) (g := gName 3) rfl sc_say.nd (pi_str (pv 2)) (blkOk_by (own := [("sign", 3)]) (N := n_say) (sc := defScope s_say) (by decide +kernel)) (fun _ _ _ _ _ => pg_name (i := 3) sc_say.nd rfl (Or.inl rfl)) (fun _ _ _ _ _ => pts_nil) (fun _ _ _ _ _ => (pe_callB call_ord (by rfl) T.b_ord (by decide +kernel) (pa_cons (pv 3) pa_nil))))))))), ?_⟩
    refine ⟨_, rfl, a, ns, rfl, ha, hl, fun H1 s1 => ?_⟩
    have g1 : Grow G H G H1 := Grow.of hG s1
    have D1 := D.grow g1
    refine ⟨_, rfl, ?_⟩
    cases hc : (decide (ns.length ≤ 400) && ns.all isB) with
    | false =>
      have e : Cp12.step s (.say ns) = (s, ⟨-1, []⟩) := by
        simp only [Cp12.step]
        rw [if_pos]
        rw [Bool.and_eq_false_iff] at hc
        rcases hc with hc | hc
        · exact .inl (by have := of_decide_eq_false hc; show 400 < _; omega)
        · exact .inr hc
      unfold told Pb.says at q
      rw [e] at q
      refine ⟨_, rfl, (by show 1 ≤ sizeLine; decide), fun o ho => ?_⟩
      have g2 := g1.more (same_new (o := .lst [.int (-1)]) ho)
      exact q o _ _ (GrowX.of g2) (D.grow g2) (g1.old ho) upd_same
    | true =>
      rw [Bool.and_eq_true] at hc
      have hc1 : ns.length ≤ 400 := of_decide_eq_true hc.1
      have hc2 : ∀ z ∈ ns, 32 ≤ z ∧ z ≤ 126 := fun z hz => by
        have := List.all_eq_true.mp hc.2 z hz
        simpa only [isB, Bool.and_eq_true, decide_eq_true_eq] using this
      have e : Cp12.step s (.say ns) = ((Cp12.said s (ns.map Int.toNat)).1, ⟨((Cp12.said s (ns.map Int.toNat)).2.length : Int), (Cp12.said s (ns.map Int.toNat)).2.map fun (c : Nat) => (c : Int)⟩) := by
        simp only [Cp12.step]
        rw [if_neg]
        rintro (z | z)
        · have : 400 < ns.length := z
          omega
        · have : (ns.all fun z => decide (32 ≤ z) && decide (z ≤ 126)) = true := hc.2
          rw [this] at z; cases z
      unfold told Pb.says at q hlen
      rw [e] at q hlen
      have ens : ns.map V.int = (ns.map Int.toNat).map fun n => V.int (n : Nat) := by
        rw [List.map_map]
        refine List.map_congr_left fun z hz => ?_
        have := hc2 z hz
        show V.int z = V.int ((z.toNat : Nat) : Int)
        rw [Int.toNat_of_nonneg (by omega)]
      rw [ens] at ha
      have ha1 := s1 _ _ ha
      simp only [List.length_cons, List.length_map] at hlen
      refine ⟨_, rfl, _, rfl, a, ns.map Int.toNat, rfl, ha1, by rw [List.length_map]; exact hc1, fun H2 s2 => ?_⟩
      have g2 := g1.more s2
      refine ⟨p, (ns.map Int.toNat).map sub, s, G, rfl, fun c hcm => ?_, by rw [List.length_map, List.length_map]; exact hc1, g2.i, D.grow g2, fun G3 H3 g3 D3 => ?_⟩
      · obtain ⟨x, _, rfl⟩ := List.mem_map.mp hcm
        have := sub_lt x; omega
      rw [Pb.said_sub] at D3 ⊢
      have x3 := GrowX.after g2 g3 (D.grow g2).ne
      generalize Cp12.said s (ns.map Int.toNat) = r at *
      obtain ⟨s', t⟩ := r
      simp only at q hlen D3 ⊢
      have htl : (tx t).length ≤ sizeLine := by rw [tx_len, szL]; omega
      refine ⟨_, rfl, tx t, rfl, htl, (by show 1 ≤ sizeLine; decide), fun c hc' => ?_⟩
      rw [tx_len]
      have g4 : Grow G3 H3 G3 (upd H3 c (.lst [.int (t.length : Nat)])) := Grow.of g3.i (same_new hc')
      have hc4 : upd H3 c (.lst [.int (t.length : Nat)]) c = some (.lst [.int (t.length : Nat)]) := upd_same
      generalize upd H3 c (.lst [.int (t.length : Nat)]) = H4 at *
      have hsz : (tx t).cps.size = t.length := by simp [tx]
      refine ⟨_, rfl, tx t, rfl, fun D hD => lc_text (R := fun _ v (y : V) => v = y) (fun _ r => r) (z := tx t) (ys := t.map fun (n : Nat) => V.int (n : Nat)) (G1 := G3) g4.i hD (by rw [hsz, List.length_map]) (by rw [hsz]; omega) (fun _ => rfl) (fun i c y G5 H5 Q5 hcx hy s5 s6 k => ?_) (fun G5 H5 vs g5 gD hD5 hp => ?_)⟩
      · have : (tx t).cps[i]? = t[i]? := by simp [tx]
        rw [this] at hcx
        rw [List.getElem?_map, hcx] at hy
        cases hy
        exact ⟨_, rfl, _, rfl, rfl, k _ _ _ (Grow.refl s6) rfl⟩
      · have ev : vs = t.map fun (n : Nat) => V.int (n : Nat) := by
          clear hD5
          have : ∀ {a b : List V}, Paired (fun v y => v = y) a b → a = b := by
            intro a b h
            induction h with
            | nil => rfl
            | cons h1 _ ih => rw [h1, ih]
          exact this hp
        subst ev
        have hc5 := g5.h _ _ hc4
        refine ⟨c, D, _, _, rfl, rfl, hc5, hD5, (by rw [szL, List.length_map, List.length_singleton]; omega), fun o ho => ?_⟩
        have g6 := (g4.trans g5).more (same_new (o := .lst ([.int (t.length : Nat)] ++ t.map fun (n : Nat) => V.int (n : Nat))) ho)
        refine q o _ _ (x3.trans (GrowX.of g6) D3.ne) (D3.grow g6) ((x3.trans (GrowX.of (g4.trans g5)) D3.ne).old (D3.grow (g4.trans g5)).ne ho) ?_
        rw [upd_same]
        simp [List.map_map, Function.comp_def]
end
end Pbd
namespace Pbd
open PySem PySem.Spec PyProof.Rows L2 TL
open Cp12 (Bytes ascii names value Def Book)
open Pb (csl sub says outs Told)
theorem cut_mid (xs : List V) (i j : Nat) (hj : j ≤ xs.length) : cutV xs (some (i : Int)) (some (j : Int)) = (xs.drop i).take (j - i) := by
  unfold cutV
  rw [HT.sIx_nat, HT.sIx_nat, Nat.min_eq_left hj]
  by_cases h : i ≤ xs.length
  · rw [Nat.min_eq_left h]
  · rw [Nat.min_eq_right (by omega), List.drop_length, List.drop_eq_nil_of_le (by omega)]; simp
/-- a list of the frame changes, which is not the desk and not within G -/
theorem DeskAt.list {C : Addr} {G H : Hp} {p o : Addr} {s : Cp12.Desk} {l l2 : List V} (D : DeskAt C G H p s) (ho : H o = some (.lst l)) : DeskAt C G (upd H o (.lst l2)) p s := by
  obtain ⟨out, ⟨dx, d, la, pa, xs, h1, h2, h3, h4⟩, hl⟩ := D
  have hne : p ≠ o := fun z => by rw [z, ho] at h1; cases h1
  exact ⟨out, ⟨dx, d, la, pa, xs, by rw [upd_ne hne]; exact h1, h2, h3, h4⟩, hl⟩
section
variable {P : Program} {w : World} {K : PySem.W.Frag} {mg : Str → Option Value} {base : Heap} {aM aR aP aS aN aB C : Addr}
/-! ### answers -/
abbrev s_answers : Stmt := top 94
abbrev n_answers : List Str := ["calls", "desk", "result", "place", "start", "end", "answer"]
theorem sc_answers : FnScope n_answers ["calls"] (defScope s_answers) := ⟨rfl, rfl, rfl, by decide +kernel, rfl, by decide +kernel, by decide +kernel⟩

def sp_answers (K : PySem.W.Frag) : Sp := fun vs H Q _ => ∃ (a : Addr) (l : List Int) (r : List (List Int)), vs = [.ref a] ∧ SqL K H a (l.map V.int) ∧ Told l r ∧ (outs Cp12.start r).length ≤ 10000000 ∧ ∀ H' o, H' o = some (.lst ((outs Cp12.start r).map V.int)) → Q (.ref o) H'
theorem ok_answers {f : Addr} {fd : FuncData} (F : Fun K "answers" "answers" s_answers f fd) (T : Txt K w mg aM aR aP aS aN aB) (f_Desk : MkOk P w K mg base C "Desk" 1 ["self"] (sp_init C)) (f_say : Callee P w K mg base "say" 10 ["desk", "command"] (sp_say C)) :
    FnOk P w K mg base CX0 11 f fd ["calls"] (sp_answers K) := by
  refine F.ok sc_answers (fun vs H Q E h => ?_) (fun cdv A outer s H vs Q E hr h => ?_)
  · obtain ⟨a, l, r, rfl, _⟩ := h; rfl
  · obtain ⟨a, l, r0, rfl, ha, hT0, hlen, q⟩ := h
    refine ⟨_, (pss_cons (ps_set (i := 1) sc_answers.nd rfl (Or.inl rfl) (pe_mk0 f_Desk hr (by decide) (by rfl))) (pss_cons (ps_set (i := 2) sc_answers.nd rfl (Or.inl rfl) (pe_lst pa_nil)) (pss_cons (ps_set (i := 3) sc_answers.nd rfl (Or.inl rfl) pe_int) (pss_cons (ps_while PassesOwn.never (pt_cmpR op_lt (pv 3) (pe_callB call_len_seq (by rfl) T.b_len (by decide +kernel) (pa_cons (pv 0) pa_nil)) (nomark _)) (pss_cons (ps_set (i := 4) sc_answers.nd rfl (Or.inl rfl) (pe_op op_add (pv 3) pe_int)) (pss_cons (ps_set (i := 5) sc_answers.nd rfl (Or.inl rfl) (pe_op op_add (pv 4) (pe_ix ix_list (pv 0) (pe_op op_add (pv 3) pe_int) (fun _ _ => rfl)))) (pss_cons (ps_set (i := 6) sc_answers.nd rfl (Or.inl rfl) (pe_do f_say hr (by decide) (by rfl) (pa_cons (pv 1) (pa_cons (pe_slice sl_list (pv 0) (po_some (pv 4)) (po_some (pv 5))) pa_nil)))) (pss_cons (ps_expr (pe_bm PySem.F.plainAttrs_list PySem.F.slot_list_append PySem.F.type_list_append mt_append (pv 2) (pa_cons (pe_callB call_len_seq (by rfl) T.b_len (by decide +kernel) (pa_cons (pv 6) pa_nil)) pa_nil))) (pss_cons (ps_expr (pe_bm PySem.F.plainAttrs_list PySem.F.slot_list_extend PySem.F.type_list_extend mt_extend (pv 2) (pa_cons (pv 6) pa_nil))) (pss_one (ps_set (i := 3) sc_answers.nd rfl (Or.inl rfl) (pe_op op_add (pv 5) pe_int))))))))) (pss_one (ps_ret (pv 2))))))), ?_⟩
    intro x dx nx ndx nex
    have s0 : Same H (upd (upd H dx (.own x)) x (.ins C dx [])) := fun b o e => by
      rw [upd_ne (ne_of_none e nx), upd_ne (ne_of_none e ndx)]; exact e
    refine ⟨x, dx, fun _ => none, rfl, (fun b o e => by cases e), rfl, upd_same, fun G1 H1 g1 D1 => ⟨rfl, ?_⟩⟩
    have s1 : Same H H1 := fun b o e => g1.h b o (ne_of_none e nx) (s0 _ _ e)
    refine ⟨Nat.zero_le _, fun o ho => ?_⟩
    have ho0 : H o = none := by
      cases e : H o with
      | none => rfl
      | some u => rw [s1 _ _ e] at ho; cases ho
    have hGo : G1 o = none := g1.i.free ho
    have s2 : Same H (upd H1 o (.lst [])) := s1.trans (same_new ho)
    have i2 : Same G1 (upd H1 o (.lst [])) := g1.i.trans (same_new ho)
    have D2 : DeskAt C G1 (upd H1 o (.lst [])) x Cp12.start := D1.grow (Grow.of g1.i (same_new ho))
    refine ⟨fun m σ H2 => ∃ (G : Hp) (sd : Cp12.Desk) (r : List (List Int)) (acc : List Int) (k : Nat) (y4 y5 y6 : Option V), m = r.length ∧ σ = [some (.ref a), some (.ref x), some (.ref o), some (.int (k : Nat)), y4, y5, y6] ∧ Same H H2 ∧ Same G H2 ∧ DeskAt C G H2 x sd ∧ H2 o = some (.lst (acc.map V.int)) ∧ G o = none ∧ Told (l.drop k) r ∧ k ≤ l.length ∧ acc ++ outs sd r = outs Cp12.start r0,
      ⟨r0.length, G1, Cp12.start, r0, [], 0, none, none, none, rfl, rfl, s2, i2, D2, upd_same, hGo, hT0, Nat.zero_le _, rfl⟩, ?_⟩
    rintro m σ H2 ⟨G, sd, r, acc, k, y4, y5, y6, rfl, rfl, sH, sG, D, hacc, hGo2, hT, hk, hout⟩
    have haH := sH.seq ha
    refine ⟨_, rfl, _, rfl, a, _, rfl, .inl haH, _, _, rfl, rfl, _, rfl, if_b (fun c => ?_) (fun c => ?_)⟩
    · have c : k < l.length := by have := of_decide_eq_true c; rw [List.length_map] at this; omega
      generalize hd : l.drop k = rest at hT
      cases hT with
      | nil =>
        have := congrArg List.length hd
        rw [List.length_drop] at this
        simp only [List.length_nil] at this
        omega
      | @cons ns t r hns hT =>
        have hlk := congrArg List.length hd
        rw [List.length_drop] at hlk
        simp only [List.length_cons, List.length_append] at hlk
        have hl1 : l[k + 1]? = some (ns.length : Int) := by
          have : (l.drop k)[1]? = some (ns.length : Int) := by rw [hd]; rfl
          rw [List.getElem?_drop] at this
          exact this
        have hd2 : l.drop (k + 2) = ns ++ 0 :: t := by
          have : (l.drop k).drop 2 = ns ++ 0 :: t := by rw [hd]; rfl
          rw [List.drop_drop] at this
          exact this
        have hd3 : l.drop (k + 2 + ns.length + 1) = t := by
          have : (l.drop (k + 2)).drop (ns.length + 1) = t := by
            rw [hd2, ← List.drop_drop, List.drop_left]; rfl
          rw [List.drop_drop] at this
          rw [Nat.add_assoc (k + 2)]; exact this
        have a1 : atI (l.map V.int) (((k : Nat) : Int) + 1) = some (.int (ns.length : Nat)) := atI_nat (j := k + 1) (by rw [List.getElem?_map, hl1]; rfl)
        have hcut : cutV (l.map V.int) (some (((k : Nat) : Int) + 2)) (some (((k : Nat) : Int) + 2 + ((ns.length : Nat) : Int))) = ns.map V.int := by
          have e := cut_mid (l.map V.int) (k + 2) (k + 2 + ns.length) (by rw [List.length_map]; omega)
          have e2 : ((l.map V.int).drop (k + 2)).take (k + 2 + ns.length - (k + 2)) = ns.map V.int := by
            rw [← List.map_drop, hd2, Nat.add_sub_cancel_left, ← List.map_take, List.take_left]
          rw [e2] at e
          exact e
        have houtL : acc.length + (1 + (says sd ns).length + (outs (Cp12.step sd (.say ns)).1 r).length) = (outs Cp12.start r0).length := by
          rw [← hout, List.length_append]
          show _ = acc.length + (((says sd ns).length : Int) :: says sd ns ++ outs (Cp12.step sd (.say ns)).1 r).length
          simp only [List.length_append, List.length_cons, List.cons_append]; omega
        refine ⟨fun σ' H3 => ∃ (G : Hp) (sd : Cp12.Desk) (acc : List Int) (k : Nat) (y4 y5 y6 : Option V), σ' = [some (.ref a), some (.ref x), some (.ref o), some (.int (k : Nat)), y4, y5, y6] ∧ Same H H3 ∧ Same G H3 ∧ DeskAt C G H3 x sd ∧ H3 o = some (.lst (acc.map V.int)) ∧ G o = none ∧ Told (l.drop k) r ∧ k ≤ l.length ∧ acc ++ outs sd r = outs Cp12.start r0, ?_, ?_⟩
        · rintro σ' H3 ⟨G, sd, acc, k, y4, y5, y6, h⟩
          exact ⟨r.length, by simp, G, sd, r, acc, k, y4, y5, y6, rfl, h⟩
        · refine ⟨_, rfl, _, _, rfl, rfl, ?_⟩
          refine ⟨_, rfl, _, rfl, _, rfl, _, _, rfl, rfl, a, _, _, _, rfl, rfl, haH, a1, _, _, rfl, rfl, ?_⟩
          refine ⟨_, rfl, _, rfl, _, rfl, _, rfl, _, rfl, _, rfl, a, _, rfl, haH, fun c1 hc1 => ?_⟩
          rw [hcut]
          have g3 : Grow G H2 G (upd H2 c1 (.lst (ns.map V.int))) := Grow.of sG (same_new hc1)
          have hc3 : upd H2 c1 (.lst (ns.map V.int)) c1 = some (.lst (ns.map V.int)) := upd_same
          have ho3 := g3.h _ _ hacc
          generalize upd H2 c1 (.lst (ns.map V.int)) = H3 at *
          refine ⟨x, c1, sd, ns, G, rfl, g3.i, D.grow g3, hc3, by omega, by show (says sd ns).length ≤ _; omega, fun an G4 H4 g4 D4 han0 han => ?_⟩
          have hox : o ≠ x := fun z => by
            obtain ⟨_, ⟨_, _, _, _, _, h1, _⟩, _⟩ := D
            rw [← z, hacc] at h1; cases h1
          have ho4 := g4.h _ _ hox ho3
          have hGo4 : G4 o = none := g4.n o (by rw [ho3]; exact fun z => by cases z) hGo2
          have hoan : an ≠ o := fun z => by rw [z, ho3] at han0; cases han0
          have sH4 : Same H H4 := fun b u e => g4.h b u (ne_of_none e nx) (g3.h _ _ (sH _ _ e))
          have han : H4 an = some (.lst ((says sd ns).map V.int)) := han
          refine ⟨_, rfl, .inl ⟨rfl, _, SqL.of ho4⟩, _, rfl, an, _, rfl, .inl (SqL.of han), o, _, _, rfl, rfl, ho4, (by rw [List.length_map, szL]; omega), ?_⟩
          rw [List.length_map]
          have D5 := D4.list (l2 := acc.map V.int ++ [.int ((says sd ns).length : Nat)]) ho4
          have sG5 := same_out (o := .lst (acc.map V.int ++ [.int ((says sd ns).length : Nat)])) g4.i hGo4
          have sH5 : Same H (upd H4 o (.lst (acc.map V.int ++ [.int ((says sd ns).length : Nat)]))) := fun b u e => by rw [upd_ne (ne_of_none e ho0)]; exact sH4 _ _ e
          have ho5 : upd H4 o (.lst (acc.map V.int ++ [.int ((says sd ns).length : Nat)])) o = some (.lst (acc.map V.int ++ [.int ((says sd ns).length : Nat)])) := upd_same
          have han5 : upd H4 o (.lst (acc.map V.int ++ [.int ((says sd ns).length : Nat)])) an = some (.lst ((says sd ns).map V.int)) := by rw [upd_ne hoan]; exact han
          generalize upd H4 o (.lst (acc.map V.int ++ [.int ((says sd ns).length : Nat)])) = H5 at *
          refine ⟨_, rfl, .inl ⟨rfl, _, SqL.of ho5⟩, _, rfl, o, an, _, _, rfl, rfl, ho5, han5, (by rw [szL, List.length_append, List.length_map, List.length_map, List.length_singleton]; omega), ?_⟩
          refine ⟨_, rfl, _, _, rfl, rfl, ?_⟩
          refine ⟨G4, (Cp12.step sd (.say ns)).1, acc ++ ((says sd ns).length : Int) :: says sd ns, k + 2 + ns.length + 1, _, _, _, rfl, fun b u e => by rw [upd_ne (ne_of_none e ho0)]; exact sH5 _ _ e, same_out sG5 hGo4, D5.list ho5, ?_, hGo4, by rw [hd3]; exact hT, by omega, ?_⟩
          · rw [upd_same]
            simp [List.map_append]
          · rw [← hout]
            show _ = acc ++ (((says sd ns).length : Int) :: says sd ns ++ outs (Cp12.step sd (.say ns)).1 r)
            simp
    · have c : l.length ≤ k := by have := of_decide_eq_false c; rw [List.length_map] at this; omega
      rw [List.drop_eq_nil_of_le c] at hT
      cases hT
      rw [show outs sd [] = [] from rfl, List.append_nil] at hout
      rw [hout] at hacc
      exact ⟨_, rfl, q _ _ hacc⟩
end
end Pbd
namespace Pbd
open PySem PySem.Spec PyProof.Rows L2 TL
open Cp12 (Bytes ascii)
/-! ### what the top has left -/
def HasDef (K : PySem.W.Frag) (mg : Str → Option Value) (n : Str) (st : Stmt) (ps : List Str) : Prop := ∃ f fd, mg n = some (.ref f) ∧ PySem.W.keepIn K (.ref f) = true ∧ Fun K n n st f fd ∧ Binds K fd ps []
def HasMeth (K : PySem.W.Frag) (C : Addr) (m q : Str) (st : Stmt) (ps : List Str) : Prop := ∃ f fd, Meth K C m f ∧ Fun K m q st f fd ∧ Binds K fd ps []
def HasEntry (K : PySem.W.Frag) (mg : Str → Option Value) (n : Str) (st : Stmt) (ps : List Str) : Prop := ∃ f fd, mg n = some (.ref f) ∧ Fun K n n st f fd ∧ ∀ (s : Shared) (us : List Value), us.length = ps.length → BindsTo s fd ⟨us, []⟩ (ps.zip us)
theorem held_of {P : Program} {w : World} {K : PySem.W.Frag} {mg : Str → Option Value} {base : Heap} {n : Str} {f g : Addr} {fd : FuncData} {ps : List Str} {sp : Sp} {j k : Nat} (hf : mg n = some (.ref f)) (hg : mg n = some (.ref g)) (F : FnOk P w K mg base CX0 j f fd ps sp) (hj : j ≤ k) (hk : PySem.W.keepIn K (.ref f) = true) (b : Binds K fd ps []) : HeldT P w K mg base k g sp := by
  rw [hf] at hg
  cases hg
  exact ⟨fd, ps, F.mono hj, hk, b⟩
section
variable {P : Program} {w : World} {K : PySem.W.Frag} {h : Heap} {mg : Str → Option Value}
theorem has_is_name {f : Addr} {od an : Option Addr} {sl : Array (Option Value)} {oc kV dc pm cd ct : Value} (X : K.In h) (G : h.Ns mainGlobals mg) (a : PySem.W.nsIn K mainGlobals "is_name" = some (some (.ref f))) (l : K.lookup f = some ⟨oc, od, .func (PySem.W.fnOf "is_name" "is_name" (defArgs s_is_name) (defBody s_is_name) (defScope s_is_name) .none kV dc pm an cd ct), sl⟩) (c : PySem.W.codeIn K cd "is_name" = true) (k : PySem.W.keepIn K (.ref f) = true) : HasDef K mg "is_name" s_is_name ["word"] := by
  have F := fun_mk (st := s_is_name) l c k
  exact ⟨_, _, PySem.W.mg_of X G a, k, F, F.binds (ps := ["word"]) fun _ _ _ _ _ _ us hl => match us, hl with | [_], _ => rfl⟩
theorem has_read_number {f : Addr} {od an : Option Addr} {sl : Array (Option Value)} {oc kV dc pm cd ct : Value} (X : K.In h) (G : h.Ns mainGlobals mg) (a : PySem.W.nsIn K mainGlobals "read_number" = some (some (.ref f))) (l : K.lookup f = some ⟨oc, od, .func (PySem.W.fnOf "read_number" "read_number" (defArgs s_read_number) (defBody s_read_number) (defScope s_read_number) .none kV dc pm an cd ct), sl⟩) (c : PySem.W.codeIn K cd "read_number" = true) (k : PySem.W.keepIn K (.ref f) = true) : HasDef K mg "read_number" s_read_number ["word", "low", "high"] := by
  have F := fun_mk (st := s_read_number) l c k
  exact ⟨_, _, PySem.W.mg_of X G a, k, F, F.binds (ps := ["word", "low", "high"]) fun _ _ _ _ _ _ us hl => match us, hl with | [_, _, _], _ => rfl⟩
theorem has_read_event {f : Addr} {od an : Option Addr} {sl : Array (Option Value)} {oc kV dc pm cd ct : Value} (X : K.In h) (G : h.Ns mainGlobals mg) (a : PySem.W.nsIn K mainGlobals "read_event" = some (some (.ref f))) (l : K.lookup f = some ⟨oc, od, .func (PySem.W.fnOf "read_event" "read_event" (defArgs s_read_event) (defBody s_read_event) (defScope s_read_event) .none kV dc pm an cd ct), sl⟩) (c : PySem.W.codeIn K cd "read_event" = true) (k : PySem.W.keepIn K (.ref f) = true) : HasDef K mg "read_event" s_read_event ["word"] := by
  have F := fun_mk (st := s_read_event) l c k
  exact ⟨_, _, PySem.W.mg_of X G a, k, F, F.binds (ps := ["word"]) fun _ _ _ _ _ _ us hl => match us, hl with | [_], _ => rfl⟩
theorem has_read_note {f : Addr} {od an : Option Addr} {sl : Array (Option Value)} {oc kV dc pm cd ct : Value} (X : K.In h) (G : h.Ns mainGlobals mg) (a : PySem.W.nsIn K mainGlobals "read_note" = some (some (.ref f))) (l : K.lookup f = some ⟨oc, od, .func (PySem.W.fnOf "read_note" "read_note" (defArgs s_read_note) (defBody s_read_note) (defScope s_read_note) .none kV dc pm an cd ct), sl⟩) (c : PySem.W.codeIn K cd "read_note" = true) (k : PySem.W.keepIn K (.ref f) = true) : HasDef K mg "read_note" s_read_note ["pitch", "length"] := by
  have F := fun_mk (st := s_read_note) l c k
  exact ⟨_, _, PySem.W.mg_of X G a, k, F, F.binds (ps := ["pitch", "length"]) fun _ _ _ _ _ _ us hl => match us, hl with | [_, _], _ => rfl⟩
theorem has_is_rest {f : Addr} {od an : Option Addr} {sl : Array (Option Value)} {oc kV dc pm cd ct : Value} (X : K.In h) (G : h.Ns mainGlobals mg) (a : PySem.W.nsIn K mainGlobals "is_rest" = some (some (.ref f))) (l : K.lookup f = some ⟨oc, od, .func (PySem.W.fnOf "is_rest" "is_rest" (defArgs s_is_rest) (defBody s_is_rest) (defScope s_is_rest) .none kV dc pm an cd ct), sl⟩) (c : PySem.W.codeIn K cd "is_rest" = true) (k : PySem.W.keepIn K (.ref f) = true) : HasDef K mg "is_rest" s_is_rest ["event"] := by
  have F := fun_mk (st := s_is_rest) l c k
  exact ⟨_, _, PySem.W.mg_of X G a, k, F, F.binds (ps := ["event"]) fun _ _ _ _ _ _ us hl => match us, hl with | [_], _ => rfl⟩
theorem has_is_in_range {f : Addr} {od an : Option Addr} {sl : Array (Option Value)} {oc kV dc pm cd ct : Value} (X : K.In h) (G : h.Ns mainGlobals mg) (a : PySem.W.nsIn K mainGlobals "is_in_range" = some (some (.ref f))) (l : K.lookup f = some ⟨oc, od, .func (PySem.W.fnOf "is_in_range" "is_in_range" (defArgs s_is_in_range) (defBody s_is_in_range) (defScope s_is_in_range) .none kV dc pm an cd ct), sl⟩) (c : PySem.W.codeIn K cd "is_in_range" = true) (k : PySem.W.keepIn K (.ref f) = true) : HasDef K mg "is_in_range" s_is_in_range ["event"] := by
  have F := fun_mk (st := s_is_in_range) l c k
  exact ⟨_, _, PySem.W.mg_of X G a, k, F, F.binds (ps := ["event"]) fun _ _ _ _ _ _ us hl => match us, hl with | [_], _ => rfl⟩
theorem has_event_text {f : Addr} {od an : Option Addr} {sl : Array (Option Value)} {oc kV dc pm cd ct : Value} (X : K.In h) (G : h.Ns mainGlobals mg) (a : PySem.W.nsIn K mainGlobals "event_text" = some (some (.ref f))) (l : K.lookup f = some ⟨oc, od, .func (PySem.W.fnOf "event_text" "event_text" (defArgs s_event_text) (defBody s_event_text) (defScope s_event_text) .none kV dc pm an cd ct), sl⟩) (c : PySem.W.codeIn K cd "event_text" = true) (k : PySem.W.keepIn K (.ref f) = true) : HasDef K mg "event_text" s_event_text ["event"] := by
  have F := fun_mk (st := s_event_text) l c k
  exact ⟨_, _, PySem.W.mg_of X G a, k, F, F.binds (ps := ["event"]) fun _ _ _ _ _ _ us hl => match us, hl with | [_], _ => rfl⟩
theorem has_is_valid {f : Addr} {od an : Option Addr} {sl : Array (Option Value)} {oc kV dc pm cd ct : Value} (X : K.In h) (G : h.Ns mainGlobals mg) (a : PySem.W.nsIn K mainGlobals "is_valid" = some (some (.ref f))) (l : K.lookup f = some ⟨oc, od, .func (PySem.W.fnOf "is_valid" "is_valid" (defArgs s_is_valid) (defBody s_is_valid) (defScope s_is_valid) .none kV dc pm an cd ct), sl⟩) (c : PySem.W.codeIn K cd "is_valid" = true) (k : PySem.W.keepIn K (.ref f) = true) : HasDef K mg "is_valid" s_is_valid ["line"] := by
  have F := fun_mk (st := s_is_valid) l c k
  exact ⟨_, _, PySem.W.mg_of X G a, k, F, F.binds (ps := ["line"]) fun _ _ _ _ _ _ us hl => match us, hl with | [_], _ => rfl⟩
theorem has_line_length {f : Addr} {od an : Option Addr} {sl : Array (Option Value)} {oc kV dc pm cd ct : Value} (X : K.In h) (G : h.Ns mainGlobals mg) (a : PySem.W.nsIn K mainGlobals "line_length" = some (some (.ref f))) (l : K.lookup f = some ⟨oc, od, .func (PySem.W.fnOf "line_length" "line_length" (defArgs s_line_length) (defBody s_line_length) (defScope s_line_length) .none kV dc pm an cd ct), sl⟩) (c : PySem.W.codeIn K cd "line_length" = true) (k : PySem.W.keepIn K (.ref f) = true) : HasDef K mg "line_length" s_line_length ["line"] := by
  have F := fun_mk (st := s_line_length) l c k
  exact ⟨_, _, PySem.W.mg_of X G a, k, F, F.binds (ps := ["line"]) fun _ _ _ _ _ _ us hl => match us, hl with | [_], _ => rfl⟩
theorem has_moved {f : Addr} {od an : Option Addr} {sl : Array (Option Value)} {oc kV dc pm cd ct : Value} (X : K.In h) (G : h.Ns mainGlobals mg) (a : PySem.W.nsIn K mainGlobals "moved" = some (some (.ref f))) (l : K.lookup f = some ⟨oc, od, .func (PySem.W.fnOf "moved" "moved" (defArgs s_moved) (defBody s_moved) (defScope s_moved) .none kV dc pm an cd ct), sl⟩) (c : PySem.W.codeIn K cd "moved" = true) (k : PySem.W.keepIn K (.ref f) = true) : HasDef K mg "moved" s_moved ["line", "steps"] := by
  have F := fun_mk (st := s_moved) l c k
  exact ⟨_, _, PySem.W.mg_of X G a, k, F, F.binds (ps := ["line", "steps"]) fun _ _ _ _ _ _ us hl => match us, hl with | [_, _], _ => rfl⟩
theorem has_inverted {f : Addr} {od an : Option Addr} {sl : Array (Option Value)} {oc kV dc pm cd ct : Value} (X : K.In h) (G : h.Ns mainGlobals mg) (a : PySem.W.nsIn K mainGlobals "inverted" = some (some (.ref f))) (l : K.lookup f = some ⟨oc, od, .func (PySem.W.fnOf "inverted" "inverted" (defArgs s_inverted) (defBody s_inverted) (defScope s_inverted) .none kV dc pm an cd ct), sl⟩) (c : PySem.W.codeIn K cd "inverted" = true) (k : PySem.W.keepIn K (.ref f) = true) : HasDef K mg "inverted" s_inverted ["line"] := by
  have F := fun_mk (st := s_inverted) l c k
  exact ⟨_, _, PySem.W.mg_of X G a, k, F, F.binds (ps := ["line"]) fun _ _ _ _ _ _ us hl => match us, hl with | [_], _ => rfl⟩
theorem has_backward {f : Addr} {od an : Option Addr} {sl : Array (Option Value)} {oc kV dc pm cd ct : Value} (X : K.In h) (G : h.Ns mainGlobals mg) (a : PySem.W.nsIn K mainGlobals "backward" = some (some (.ref f))) (l : K.lookup f = some ⟨oc, od, .func (PySem.W.fnOf "backward" "backward" (defArgs s_backward) (defBody s_backward) (defScope s_backward) .none kV dc pm an cd ct), sl⟩) (c : PySem.W.codeIn K cd "backward" = true) (k : PySem.W.keepIn K (.ref f) = true) : HasDef K mg "backward" s_backward ["line"] := by
  have F := fun_mk (st := s_backward) l c k
  exact ⟨_, _, PySem.W.mg_of X G a, k, F, F.binds (ps := ["line"]) fun _ _ _ _ _ _ us hl => match us, hl with | [_], _ => rfl⟩
theorem has_stretched {f : Addr} {od an : Option Addr} {sl : Array (Option Value)} {oc kV dc pm cd ct : Value} (X : K.In h) (G : h.Ns mainGlobals mg) (a : PySem.W.nsIn K mainGlobals "stretched" = some (some (.ref f))) (l : K.lookup f = some ⟨oc, od, .func (PySem.W.fnOf "stretched" "stretched" (defArgs s_stretched) (defBody s_stretched) (defScope s_stretched) .none kV dc pm an cd ct), sl⟩) (c : PySem.W.codeIn K cd "stretched" = true) (k : PySem.W.keepIn K (.ref f) = true) : HasDef K mg "stretched" s_stretched ["line", "factor"] := by
  have F := fun_mk (st := s_stretched) l c k
  exact ⟨_, _, PySem.W.mg_of X G a, k, F, F.binds (ps := ["line", "factor"]) fun _ _ _ _ _ _ us hl => match us, hl with | [_, _], _ => rfl⟩
theorem has_shortened {f : Addr} {od an : Option Addr} {sl : Array (Option Value)} {oc kV dc pm cd ct : Value} (X : K.In h) (G : h.Ns mainGlobals mg) (a : PySem.W.nsIn K mainGlobals "shortened" = some (some (.ref f))) (l : K.lookup f = some ⟨oc, od, .func (PySem.W.fnOf "shortened" "shortened" (defArgs s_shortened) (defBody s_shortened) (defScope s_shortened) .none kV dc pm an cd ct), sl⟩) (c : PySem.W.codeIn K cd "shortened" = true) (k : PySem.W.keepIn K (.ref f) = true) : HasDef K mg "shortened" s_shortened ["line", "factor"] := by
  have F := fun_mk (st := s_shortened) l c k
  exact ⟨_, _, PySem.W.mg_of X G a, k, F, F.binds (ps := ["line", "factor"]) fun _ _ _ _ _ _ us hl => match us, hl with | [_, _], _ => rfl⟩
theorem has_repeated {f : Addr} {od an : Option Addr} {sl : Array (Option Value)} {oc kV dc pm cd ct : Value} (X : K.In h) (G : h.Ns mainGlobals mg) (a : PySem.W.nsIn K mainGlobals "repeated" = some (some (.ref f))) (l : K.lookup f = some ⟨oc, od, .func (PySem.W.fnOf "repeated" "repeated" (defArgs s_repeated) (defBody s_repeated) (defScope s_repeated) .none kV dc pm an cd ct), sl⟩) (c : PySem.W.codeIn K cd "repeated" = true) (k : PySem.W.keepIn K (.ref f) = true) : HasDef K mg "repeated" s_repeated ["line", "times"] := by
  have F := fun_mk (st := s_repeated) l c k
  exact ⟨_, _, PySem.W.mg_of X G a, k, F, F.binds (ps := ["line", "times"]) fun _ _ _ _ _ _ us hl => match us, hl with | [_, _], _ => rfl⟩
theorem has_find_event {f : Addr} {od an : Option Addr} {sl : Array (Option Value)} {oc kV dc pm cd ct : Value} (X : K.In h) (G : h.Ns mainGlobals mg) (a : PySem.W.nsIn K mainGlobals "find_event" = some (some (.ref f))) (l : K.lookup f = some ⟨oc, od, .func (PySem.W.fnOf "find_event" "find_event" (defArgs s_find_event) (defBody s_find_event) (defScope s_find_event) .none kV dc pm an cd ct), sl⟩) (c : PySem.W.codeIn K cd "find_event" = true) (k : PySem.W.keepIn K (.ref f) = true) : HasDef K mg "find_event" s_find_event ["line", "time"] := by
  have F := fun_mk (st := s_find_event) l c k
  exact ⟨_, _, PySem.W.mg_of X G a, k, F, F.binds (ps := ["line", "time"]) fun _ _ _ _ _ _ us hl => match us, hl with | [_, _], _ => rfl⟩
theorem has_first_difference {f : Addr} {od an : Option Addr} {sl : Array (Option Value)} {oc kV dc pm cd ct : Value} (X : K.In h) (G : h.Ns mainGlobals mg) (a : PySem.W.nsIn K mainGlobals "first_difference" = some (some (.ref f))) (l : K.lookup f = some ⟨oc, od, .func (PySem.W.fnOf "first_difference" "first_difference" (defArgs s_first_difference) (defBody s_first_difference) (defScope s_first_difference) .none kV dc pm an cd ct), sl⟩) (c : PySem.W.codeIn K cd "first_difference" = true) (k : PySem.W.keepIn K (.ref f) = true) : HasDef K mg "first_difference" s_first_difference ["line", "other"] := by
  have F := fun_mk (st := s_first_difference) l c k
  exact ⟨_, _, PySem.W.mg_of X G a, k, F, F.binds (ps := ["line", "other"]) fun _ _ _ _ _ _ us hl => match us, hl with | [_, _], _ => rfl⟩
theorem has_read_expression {f : Addr} {od an : Option Addr} {sl : Array (Option Value)} {oc kV dc pm cd ct : Value} (X : K.In h) (G : h.Ns mainGlobals mg) (a : PySem.W.nsIn K mainGlobals "read_expression" = some (some (.ref f))) (l : K.lookup f = some ⟨oc, od, .func (PySem.W.fnOf "read_expression" "read_expression" (defArgs s_read_expression) (defBody s_read_expression) (defScope s_read_expression) .none kV dc pm an cd ct), sl⟩) (c : PySem.W.codeIn K cd "read_expression" = true) (k : PySem.W.keepIn K (.ref f) = true) : HasDef K mg "read_expression" s_read_expression ["words"] := by
  have F := fun_mk (st := s_read_expression) l c k
  exact ⟨_, _, PySem.W.mg_of X G a, k, F, F.binds (ps := ["words"]) fun _ _ _ _ _ _ us hl => match us, hl with | [_], _ => rfl⟩
theorem has_read_tokens {f : Addr} {od an : Option Addr} {sl : Array (Option Value)} {oc kV dc pm cd ct : Value} (X : K.In h) (G : h.Ns mainGlobals mg) (a : PySem.W.nsIn K mainGlobals "read_tokens" = some (some (.ref f))) (l : K.lookup f = some ⟨oc, od, .func (PySem.W.fnOf "read_tokens" "read_tokens" (defArgs s_read_tokens) (defBody s_read_tokens) (defScope s_read_tokens) .none kV dc pm an cd ct), sl⟩) (c : PySem.W.codeIn K cd "read_tokens" = true) (k : PySem.W.keepIn K (.ref f) = true) : HasDef K mg "read_tokens" s_read_tokens ["words"] := by
  have F := fun_mk (st := s_read_tokens) l c k
  exact ⟨_, _, PySem.W.mg_of X G a, k, F, F.binds (ps := ["words"]) fun _ _ _ _ _ _ us hl => match us, hl with | [_], _ => rfl⟩
theorem has_read_token {f : Addr} {od an : Option Addr} {sl : Array (Option Value)} {oc kV dc pm cd ct : Value} (X : K.In h) (G : h.Ns mainGlobals mg) (a : PySem.W.nsIn K mainGlobals "read_token" = some (some (.ref f))) (l : K.lookup f = some ⟨oc, od, .func (PySem.W.fnOf "read_token" "read_token" (defArgs s_read_token) (defBody s_read_token) (defScope s_read_token) .none kV dc pm an cd ct), sl⟩) (c : PySem.W.codeIn K cd "read_token" = true) (k : PySem.W.keepIn K (.ref f) = true) : HasDef K mg "read_token" s_read_token ["words", "place"] := by
  have F := fun_mk (st := s_read_token) l c k
  exact ⟨_, _, PySem.W.mg_of X G a, k, F, F.binds (ps := ["words", "place"]) fun _ _ _ _ _ _ us hl => match us, hl with | [_, _], _ => rfl⟩
theorem has_read_numbered {f : Addr} {od an : Option Addr} {sl : Array (Option Value)} {oc kV dc pm cd ct : Value} (X : K.In h) (G : h.Ns mainGlobals mg) (a : PySem.W.nsIn K mainGlobals "read_numbered" = some (some (.ref f))) (l : K.lookup f = some ⟨oc, od, .func (PySem.W.fnOf "read_numbered" "read_numbered" (defArgs s_read_numbered) (defBody s_read_numbered) (defScope s_read_numbered) .none kV dc pm an cd ct), sl⟩) (c : PySem.W.codeIn K cd "read_numbered" = true) (k : PySem.W.keepIn K (.ref f) = true) : HasDef K mg "read_numbered" s_read_numbered ["words", "place"] := by
  have F := fun_mk (st := s_read_numbered) l c k
  exact ⟨_, _, PySem.W.mg_of X G a, k, F, F.binds (ps := ["words", "place"]) fun _ _ _ _ _ _ us hl => match us, hl with | [_, _], _ => rfl⟩
theorem has_order_steps {f : Addr} {od an : Option Addr} {sl : Array (Option Value)} {oc kV dc pm cd ct : Value} (X : K.In h) (G : h.Ns mainGlobals mg) (a : PySem.W.nsIn K mainGlobals "order_steps" = some (some (.ref f))) (l : K.lookup f = some ⟨oc, od, .func (PySem.W.fnOf "order_steps" "order_steps" (defArgs s_order_steps) (defBody s_order_steps) (defScope s_order_steps) .none kV dc pm an cd ct), sl⟩) (c : PySem.W.codeIn K cd "order_steps" = true) (k : PySem.W.keepIn K (.ref f) = true) : HasDef K mg "order_steps" s_order_steps ["tokens"] := by
  have F := fun_mk (st := s_order_steps) l c k
  exact ⟨_, _, PySem.W.mg_of X G a, k, F, F.binds (ps := ["tokens"]) fun _ _ _ _ _ _ us hl => match us, hl with | [_], _ => rfl⟩
theorem has_end_item {f : Addr} {od an : Option Addr} {sl : Array (Option Value)} {oc kV dc pm cd ct : Value} (X : K.In h) (G : h.Ns mainGlobals mg) (a : PySem.W.nsIn K mainGlobals "end_item" = some (some (.ref f))) (l : K.lookup f = some ⟨oc, od, .func (PySem.W.fnOf "end_item" "end_item" (defArgs s_end_item) (defBody s_end_item) (defScope s_end_item) .none kV dc pm an cd ct), sl⟩) (c : PySem.W.codeIn K cd "end_item" = true) (k : PySem.W.keepIn K (.ref f) = true) : HasDef K mg "end_item" s_end_item ["steps", "waiting"] := by
  have F := fun_mk (st := s_end_item) l c k
  exact ⟨_, _, PySem.W.mg_of X G a, k, F, F.binds (ps := ["steps", "waiting"]) fun _ _ _ _ _ _ us hl => match us, hl with | [_, _], _ => rfl⟩
theorem has_names_in {f : Addr} {od an : Option Addr} {sl : Array (Option Value)} {oc kV dc pm cd ct : Value} (X : K.In h) (G : h.Ns mainGlobals mg) (a : PySem.W.nsIn K mainGlobals "names_in" = some (some (.ref f))) (l : K.lookup f = some ⟨oc, od, .func (PySem.W.fnOf "names_in" "names_in" (defArgs s_names_in) (defBody s_names_in) (defScope s_names_in) .none kV dc pm an cd ct), sl⟩) (c : PySem.W.codeIn K cd "names_in" = true) (k : PySem.W.keepIn K (.ref f) = true) : HasDef K mg "names_in" s_names_in ["steps"] := by
  have F := fun_mk (st := s_names_in) l c k
  exact ⟨_, _, PySem.W.mg_of X G a, k, F, F.binds (ps := ["steps"]) fun _ _ _ _ _ _ us hl => match us, hl with | [_], _ => rfl⟩
theorem has_expression_value {f : Addr} {od an : Option Addr} {sl : Array (Option Value)} {oc kV dc pm cd ct : Value} (X : K.In h) (G : h.Ns mainGlobals mg) (a : PySem.W.nsIn K mainGlobals "expression_value" = some (some (.ref f))) (l : K.lookup f = some ⟨oc, od, .func (PySem.W.fnOf "expression_value" "expression_value" (defArgs s_expression_value) (defBody s_expression_value) (defScope s_expression_value) .none kV dc pm an cd ct), sl⟩) (c : PySem.W.codeIn K cd "expression_value" = true) (k : PySem.W.keepIn K (.ref f) = true) : HasDef K mg "expression_value" s_expression_value ["steps", "lines"] := by
  have F := fun_mk (st := s_expression_value) l c k
  exact ⟨_, _, PySem.W.mg_of X G a, k, F, F.binds (ps := ["steps", "lines"]) fun _ _ _ _ _ _ us hl => match us, hl with | [_, _], _ => rfl⟩
theorem has_operated {f : Addr} {od an : Option Addr} {sl : Array (Option Value)} {oc kV dc pm cd ct : Value} (X : K.In h) (G : h.Ns mainGlobals mg) (a : PySem.W.nsIn K mainGlobals "operated" = some (some (.ref f))) (l : K.lookup f = some ⟨oc, od, .func (PySem.W.fnOf "operated" "operated" (defArgs s_operated) (defBody s_operated) (defScope s_operated) .none kV dc pm an cd ct), sl⟩) (c : PySem.W.codeIn K cd "operated" = true) (k : PySem.W.keepIn K (.ref f) = true) : HasDef K mg "operated" s_operated ["operation", "number", "line"] := by
  have F := fun_mk (st := s_operated) l c k
  exact ⟨_, _, PySem.W.mg_of X G a, k, F, F.binds (ps := ["operation", "number", "line"]) fun _ _ _ _ _ _ us hl => match us, hl with | [_, _, _], _ => rfl⟩
theorem has_expression_text {f : Addr} {od an : Option Addr} {sl : Array (Option Value)} {oc kV dc pm cd ct : Value} (X : K.In h) (G : h.Ns mainGlobals mg) (a : PySem.W.nsIn K mainGlobals "expression_text" = some (some (.ref f))) (l : K.lookup f = some ⟨oc, od, .func (PySem.W.fnOf "expression_text" "expression_text" (defArgs s_expression_text) (defBody s_expression_text) (defScope s_expression_text) .none kV dc pm an cd ct), sl⟩) (c : PySem.W.codeIn K cd "expression_text" = true) (k : PySem.W.keepIn K (.ref f) = true) : HasDef K mg "expression_text" s_expression_text ["steps"] := by
  have F := fun_mk (st := s_expression_text) l c k
  exact ⟨_, _, PySem.W.mg_of X G a, k, F, F.binds (ps := ["steps"]) fun _ _ _ _ _ _ us hl => match us, hl with | [_], _ => rfl⟩
theorem has_as_item {f : Addr} {od an : Option Addr} {sl : Array (Option Value)} {oc kV dc pm cd ct : Value} (X : K.In h) (G : h.Ns mainGlobals mg) (a : PySem.W.nsIn K mainGlobals "as_item" = some (some (.ref f))) (l : K.lookup f = some ⟨oc, od, .func (PySem.W.fnOf "as_item" "as_item" (defArgs s_as_item) (defBody s_as_item) (defScope s_as_item) .none kV dc pm an cd ct), sl⟩) (c : PySem.W.codeIn K cd "as_item" = true) (k : PySem.W.keepIn K (.ref f) = true) : HasDef K mg "as_item" s_as_item ["entry"] := by
  have F := fun_mk (st := s_as_item) l c k
  exact ⟨_, _, PySem.W.mg_of X G a, k, F, F.binds (ps := ["entry"]) fun _ _ _ _ _ _ us hl => match us, hl with | [_], _ => rfl⟩
theorem has_operation_text {f : Addr} {od an : Option Addr} {sl : Array (Option Value)} {oc kV dc pm cd ct : Value} (X : K.In h) (G : h.Ns mainGlobals mg) (a : PySem.W.nsIn K mainGlobals "operation_text" = some (some (.ref f))) (l : K.lookup f = some ⟨oc, od, .func (PySem.W.fnOf "operation_text" "operation_text" (defArgs s_operation_text) (defBody s_operation_text) (defScope s_operation_text) .none kV dc pm an cd ct), sl⟩) (c : PySem.W.codeIn K cd "operation_text" = true) (k : PySem.W.keepIn K (.ref f) = true) : HasDef K mg "operation_text" s_operation_text ["step"] := by
  have F := fun_mk (st := s_operation_text) l c k
  exact ⟨_, _, PySem.W.mg_of X G a, k, F, F.binds (ps := ["step"]) fun _ _ _ _ _ _ us hl => match us, hl with | [_], _ => rfl⟩
theorem has_make_theme {f : Addr} {od an : Option Addr} {sl : Array (Option Value)} {oc kV dc pm cd ct : Value} (X : K.In h) (G : h.Ns mainGlobals mg) (a : PySem.W.nsIn K mainGlobals "make_theme" = some (some (.ref f))) (l : K.lookup f = some ⟨oc, od, .func (PySem.W.fnOf "make_theme" "make_theme" (defArgs s_make_theme) (defBody s_make_theme) (defScope s_make_theme) .none kV dc pm an cd ct), sl⟩) (c : PySem.W.codeIn K cd "make_theme" = true) (k : PySem.W.keepIn K (.ref f) = true) : HasDef K mg "make_theme" s_make_theme ["events"] := by
  have F := fun_mk (st := s_make_theme) l c k
  exact ⟨_, _, PySem.W.mg_of X G a, k, F, F.binds (ps := ["events"]) fun _ _ _ _ _ _ us hl => match us, hl with | [_], _ => rfl⟩
theorem has_make_part {f : Addr} {od an : Option Addr} {sl : Array (Option Value)} {oc kV dc pm cd ct : Value} (X : K.In h) (G : h.Ns mainGlobals mg) (a : PySem.W.nsIn K mainGlobals "make_part" = some (some (.ref f))) (l : K.lookup f = some ⟨oc, od, .func (PySem.W.fnOf "make_part" "make_part" (defArgs s_make_part) (defBody s_make_part) (defScope s_make_part) .none kV dc pm an cd ct), sl⟩) (c : PySem.W.codeIn K cd "make_part" = true) (k : PySem.W.keepIn K (.ref f) = true) : HasDef K mg "make_part" s_make_part ["steps"] := by
  have F := fun_mk (st := s_make_part) l c k
  exact ⟨_, _, PySem.W.mg_of X G a, k, F, F.binds (ps := ["steps"]) fun _ _ _ _ _ _ us hl => match us, hl with | [_], _ => rfl⟩
theorem has_names_used {f : Addr} {od an : Option Addr} {sl : Array (Option Value)} {oc kV dc pm cd ct : Value} (X : K.In h) (G : h.Ns mainGlobals mg) (a : PySem.W.nsIn K mainGlobals "names_used" = some (some (.ref f))) (l : K.lookup f = some ⟨oc, od, .func (PySem.W.fnOf "names_used" "names_used" (defArgs s_names_used) (defBody s_names_used) (defScope s_names_used) .none kV dc pm an cd ct), sl⟩) (c : PySem.W.codeIn K cd "names_used" = true) (k : PySem.W.keepIn K (.ref f) = true) : HasDef K mg "names_used" s_names_used ["definition"] := by
  have F := fun_mk (st := s_names_used) l c k
  exact ⟨_, _, PySem.W.mg_of X G a, k, F, F.binds (ps := ["definition"]) fun _ _ _ _ _ _ us hl => match us, hl with | [_], _ => rfl⟩
theorem has_users_of {f : Addr} {od an : Option Addr} {sl : Array (Option Value)} {oc kV dc pm cd ct : Value} (X : K.In h) (G : h.Ns mainGlobals mg) (a : PySem.W.nsIn K mainGlobals "users_of" = some (some (.ref f))) (l : K.lookup f = some ⟨oc, od, .func (PySem.W.fnOf "users_of" "users_of" (defArgs s_users_of) (defBody s_users_of) (defScope s_users_of) .none kV dc pm an cd ct), sl⟩) (c : PySem.W.codeIn K cd "users_of" = true) (k : PySem.W.keepIn K (.ref f) = true) : HasDef K mg "users_of" s_users_of ["definitions", "name"] := by
  have F := fun_mk (st := s_users_of) l c k
  exact ⟨_, _, PySem.W.mg_of X G a, k, F, F.binds (ps := ["definitions", "name"]) fun _ _ _ _ _ _ us hl => match us, hl with | [_, _], _ => rfl⟩
theorem has_reaches {f : Addr} {od an : Option Addr} {sl : Array (Option Value)} {oc kV dc pm cd ct : Value} (X : K.In h) (G : h.Ns mainGlobals mg) (a : PySem.W.nsIn K mainGlobals "reaches" = some (some (.ref f))) (l : K.lookup f = some ⟨oc, od, .func (PySem.W.fnOf "reaches" "reaches" (defArgs s_reaches) (defBody s_reaches) (defScope s_reaches) .none kV dc pm an cd ct), sl⟩) (c : PySem.W.codeIn K cd "reaches" = true) (k : PySem.W.keepIn K (.ref f) = true) : HasDef K mg "reaches" s_reaches ["definitions", "starts", "goal"] := by
  have F := fun_mk (st := s_reaches) l c k
  exact ⟨_, _, PySem.W.mg_of X G a, k, F, F.binds (ps := ["definitions", "starts", "goal"]) fun _ _ _ _ _ _ us hl => match us, hl with | [_, _, _], _ => rfl⟩
theorem has_entry_order {f : Addr} {od an : Option Addr} {sl : Array (Option Value)} {oc kV dc pm cd ct : Value} (X : K.In h) (G : h.Ns mainGlobals mg) (a : PySem.W.nsIn K mainGlobals "entry_order" = some (some (.ref f))) (l : K.lookup f = some ⟨oc, od, .func (PySem.W.fnOf "entry_order" "entry_order" (defArgs s_entry_order) (defBody s_entry_order) (defScope s_entry_order) .none kV dc pm an cd ct), sl⟩) (c : PySem.W.codeIn K cd "entry_order" = true) (k : PySem.W.keepIn K (.ref f) = true) : HasDef K mg "entry_order" s_entry_order ["definitions"] := by
  have F := fun_mk (st := s_entry_order) l c k
  exact ⟨_, _, PySem.W.mg_of X G a, k, F, F.binds (ps := ["definitions"]) fun _ _ _ _ _ _ us hl => match us, hl with | [_], _ => rfl⟩
theorem has_first_ready {f : Addr} {od an : Option Addr} {sl : Array (Option Value)} {oc kV dc pm cd ct : Value} (X : K.In h) (G : h.Ns mainGlobals mg) (a : PySem.W.nsIn K mainGlobals "first_ready" = some (some (.ref f))) (l : K.lookup f = some ⟨oc, od, .func (PySem.W.fnOf "first_ready" "first_ready" (defArgs s_first_ready) (defBody s_first_ready) (defScope s_first_ready) .none kV dc pm an cd ct), sl⟩) (c : PySem.W.codeIn K cd "first_ready" = true) (k : PySem.W.keepIn K (.ref f) = true) : HasDef K mg "first_ready" s_first_ready ["definitions", "done"] := by
  have F := fun_mk (st := s_first_ready) l c k
  exact ⟨_, _, PySem.W.mg_of X G a, k, F, F.binds (ps := ["definitions", "done"]) fun _ _ _ _ _ _ us hl => match us, hl with | [_, _], _ => rfl⟩
theorem has_is_ready {f : Addr} {od an : Option Addr} {sl : Array (Option Value)} {oc kV dc pm cd ct : Value} (X : K.In h) (G : h.Ns mainGlobals mg) (a : PySem.W.nsIn K mainGlobals "is_ready" = some (some (.ref f))) (l : K.lookup f = some ⟨oc, od, .func (PySem.W.fnOf "is_ready" "is_ready" (defArgs s_is_ready) (defBody s_is_ready) (defScope s_is_ready) .none kV dc pm an cd ct), sl⟩) (c : PySem.W.codeIn K cd "is_ready" = true) (k : PySem.W.keepIn K (.ref f) = true) : HasDef K mg "is_ready" s_is_ready ["definition", "done"] := by
  have F := fun_mk (st := s_is_ready) l c k
  exact ⟨_, _, PySem.W.mg_of X G a, k, F, F.binds (ps := ["definition", "done"]) fun _ _ _ _ _ _ us hl => match us, hl with | [_, _], _ => rfl⟩
theorem has_lines_of {f : Addr} {od an : Option Addr} {sl : Array (Option Value)} {oc kV dc pm cd ct : Value} (X : K.In h) (G : h.Ns mainGlobals mg) (a : PySem.W.nsIn K mainGlobals "lines_of" = some (some (.ref f))) (l : K.lookup f = some ⟨oc, od, .func (PySem.W.fnOf "lines_of" "lines_of" (defArgs s_lines_of) (defBody s_lines_of) (defScope s_lines_of) .none kV dc pm an cd ct), sl⟩) (c : PySem.W.codeIn K cd "lines_of" = true) (k : PySem.W.keepIn K (.ref f) = true) : HasDef K mg "lines_of" s_lines_of ["definitions"] := by
  have F := fun_mk (st := s_lines_of) l c k
  exact ⟨_, _, PySem.W.mg_of X G a, k, F, F.binds (ps := ["definitions"]) fun _ _ _ _ _ _ us hl => match us, hl with | [_], _ => rfl⟩
theorem has_definition_line {f : Addr} {od an : Option Addr} {sl : Array (Option Value)} {oc kV dc pm cd ct : Value} (X : K.In h) (G : h.Ns mainGlobals mg) (a : PySem.W.nsIn K mainGlobals "definition_line" = some (some (.ref f))) (l : K.lookup f = some ⟨oc, od, .func (PySem.W.fnOf "definition_line" "definition_line" (defArgs s_definition_line) (defBody s_definition_line) (defScope s_definition_line) .none kV dc pm an cd ct), sl⟩) (c : PySem.W.codeIn K cd "definition_line" = true) (k : PySem.W.keepIn K (.ref f) = true) : HasDef K mg "definition_line" s_definition_line ["definition", "lines"] := by
  have F := fun_mk (st := s_definition_line) l c k
  exact ⟨_, _, PySem.W.mg_of X G a, k, F, F.binds (ps := ["definition", "lines"]) fun _ _ _ _ _ _ us hl => match us, hl with | [_, _], _ => rfl⟩
theorem has_definition_text {f : Addr} {od an : Option Addr} {sl : Array (Option Value)} {oc kV dc pm cd ct : Value} (X : K.In h) (G : h.Ns mainGlobals mg) (a : PySem.W.nsIn K mainGlobals "definition_text" = some (some (.ref f))) (l : K.lookup f = some ⟨oc, od, .func (PySem.W.fnOf "definition_text" "definition_text" (defArgs s_definition_text) (defBody s_definition_text) (defScope s_definition_text) .none kV dc pm an cd ct), sl⟩) (c : PySem.W.codeIn K cd "definition_text" = true) (k : PySem.W.keepIn K (.ref f) = true) : HasDef K mg "definition_text" s_definition_text ["name", "definition"] := by
  have F := fun_mk (st := s_definition_text) l c k
  exact ⟨_, _, PySem.W.mg_of X G a, k, F, F.binds (ps := ["name", "definition"]) fun _ _ _ _ _ _ us hl => match us, hl with | [_, _], _ => rfl⟩
theorem has_body_text {f : Addr} {od an : Option Addr} {sl : Array (Option Value)} {oc kV dc pm cd ct : Value} (X : K.In h) (G : h.Ns mainGlobals mg) (a : PySem.W.nsIn K mainGlobals "body_text" = some (some (.ref f))) (l : K.lookup f = some ⟨oc, od, .func (PySem.W.fnOf "body_text" "body_text" (defArgs s_body_text) (defBody s_body_text) (defScope s_body_text) .none kV dc pm an cd ct), sl⟩) (c : PySem.W.codeIn K cd "body_text" = true) (k : PySem.W.keepIn K (.ref f) = true) : HasDef K mg "body_text" s_body_text ["definition"] := by
  have F := fun_mk (st := s_body_text) l c k
  exact ⟨_, _, PySem.W.mg_of X G a, k, F, F.binds (ps := ["definition"]) fun _ _ _ _ _ _ us hl => match us, hl with | [_], _ => rfl⟩
theorem has_read_command {f : Addr} {od an : Option Addr} {sl : Array (Option Value)} {oc kV dc pm cd ct : Value} (X : K.In h) (G : h.Ns mainGlobals mg) (a : PySem.W.nsIn K mainGlobals "read_command" = some (some (.ref f))) (l : K.lookup f = some ⟨oc, od, .func (PySem.W.fnOf "read_command" "read_command" (defArgs s_read_command) (defBody s_read_command) (defScope s_read_command) .none kV dc pm an cd ct), sl⟩) (c : PySem.W.codeIn K cd "read_command" = true) (k : PySem.W.keepIn K (.ref f) = true) : HasDef K mg "read_command" s_read_command ["text"] := by
  have F := fun_mk (st := s_read_command) l c k
  exact ⟨_, _, PySem.W.mg_of X G a, k, F, F.binds (ps := ["text"]) fun _ _ _ _ _ _ us hl => match us, hl with | [_], _ => rfl⟩
theorem has_read_argument {f : Addr} {od an : Option Addr} {sl : Array (Option Value)} {oc kV dc pm cd ct : Value} (X : K.In h) (G : h.Ns mainGlobals mg) (a : PySem.W.nsIn K mainGlobals "read_argument" = some (some (.ref f))) (l : K.lookup f = some ⟨oc, od, .func (PySem.W.fnOf "read_argument" "read_argument" (defArgs s_read_argument) (defBody s_read_argument) (defScope s_read_argument) .none kV dc pm an cd ct), sl⟩) (c : PySem.W.codeIn K cd "read_argument" = true) (k : PySem.W.keepIn K (.ref f) = true) : HasDef K mg "read_argument" s_read_argument ["kind", "word"] := by
  have F := fun_mk (st := s_read_argument) l c k
  exact ⟨_, _, PySem.W.mg_of X G a, k, F, F.binds (ps := ["kind", "word"]) fun _ _ _ _ _ _ us hl => match us, hl with | [_, _], _ => rfl⟩
theorem has_read_change {f : Addr} {od an : Option Addr} {sl : Array (Option Value)} {oc kV dc pm cd ct : Value} (X : K.In h) (G : h.Ns mainGlobals mg) (a : PySem.W.nsIn K mainGlobals "read_change" = some (some (.ref f))) (l : K.lookup f = some ⟨oc, od, .func (PySem.W.fnOf "read_change" "read_change" (defArgs s_read_change) (defBody s_read_change) (defScope s_read_change) .none kV dc pm an cd ct), sl⟩) (c : PySem.W.codeIn K cd "read_change" = true) (k : PySem.W.keepIn K (.ref f) = true) : HasDef K mg "read_change" s_read_change ["words"] := by
  have F := fun_mk (st := s_read_change) l c k
  exact ⟨_, _, PySem.W.mg_of X G a, k, F, F.binds (ps := ["words"]) fun _ _ _ _ _ _ us hl => match us, hl with | [_], _ => rfl⟩
theorem has_read_events {f : Addr} {od an : Option Addr} {sl : Array (Option Value)} {oc kV dc pm cd ct : Value} (X : K.In h) (G : h.Ns mainGlobals mg) (a : PySem.W.nsIn K mainGlobals "read_events" = some (some (.ref f))) (l : K.lookup f = some ⟨oc, od, .func (PySem.W.fnOf "read_events" "read_events" (defArgs s_read_events) (defBody s_read_events) (defScope s_read_events) .none kV dc pm an cd ct), sl⟩) (c : PySem.W.codeIn K cd "read_events" = true) (k : PySem.W.keepIn K (.ref f) = true) : HasDef K mg "read_events" s_read_events ["words"] := by
  have F := fun_mk (st := s_read_events) l c k
  exact ⟨_, _, PySem.W.mg_of X G a, k, F, F.binds (ps := ["words"]) fun _ _ _ _ _ _ us hl => match us, hl with | [_], _ => rfl⟩
theorem has_answer_theme {f : Addr} {od an : Option Addr} {sl : Array (Option Value)} {oc kV dc pm cd ct : Value} (X : K.In h) (G : h.Ns mainGlobals mg) (a : PySem.W.nsIn K mainGlobals "answer_theme" = some (some (.ref f))) (l : K.lookup f = some ⟨oc, od, .func (PySem.W.fnOf "answer_theme" "answer_theme" (defArgs s_answer_theme) (defBody s_answer_theme) (defScope s_answer_theme) .none kV dc pm an cd ct), sl⟩) (c : PySem.W.codeIn K cd "answer_theme" = true) (k : PySem.W.keepIn K (.ref f) = true) : HasDef K mg "answer_theme" s_answer_theme ["desk", "command"] := by
  have F := fun_mk (st := s_answer_theme) l c k
  exact ⟨_, _, PySem.W.mg_of X G a, k, F, F.binds (ps := ["desk", "command"]) fun _ _ _ _ _ _ us hl => match us, hl with | [_, _], _ => rfl⟩
theorem has_answer_part {f : Addr} {od an : Option Addr} {sl : Array (Option Value)} {oc kV dc pm cd ct : Value} (X : K.In h) (G : h.Ns mainGlobals mg) (a : PySem.W.nsIn K mainGlobals "answer_part" = some (some (.ref f))) (l : K.lookup f = some ⟨oc, od, .func (PySem.W.fnOf "answer_part" "answer_part" (defArgs s_answer_part) (defBody s_answer_part) (defScope s_answer_part) .none kV dc pm an cd ct), sl⟩) (c : PySem.W.codeIn K cd "answer_part" = true) (k : PySem.W.keepIn K (.ref f) = true) : HasDef K mg "answer_part" s_answer_part ["desk", "command"] := by
  have F := fun_mk (st := s_answer_part) l c k
  exact ⟨_, _, PySem.W.mg_of X G a, k, F, F.binds (ps := ["desk", "command"]) fun _ _ _ _ _ _ us hl => match us, hl with | [_, _], _ => rfl⟩
theorem has_define {f : Addr} {od an : Option Addr} {sl : Array (Option Value)} {oc kV dc pm cd ct : Value} (X : K.In h) (G : h.Ns mainGlobals mg) (a : PySem.W.nsIn K mainGlobals "define" = some (some (.ref f))) (l : K.lookup f = some ⟨oc, od, .func (PySem.W.fnOf "define" "define" (defArgs s_define) (defBody s_define) (defScope s_define) .none kV dc pm an cd ct), sl⟩) (c : PySem.W.codeIn K cd "define" = true) (k : PySem.W.keepIn K (.ref f) = true) : HasDef K mg "define" s_define ["desk", "name", "definition"] := by
  have F := fun_mk (st := s_define) l c k
  exact ⟨_, _, PySem.W.mg_of X G a, k, F, F.binds (ps := ["desk", "name", "definition"]) fun _ _ _ _ _ _ us hl => match us, hl with | [_, _, _], _ => rfl⟩
theorem has_answer_drop {f : Addr} {od an : Option Addr} {sl : Array (Option Value)} {oc kV dc pm cd ct : Value} (X : K.In h) (G : h.Ns mainGlobals mg) (a : PySem.W.nsIn K mainGlobals "answer_drop" = some (some (.ref f))) (l : K.lookup f = some ⟨oc, od, .func (PySem.W.fnOf "answer_drop" "answer_drop" (defArgs s_answer_drop) (defBody s_answer_drop) (defScope s_answer_drop) .none kV dc pm an cd ct), sl⟩) (c : PySem.W.codeIn K cd "answer_drop" = true) (k : PySem.W.keepIn K (.ref f) = true) : HasDef K mg "answer_drop" s_answer_drop ["desk", "command"] := by
  have F := fun_mk (st := s_answer_drop) l c k
  exact ⟨_, _, PySem.W.mg_of X G a, k, F, F.binds (ps := ["desk", "command"]) fun _ _ _ _ _ _ us hl => match us, hl with | [_, _], _ => rfl⟩
theorem has_answer_undo {f : Addr} {od an : Option Addr} {sl : Array (Option Value)} {oc kV dc pm cd ct : Value} (X : K.In h) (G : h.Ns mainGlobals mg) (a : PySem.W.nsIn K mainGlobals "answer_undo" = some (some (.ref f))) (l : K.lookup f = some ⟨oc, od, .func (PySem.W.fnOf "answer_undo" "answer_undo" (defArgs s_answer_undo) (defBody s_answer_undo) (defScope s_answer_undo) .none kV dc pm an cd ct), sl⟩) (c : PySem.W.codeIn K cd "answer_undo" = true) (k : PySem.W.keepIn K (.ref f) = true) : HasDef K mg "answer_undo" s_answer_undo ["desk", "command"] := by
  have F := fun_mk (st := s_answer_undo) l c k
  exact ⟨_, _, PySem.W.mg_of X G a, k, F, F.binds (ps := ["desk", "command"]) fun _ _ _ _ _ _ us hl => match us, hl with | [_, _], _ => rfl⟩
theorem has_answer_show {f : Addr} {od an : Option Addr} {sl : Array (Option Value)} {oc kV dc pm cd ct : Value} (X : K.In h) (G : h.Ns mainGlobals mg) (a : PySem.W.nsIn K mainGlobals "answer_show" = some (some (.ref f))) (l : K.lookup f = some ⟨oc, od, .func (PySem.W.fnOf "answer_show" "answer_show" (defArgs s_answer_show) (defBody s_answer_show) (defScope s_answer_show) .none kV dc pm an cd ct), sl⟩) (c : PySem.W.codeIn K cd "answer_show" = true) (k : PySem.W.keepIn K (.ref f) = true) : HasDef K mg "answer_show" s_answer_show ["desk", "command"] := by
  have F := fun_mk (st := s_answer_show) l c k
  exact ⟨_, _, PySem.W.mg_of X G a, k, F, F.binds (ps := ["desk", "command"]) fun _ _ _ _ _ _ us hl => match us, hl with | [_, _], _ => rfl⟩
theorem has_answer_long {f : Addr} {od an : Option Addr} {sl : Array (Option Value)} {oc kV dc pm cd ct : Value} (X : K.In h) (G : h.Ns mainGlobals mg) (a : PySem.W.nsIn K mainGlobals "answer_long" = some (some (.ref f))) (l : K.lookup f = some ⟨oc, od, .func (PySem.W.fnOf "answer_long" "answer_long" (defArgs s_answer_long) (defBody s_answer_long) (defScope s_answer_long) .none kV dc pm an cd ct), sl⟩) (c : PySem.W.codeIn K cd "answer_long" = true) (k : PySem.W.keepIn K (.ref f) = true) : HasDef K mg "answer_long" s_answer_long ["desk", "command"] := by
  have F := fun_mk (st := s_answer_long) l c k
  exact ⟨_, _, PySem.W.mg_of X G a, k, F, F.binds (ps := ["desk", "command"]) fun _ _ _ _ _ _ us hl => match us, hl with | [_, _], _ => rfl⟩
theorem has_answer_at {f : Addr} {od an : Option Addr} {sl : Array (Option Value)} {oc kV dc pm cd ct : Value} (X : K.In h) (G : h.Ns mainGlobals mg) (a : PySem.W.nsIn K mainGlobals "answer_at" = some (some (.ref f))) (l : K.lookup f = some ⟨oc, od, .func (PySem.W.fnOf "answer_at" "answer_at" (defArgs s_answer_at) (defBody s_answer_at) (defScope s_answer_at) .none kV dc pm an cd ct), sl⟩) (c : PySem.W.codeIn K cd "answer_at" = true) (k : PySem.W.keepIn K (.ref f) = true) : HasDef K mg "answer_at" s_answer_at ["desk", "command"] := by
  have F := fun_mk (st := s_answer_at) l c k
  exact ⟨_, _, PySem.W.mg_of X G a, k, F, F.binds (ps := ["desk", "command"]) fun _ _ _ _ _ _ us hl => match us, hl with | [_, _], _ => rfl⟩
theorem has_answer_same {f : Addr} {od an : Option Addr} {sl : Array (Option Value)} {oc kV dc pm cd ct : Value} (X : K.In h) (G : h.Ns mainGlobals mg) (a : PySem.W.nsIn K mainGlobals "answer_same" = some (some (.ref f))) (l : K.lookup f = some ⟨oc, od, .func (PySem.W.fnOf "answer_same" "answer_same" (defArgs s_answer_same) (defBody s_answer_same) (defScope s_answer_same) .none kV dc pm an cd ct), sl⟩) (c : PySem.W.codeIn K cd "answer_same" = true) (k : PySem.W.keepIn K (.ref f) = true) : HasDef K mg "answer_same" s_answer_same ["desk", "command"] := by
  have F := fun_mk (st := s_answer_same) l c k
  exact ⟨_, _, PySem.W.mg_of X G a, k, F, F.binds (ps := ["desk", "command"]) fun _ _ _ _ _ _ us hl => match us, hl with | [_, _], _ => rfl⟩
theorem has_answer_uses {f : Addr} {od an : Option Addr} {sl : Array (Option Value)} {oc kV dc pm cd ct : Value} (X : K.In h) (G : h.Ns mainGlobals mg) (a : PySem.W.nsIn K mainGlobals "answer_uses" = some (some (.ref f))) (l : K.lookup f = some ⟨oc, od, .func (PySem.W.fnOf "answer_uses" "answer_uses" (defArgs s_answer_uses) (defBody s_answer_uses) (defScope s_answer_uses) .none kV dc pm an cd ct), sl⟩) (c : PySem.W.codeIn K cd "answer_uses" = true) (k : PySem.W.keepIn K (.ref f) = true) : HasDef K mg "answer_uses" s_answer_uses ["desk", "command"] := by
  have F := fun_mk (st := s_answer_uses) l c k
  exact ⟨_, _, PySem.W.mg_of X G a, k, F, F.binds (ps := ["desk", "command"]) fun _ _ _ _ _ _ us hl => match us, hl with | [_, _], _ => rfl⟩
theorem has_answer_users {f : Addr} {od an : Option Addr} {sl : Array (Option Value)} {oc kV dc pm cd ct : Value} (X : K.In h) (G : h.Ns mainGlobals mg) (a : PySem.W.nsIn K mainGlobals "answer_users" = some (some (.ref f))) (l : K.lookup f = some ⟨oc, od, .func (PySem.W.fnOf "answer_users" "answer_users" (defArgs s_answer_users) (defBody s_answer_users) (defScope s_answer_users) .none kV dc pm an cd ct), sl⟩) (c : PySem.W.codeIn K cd "answer_users" = true) (k : PySem.W.keepIn K (.ref f) = true) : HasDef K mg "answer_users" s_answer_users ["desk", "command"] := by
  have F := fun_mk (st := s_answer_users) l c k
  exact ⟨_, _, PySem.W.mg_of X G a, k, F, F.binds (ps := ["desk", "command"]) fun _ _ _ _ _ _ us hl => match us, hl with | [_, _], _ => rfl⟩
theorem has_answer_list {f : Addr} {od an : Option Addr} {sl : Array (Option Value)} {oc kV dc pm cd ct : Value} (X : K.In h) (G : h.Ns mainGlobals mg) (a : PySem.W.nsIn K mainGlobals "answer_list" = some (some (.ref f))) (l : K.lookup f = some ⟨oc, od, .func (PySem.W.fnOf "answer_list" "answer_list" (defArgs s_answer_list) (defBody s_answer_list) (defScope s_answer_list) .none kV dc pm an cd ct), sl⟩) (c : PySem.W.codeIn K cd "answer_list" = true) (k : PySem.W.keepIn K (.ref f) = true) : HasDef K mg "answer_list" s_answer_list ["desk", "command"] := by
  have F := fun_mk (st := s_answer_list) l c k
  exact ⟨_, _, PySem.W.mg_of X G a, k, F, F.binds (ps := ["desk", "command"]) fun _ _ _ _ _ _ us hl => match us, hl with | [_, _], _ => rfl⟩
theorem has_answer_dump {f : Addr} {od an : Option Addr} {sl : Array (Option Value)} {oc kV dc pm cd ct : Value} (X : K.In h) (G : h.Ns mainGlobals mg) (a : PySem.W.nsIn K mainGlobals "answer_dump" = some (some (.ref f))) (l : K.lookup f = some ⟨oc, od, .func (PySem.W.fnOf "answer_dump" "answer_dump" (defArgs s_answer_dump) (defBody s_answer_dump) (defScope s_answer_dump) .none kV dc pm an cd ct), sl⟩) (c : PySem.W.codeIn K cd "answer_dump" = true) (k : PySem.W.keepIn K (.ref f) = true) : HasDef K mg "answer_dump" s_answer_dump ["desk", "command"] := by
  have F := fun_mk (st := s_answer_dump) l c k
  exact ⟨_, _, PySem.W.mg_of X G a, k, F, F.binds (ps := ["desk", "command"]) fun _ _ _ _ _ _ us hl => match us, hl with | [_, _], _ => rfl⟩
theorem has_size_text {f : Addr} {od an : Option Addr} {sl : Array (Option Value)} {oc kV dc pm cd ct : Value} (X : K.In h) (G : h.Ns mainGlobals mg) (a : PySem.W.nsIn K mainGlobals "size_text" = some (some (.ref f))) (l : K.lookup f = some ⟨oc, od, .func (PySem.W.fnOf "size_text" "size_text" (defArgs s_size_text) (defBody s_size_text) (defScope s_size_text) .none kV dc pm an cd ct), sl⟩) (c : PySem.W.codeIn K cd "size_text" = true) (k : PySem.W.keepIn K (.ref f) = true) : HasDef K mg "size_text" s_size_text ["line"] := by
  have F := fun_mk (st := s_size_text) l c k
  exact ⟨_, _, PySem.W.mg_of X G a, k, F, F.binds (ps := ["line"]) fun _ _ _ _ _ _ us hl => match us, hl with | [_], _ => rfl⟩
theorem has_counted_text {f : Addr} {od an : Option Addr} {sl : Array (Option Value)} {oc kV dc pm cd ct : Value} (X : K.In h) (G : h.Ns mainGlobals mg) (a : PySem.W.nsIn K mainGlobals "counted_text" = some (some (.ref f))) (l : K.lookup f = some ⟨oc, od, .func (PySem.W.fnOf "counted_text" "counted_text" (defArgs s_counted_text) (defBody s_counted_text) (defScope s_counted_text) .none kV dc pm an cd ct), sl⟩) (c : PySem.W.codeIn K cd "counted_text" = true) (k : PySem.W.keepIn K (.ref f) = true) : HasDef K mg "counted_text" s_counted_text ["words"] := by
  have F := fun_mk (st := s_counted_text) l c k
  exact ⟨_, _, PySem.W.mg_of X G a, k, F, F.binds (ps := ["words"]) fun _ _ _ _ _ _ us hl => match us, hl with | [_], _ => rfl⟩
theorem has_listing_text {f : Addr} {od an : Option Addr} {sl : Array (Option Value)} {oc kV dc pm cd ct : Value} (X : K.In h) (G : h.Ns mainGlobals mg) (a : PySem.W.nsIn K mainGlobals "listing_text" = some (some (.ref f))) (l : K.lookup f = some ⟨oc, od, .func (PySem.W.fnOf "listing_text" "listing_text" (defArgs s_listing_text) (defBody s_listing_text) (defScope s_listing_text) .none kV dc pm an cd ct), sl⟩) (c : PySem.W.codeIn K cd "listing_text" = true) (k : PySem.W.keepIn K (.ref f) = true) : HasDef K mg "listing_text" s_listing_text ["definitions", "names"] := by
  have F := fun_mk (st := s_listing_text) l c k
  exact ⟨_, _, PySem.W.mg_of X G a, k, F, F.binds (ps := ["definitions", "names"]) fun _ _ _ _ _ _ us hl => match us, hl with | [_, _], _ => rfl⟩
theorem has_answer_text {f : Addr} {od an : Option Addr} {sl : Array (Option Value)} {oc kV dc pm cd ct : Value} (X : K.In h) (G : h.Ns mainGlobals mg) (a : PySem.W.nsIn K mainGlobals "answer_text" = some (some (.ref f))) (l : K.lookup f = some ⟨oc, od, .func (PySem.W.fnOf "answer_text" "answer_text" (defArgs s_answer_text) (defBody s_answer_text) (defScope s_answer_text) .none kV dc pm an cd ct), sl⟩) (c : PySem.W.codeIn K cd "answer_text" = true) (k : PySem.W.keepIn K (.ref f) = true) : HasDef K mg "answer_text" s_answer_text ["desk", "text"] := by
  have F := fun_mk (st := s_answer_text) l c k
  exact ⟨_, _, PySem.W.mg_of X G a, k, F, F.binds (ps := ["desk", "text"]) fun _ _ _ _ _ _ us hl => match us, hl with | [_, _], _ => rfl⟩
theorem has_say {f : Addr} {od an : Option Addr} {sl : Array (Option Value)} {oc kV dc pm cd ct : Value} (X : K.In h) (G : h.Ns mainGlobals mg) (a : PySem.W.nsIn K mainGlobals "say" = some (some (.ref f))) (l : K.lookup f = some ⟨oc, od, .func (PySem.W.fnOf "say" "say" (defArgs s_say) (defBody s_say) (defScope s_say) .none kV dc pm an cd ct), sl⟩) (c : PySem.W.codeIn K cd "say" = true) (k : PySem.W.keepIn K (.ref f) = true) : HasDef K mg "say" s_say ["desk", "command"] := by
  have F := fun_mk (st := s_say) l c k
  exact ⟨_, _, PySem.W.mg_of X G a, k, F, F.binds (ps := ["desk", "command"]) fun _ _ _ _ _ _ us hl => match us, hl with | [_, _], _ => rfl⟩
theorem has_is_text {f : Addr} {od an : Option Addr} {sl : Array (Option Value)} {oc kV dc pm cd ct : Value} (X : K.In h) (G : h.Ns mainGlobals mg) (a : PySem.W.nsIn K mainGlobals "is_text" = some (some (.ref f))) (l : K.lookup f = some ⟨oc, od, .func (PySem.W.fnOf "is_text" "is_text" (defArgs s_is_text) (defBody s_is_text) (defScope s_is_text) .none kV dc pm an cd ct), sl⟩) (c : PySem.W.codeIn K cd "is_text" = true) (k : PySem.W.keepIn K (.ref f) = true) : HasDef K mg "is_text" s_is_text ["command"] := by
  have F := fun_mk (st := s_is_text) l c k
  exact ⟨_, _, PySem.W.mg_of X G a, k, F, F.binds (ps := ["command"]) fun _ _ _ _ _ _ us hl => match us, hl with | [_], _ => rfl⟩
theorem has_text_of {f : Addr} {od an : Option Addr} {sl : Array (Option Value)} {oc kV dc pm cd ct : Value} (X : K.In h) (G : h.Ns mainGlobals mg) (a : PySem.W.nsIn K mainGlobals "text_of" = some (some (.ref f))) (l : K.lookup f = some ⟨oc, od, .func (PySem.W.fnOf "text_of" "text_of" (defArgs s_text_of) (defBody s_text_of) (defScope s_text_of) .none kV dc pm an cd ct), sl⟩) (c : PySem.W.codeIn K cd "text_of" = true) (k : PySem.W.keepIn K (.ref f) = true) : HasDef K mg "text_of" s_text_of ["command"] := by
  have F := fun_mk (st := s_text_of) l c k
  exact ⟨_, _, PySem.W.mg_of X G a, k, F, F.binds (ps := ["command"]) fun _ _ _ _ _ _ us hl => match us, hl with | [_], _ => rfl⟩
theorem has_answers {f : Addr} {od an : Option Addr} {sl : Array (Option Value)} {oc kV dc pm cd ct : Value} (X : K.In h) (G : h.Ns mainGlobals mg) (a : PySem.W.nsIn K mainGlobals "answers" = some (some (.ref f))) (l : K.lookup f = some ⟨oc, od, .func (PySem.W.fnOf "answers" "answers" (defArgs s_answers) (defBody s_answers) (defScope s_answers) .none kV dc pm an cd ct), sl⟩) (c : PySem.W.codeIn K cd "answers" = true) (k : PySem.W.keepIn K (.ref f) = true) : HasEntry K mg "answers" s_answers ["calls"] := by
  have F := fun_mk (st := s_answers) l c k
  exact ⟨_, _, PySem.W.mg_of X G a, F, fun s us hu => match us, hu with | [_], _ => .of_eq rfl⟩
theorem hasm_init {C : Addr} {f : Addr} {od an : Option Addr} {sl : Array (Option Value)} {oc kV dc pm cd ct : Value} (a : PySem.W.findIn K (.ref C) "__init__" = some (some (.ref f))) (i : PySem.W.isFn K (.ref f) = true) (l : K.lookup f = some ⟨oc, od, .func (PySem.W.fnOf "__init__" "Desk.__init__" (defArgs s_Desk___init__) (defBody s_Desk___init__) (defScope s_Desk___init__) .none kV dc pm an cd ct), sl⟩) (c : PySem.W.codeIn K cd "Desk.__init__" = true) (k : PySem.W.keepIn K (.ref f) = true) : HasMeth K C "__init__" "Desk.__init__" s_Desk___init__ ["self"] := by
  have F := fun_mk (st := s_Desk___init__) l c k
  exact ⟨_, _, ⟨a, i, k⟩, F, F.binds (ps := ["self"]) fun _ _ _ _ _ _ us hl => match us, hl with | [_], _ => rfl⟩
theorem hasm_move_on {C : Addr} {f : Addr} {od an : Option Addr} {sl : Array (Option Value)} {oc kV dc pm cd ct : Value} (a : PySem.W.findIn K (.ref C) "move_on" = some (some (.ref f))) (i : PySem.W.isFn K (.ref f) = true) (l : K.lookup f = some ⟨oc, od, .func (PySem.W.fnOf "move_on" "Desk.move_on" (defArgs s_Desk_move_on) (defBody s_Desk_move_on) (defScope s_Desk_move_on) .none kV dc pm an cd ct), sl⟩) (c : PySem.W.codeIn K cd "Desk.move_on" = true) (k : PySem.W.keepIn K (.ref f) = true) : HasMeth K C "move_on" "Desk.move_on" s_Desk_move_on ["self", "definitions", "lines"] := by
  have F := fun_mk (st := s_Desk_move_on) l c k
  exact ⟨_, _, ⟨a, i, k⟩, F, F.binds (ps := ["self", "definitions", "lines"]) fun _ _ _ _ _ _ us hl => match us, hl with | [_, _, _], _ => rfl⟩
theorem hasm_move_back {C : Addr} {f : Addr} {od an : Option Addr} {sl : Array (Option Value)} {oc kV dc pm cd ct : Value} (a : PySem.W.findIn K (.ref C) "move_back" = some (some (.ref f))) (i : PySem.W.isFn K (.ref f) = true) (l : K.lookup f = some ⟨oc, od, .func (PySem.W.fnOf "move_back" "Desk.move_back" (defArgs s_Desk_move_back) (defBody s_Desk_move_back) (defScope s_Desk_move_back) .none kV dc pm an cd ct), sl⟩) (c : PySem.W.codeIn K cd "Desk.move_back" = true) (k : PySem.W.keepIn K (.ref f) = true) : HasMeth K C "move_back" "Desk.move_back" s_Desk_move_back ["self"] := by
  have F := fun_mk (st := s_Desk_move_back) l c k
  exact ⟨_, _, ⟨a, i, k⟩, F, F.binds (ps := ["self"]) fun _ _ _ _ _ _ us hl => match us, hl with | [_], _ => rfl⟩
theorem gi_mk {n : Str} {i : Int} {t : Tok} (X : K.In h) (G : h.Ns mainGlobals mg) (a : PySem.W.nsIn K mainGlobals n = some (some (.int i t))) : ∃ t, mg n = some (.int i t) := ⟨t, PySem.W.mg_of X G a⟩
theorem gs_mk {n : Str} {i : Str} {t : Tok} (X : K.In h) (G : h.Ns mainGlobals mg) (a : PySem.W.nsIn K mainGlobals n = some (some (.str i t))) : ∃ t, mg n = some (.str i t) := ⟨t, PySem.W.mg_of X G a⟩
def HasTup (K : PySem.W.Frag) (mg : Str → Option Value) (n : Str) (xs : List V) : Prop := ∃ a, mg n = some (.ref a) ∧ (∀ H, SqT K H a xs) ∧ ∃ o, K.lookup a = some o ∧ o.cls = .type "tuple" ∧ o.dict = none
theorem sqT_mk {a : Addr} {its : Array Value} {m : Nat} {od : Option Addr} {sl : Array (Option Value)} {xs : List V} (l : K.lookup a = some ⟨.type "tuple", od, .seq its m, sl⟩) (z : its.size ≤ sizeLine) (v : Vals xs its.toList) : ∀ H, SqT K H a xs := fun H => .inr ⟨_, _, _, l, rfl, rfl, z, v⟩
theorem tup_mk {n : Str} {a : Addr} {its : Array Value} {m : Nat} {sl : Array (Option Value)} {xs : List V} (X : K.In h) (G : h.Ns mainGlobals mg) (e : PySem.W.nsIn K mainGlobals n = some (some (.ref a))) (l : K.lookup a = some ⟨.type "tuple", none, .seq its m, sl⟩) (z : its.size ≤ sizeLine) (v : Vals xs its.toList) : HasTup K mg n xs :=
  ⟨a, PySem.W.mg_of X G e, sqT_mk l z v, _, l, rfl, rfl⟩
def TabRel : DictEntry → Str × Value → Prop := fun e p => (∃ t, e.key = .str p.1 t) ∧ e.val = p.2
theorem tabrel {e : DictEntry} {k : Str} {v : Value} {t : Tok} (h1 : e.key = .str k t) (h2 : e.val = v) : TabRel e (k, v) := ⟨⟨t, h1⟩, h2⟩
def HasRanges (K : PySem.W.Frag) (w : World) (mg : Str → Option Value) : Prop := ∃ (a : Addr) (f : Pb.NOp → Addr), mg "NUMBER_RANGES" = some (.ref a) ∧ KTab K w a (rangesOf f) ∧ ∀ o H, SqT K H (f o) [.int (o.lo : Nat), .int (o.hi : Nat)]
theorem ranges_mk {a r1 r2 r3 r4 r5 : Addr} {es : Array DictEntry} {n : Nat} (X : K.In h) (G : h.Ns mainGlobals mg) (e : PySem.W.nsIn K mainGlobals "NUMBER_RANGES" = some (some (.ref a))) (l : K.lookup a = some ⟨.type "dict", none, .dict es n, #[]⟩) (ks : PySem.W.KeysLit w.params es.toList) (s : (a == sysModules) = false)
    (p : Paired TabRel es.toList [("up", .ref r1), ("down", .ref r2), ("long", .ref r3), ("short", .ref r4), ("times", .ref r5)])
    (q1 : ∀ H, SqT K H r1 [.int (Pb.NOp.up.lo : Nat), .int (Pb.NOp.up.hi : Nat)]) (q2 : ∀ H, SqT K H r2 [.int (Pb.NOp.down.lo : Nat), .int (Pb.NOp.down.hi : Nat)]) (q3 : ∀ H, SqT K H r3 [.int (Pb.NOp.long.lo : Nat), .int (Pb.NOp.long.hi : Nat)]) (q4 : ∀ H, SqT K H r4 [.int (Pb.NOp.short.lo : Nat), .int (Pb.NOp.short.hi : Nat)]) (q5 : ∀ H, SqT K H r5 [.int (Pb.NOp.times.lo : Nat), .int (Pb.NOp.times.hi : Nat)]) : HasRanges K w mg :=
  ⟨a, fun o => match o with | .up => r1 | .down => r2 | .long => r3 | .short => r4 | .times => r5, PySem.W.mg_of X G e, ⟨es, n, l, ks, s, p⟩, fun o => match o with | .up => q1 | .down => q2 | .long => q3 | .short => q4 | .times => q5⟩
def pick (l : List (String × Addr)) (s : String) : Addr := (l.lookup s).getD 0
def HasBehind (K : PySem.W.Frag) (w : World) (mg : Str → Option Value) : Prop := ∃ (a : Addr) (f : String → Addr), mg "WORDS_BEHIND" = some (.ref a) ∧ KTab K w a (behind.map fun p => (Str.ofString p.1, .ref (f p.1))) ∧ ∀ p ∈ behind, ∀ H, SqT K H (f p.1) (p.2.map V.str)
theorem behind_mk {a b0 b1 b2 b3 b4 b5 b6 b7 b8 b9 : Addr} {es : Array DictEntry} {n : Nat} (X : K.In h) (G : h.Ns mainGlobals mg) (e : PySem.W.nsIn K mainGlobals "WORDS_BEHIND" = some (some (.ref a))) (l : K.lookup a = some ⟨.type "dict", none, .dict es n, #[]⟩) (ks : PySem.W.KeysLit w.params es.toList) (s : (a == sysModules) = false)
    (p : Paired TabRel es.toList [("drop", .ref b0), ("undo", .ref b1), ("show", .ref b2), ("long", .ref b3), ("at", .ref b4), ("same", .ref b5), ("uses", .ref b6), ("users", .ref b7), ("list", .ref b8), ("dump", .ref b9)])
    (q0 : ∀ H, SqT K H b0 ((["name"] : List Str).map V.str)) (q1 : ∀ H, SqT K H b1 (([] : List Str).map V.str)) (q2 : ∀ H, SqT K H b2 ((["name"] : List Str).map V.str)) (q3 : ∀ H, SqT K H b3 ((["name"] : List Str).map V.str)) (q4 : ∀ H, SqT K H b4 ((["name", "time"] : List Str).map V.str)) (q5 : ∀ H, SqT K H b5 ((["name", "name"] : List Str).map V.str)) (q6 : ∀ H, SqT K H b6 ((["name"] : List Str).map V.str)) (q7 : ∀ H, SqT K H b7 ((["name"] : List Str).map V.str)) (q8 : ∀ H, SqT K H b8 (([] : List Str).map V.str)) (q9 : ∀ H, SqT K H b9 (([] : List Str).map V.str)) : HasBehind K w mg := by
  refine ⟨a, pick [("drop", b0), ("undo", b1), ("show", b2), ("long", b3), ("at", b4), ("same", b5), ("uses", b6), ("users", b7), ("list", b8), ("dump", b9)], PySem.W.mg_of X G e, ⟨es, n, l, ks, s, p⟩, ?_⟩
  simp only [behind, List.forall_mem_cons]
  exact ⟨q0, q1, q2, q3, q4, q5, q6, q7, q8, q9, fun _ hx => by cases hx⟩
def HasTable (K : PySem.W.Frag) (w : World) (mg : Str → Option Value) : Prop := ∃ (a : Addr) (f : String → Addr), mg "ANSWERS" = some (.ref a) ∧ KTab K w a (ansNames.map fun p => (Str.ofString p, Value.ref (f p))) ∧ mg "answer_theme" = some (.ref (f "theme")) ∧ mg "answer_part" = some (.ref (f "part")) ∧ mg "answer_drop" = some (.ref (f "drop")) ∧ mg "answer_undo" = some (.ref (f "undo")) ∧ mg "answer_show" = some (.ref (f "show")) ∧ mg "answer_long" = some (.ref (f "long")) ∧ mg "answer_at" = some (.ref (f "at")) ∧ mg "answer_same" = some (.ref (f "same")) ∧ mg "answer_uses" = some (.ref (f "uses")) ∧ mg "answer_users" = some (.ref (f "users")) ∧ mg "answer_list" = some (.ref (f "list")) ∧ mg "answer_dump" = some (.ref (f "dump"))
theorem table_mk {a r0 r1 r2 r3 r4 r5 r6 r7 r8 r9 r10 r11 : Addr} {es : Array DictEntry} {n : Nat} (X : K.In h) (G : h.Ns mainGlobals mg) (e : PySem.W.nsIn K mainGlobals "ANSWERS" = some (some (.ref a))) (l : K.lookup a = some ⟨.type "dict", none, .dict es n, #[]⟩) (ks : PySem.W.KeysLit w.params es.toList) (s : (a == sysModules) = false)
    (p : Paired TabRel es.toList [("theme", .ref r0), ("part", .ref r1), ("drop", .ref r2), ("undo", .ref r3), ("show", .ref r4), ("long", .ref r5), ("at", .ref r6), ("same", .ref r7), ("uses", .ref r8), ("users", .ref r9), ("list", .ref r10), ("dump", .ref r11)])
    (n0 : PySem.W.nsIn K mainGlobals "answer_theme" = some (some (.ref r0))) (n1 : PySem.W.nsIn K mainGlobals "answer_part" = some (some (.ref r1))) (n2 : PySem.W.nsIn K mainGlobals "answer_drop" = some (some (.ref r2))) (n3 : PySem.W.nsIn K mainGlobals "answer_undo" = some (some (.ref r3))) (n4 : PySem.W.nsIn K mainGlobals "answer_show" = some (some (.ref r4))) (n5 : PySem.W.nsIn K mainGlobals "answer_long" = some (some (.ref r5))) (n6 : PySem.W.nsIn K mainGlobals "answer_at" = some (some (.ref r6))) (n7 : PySem.W.nsIn K mainGlobals "answer_same" = some (some (.ref r7))) (n8 : PySem.W.nsIn K mainGlobals "answer_uses" = some (some (.ref r8))) (n9 : PySem.W.nsIn K mainGlobals "answer_users" = some (some (.ref r9))) (n10 : PySem.W.nsIn K mainGlobals "answer_list" = some (some (.ref r10))) (n11 : PySem.W.nsIn K mainGlobals "answer_dump" = some (some (.ref r11))) : HasTable K w mg :=
  ⟨a, pick [("theme", r0), ("part", r1), ("drop", r2), ("undo", r3), ("show", r4), ("long", r5), ("at", r6), ("same", r7), ("uses", r8), ("users", r9), ("list", r10), ("dump", r11)], PySem.W.mg_of X G e, ⟨es, n, l, ks, s, p⟩, PySem.W.mg_of X G n0, PySem.W.mg_of X G n1, PySem.W.mg_of X G n2, PySem.W.mg_of X G n3, PySem.W.mg_of X G n4, PySem.W.mg_of X G n5, PySem.W.mg_of X G n6, PySem.W.mg_of X G n7, PySem.W.mg_of X G n8, PySem.W.mg_of X G n9, PySem.W.mg_of X G n10, PySem.W.mg_of X G n11⟩
def HasDesk (K : PySem.W.Frag) (mg : Str → Option Value) : Prop := ∃ C, mg "Desk" = some (.ref C) ∧ TxtD K C ∧ PySem.W.makesIn K C = true ∧ PySem.W.keepIn K (.ref C) = true ∧ HasMeth K C "__init__" "Desk.__init__" s_Desk___init__ ["self"] ∧ HasMeth K C "move_on" "Desk.move_on" s_Desk_move_on ["self", "definitions", "lines"] ∧ HasMeth K C "move_back" "Desk.move_back" s_Desk_move_back ["self"]
theorem desk_mk {C : Addr} (X : K.In h) (G : h.Ns mainGlobals mg) (a : PySem.W.nsIn K mainGlobals "Desk" = some (some (.ref C))) (pg : PySem.W.plainGet K C Str.empty = true) (hd : PySem.W.hasDictIn K C = true) (po : PySem.W.plainOver K C = true) (sa : PySem.W.findIn K (.ref C) "__setattr__" = some (some (.builtin "object.__setattr__")))
    (n1 : PySem.W.findIn K (.ref C) "definitions" = some none) (n2 : PySem.W.findIn K (.ref C) "lines" = some none) (n3 : PySem.W.findIn K (.ref C) "past" = some none) (mk : PySem.W.makesIn K C = true) (kc : PySem.W.keepIn K (.ref C) = true)
    (m1 : HasMeth K C "__init__" "Desk.__init__" s_Desk___init__ ["self"]) (m2 : HasMeth K C "move_on" "Desk.move_on" s_Desk_move_on ["self", "definitions", "lines"]) (m3 : HasMeth K C "move_back" "Desk.move_back" s_Desk_move_back ["self"]) : HasDesk K mg :=
  ⟨C, PySem.W.mg_of X G a, ⟨⟨pg, hd, po, sa⟩, n1, n2, n3⟩, mk, kc, m1, m2, m3⟩
theorem txt_mk (b_len : mg "len" = none) (b_int : mg "int" = none) (b_str : mg "str" = none) (b_list : mg "list" = none) (b_dict : mg "dict" = none) (b_abs : mg "abs" = none) (b_min : mg "min" = none) (b_sum : mg "sum" = none) (b_all : mg "all" = none) (b_any : mg "any" = none) (b_ord : mg "ord" = none) (b_zip : mg "zip" = none) (b_enumerate : mg "enumerate" = none) (b_range : mg "range" = none) (b_reversed : mg "reversed" = none) (g_STEP_LETTERS : ∃ t, mg "STEP_LETTERS" = some (.str "cdefgab" t)) (g_WIDEST_ALTERATION : ∃ t, mg "WIDEST_ALTERATION" = some (.int 2 t)) (g_HIGHEST_STEP : ∃ t, mg "HIGHEST_STEP" = some (.int 69 t)) (g_LONGEST_EVENT : ∃ t, mg "LONGEST_EVENT" = some (.int 1024 t)) (g_MOST_LETTERS : ∃ t, mg "MOST_LETTERS" = some (.int 8 t)) (g_MOST_DIGITS : ∃ t, mg "MOST_DIGITS" = some (.int 4 t)) (g_MOST_EVENTS : ∃ t, mg "MOST_EVENTS" = some (.int 200 t)) (g_DEEPEST_NESTING : ∃ t, mg "DEEPEST_NESTING" = some (.int 8 t)) (g_MOST_THEME_EVENTS : ∃ t, mg "MOST_THEME_EVENTS" = some (.int 32 t)) (g_LATEST_TIME : ∃ t, mg "LATEST_TIME" = some (.int 9999 t)) (g_MOST_NAMES : ∃ t, mg "MOST_NAMES" = some (.int 12 t)) (g_MOST_UNDONE : ∃ t, mg "MOST_UNDONE" = some (.int 20 t)) (g_MOST_BYTES : ∃ t, mg "MOST_BYTES" = some (.int 400 t)) (g_LOWEST_BYTE : ∃ t, mg "LOWEST_BYTE" = some (.int 32 t)) (g_HIGHEST_BYTE : ∃ t, mg "HIGHEST_BYTE" = some (.int 126 t)) (g_COMMAND_SIGNS : ∃ t, mg "COMMAND_SIGNS" = some (.str " #()+:0123456789abcdefghijklmnopqrstuvwxyz" t)) (g_OTHER_SIGN : ∃ t, mg "OTHER_SIGN" = some (.str "?" t)) (tM : HasTup K mg "ALTERATION_MARKS" ((["bb", "b", "", "#", "x"] : List Str).map V.str)) (tR : HasTup K mg "RESERVED_WORDS" ((["up", "down", "over", "back", "long", "short", "times", "r"] : List Str).map V.str)) (tP : HasTup K mg "PLAIN_WORDS" ((["(", ")", "+", "over", "back"] : List Str).map V.str)) (tS : HasTup K mg "ITEM_STARTS" ((["(", "name", "rest"] : List Str).map V.str)) (tN : HasRanges K w mg) (tB : HasBehind K w mg) : ∃ aM aR aP aS aN aB, Txt K w mg aM aR aP aS aN aB := by
  obtain ⟨aM, gM, qM, kM⟩ := tM; obtain ⟨aR, gR, qR, _⟩ := tR; obtain ⟨aP, gP, qP, _⟩ := tP; obtain ⟨aS, gS, qS, _⟩ := tS; obtain ⟨aN, fN, gN, kN, qN⟩ := tN; obtain ⟨aB, fB, gB, kB, qB⟩ := tB
  exact ⟨aM, aR, aP, aS, aN, aB, { b_len := b_len, b_int := b_int, b_str := b_str, b_list := b_list, b_dict := b_dict, b_abs := b_abs, b_min := b_min, b_sum := b_sum, b_all := b_all, b_any := b_any, b_ord := b_ord, b_zip := b_zip, b_enumerate := b_enumerate, b_range := b_range, b_reversed := b_reversed, g_STEP_LETTERS := g_STEP_LETTERS, g_WIDEST_ALTERATION := g_WIDEST_ALTERATION, g_HIGHEST_STEP := g_HIGHEST_STEP, g_LONGEST_EVENT := g_LONGEST_EVENT, g_MOST_LETTERS := g_MOST_LETTERS, g_MOST_DIGITS := g_MOST_DIGITS, g_MOST_EVENTS := g_MOST_EVENTS, g_DEEPEST_NESTING := g_DEEPEST_NESTING, g_MOST_THEME_EVENTS := g_MOST_THEME_EVENTS, g_LATEST_TIME := g_LATEST_TIME, g_MOST_NAMES := g_MOST_NAMES, g_MOST_UNDONE := g_MOST_UNDONE, g_MOST_BYTES := g_MOST_BYTES, g_LOWEST_BYTE := g_LOWEST_BYTE, g_HIGHEST_BYTE := g_HIGHEST_BYTE, g_COMMAND_SIGNS := g_COMMAND_SIGNS, g_OTHER_SIGN := g_OTHER_SIGN, g_ALTERATION_MARKS := gM, g_RESERVED_WORDS := gR, g_PLAIN_WORDS := gP, g_ITEM_STARTS := gS, g_NUMBER_RANGES := gN, g_WORDS_BEHIND := gB, q_marks := qM, t_ranges := ⟨fN, kN, qN⟩, t_behind := ⟨fB, kB, qB⟩, k_marks := kM, q_res := qR, q_plain := qP, q_starts := qS }⟩
theorem walk_all {fa : Addr} (hfa : mg "answers" = some (.ref fa)) (d_is_name : HasDef K mg "is_name" s_is_name ["word"]) (d_read_number : HasDef K mg "read_number" s_read_number ["word", "low", "high"]) (d_read_event : HasDef K mg "read_event" s_read_event ["word"]) (d_read_note : HasDef K mg "read_note" s_read_note ["pitch", "length"]) (d_is_rest : HasDef K mg "is_rest" s_is_rest ["event"]) (d_is_in_range : HasDef K mg "is_in_range" s_is_in_range ["event"]) (d_event_text : HasDef K mg "event_text" s_event_text ["event"]) (d_is_valid : HasDef K mg "is_valid" s_is_valid ["line"]) (d_line_length : HasDef K mg "line_length" s_line_length ["line"]) (d_moved : HasDef K mg "moved" s_moved ["line", "steps"]) (d_inverted : HasDef K mg "inverted" s_inverted ["line"]) (d_backward : HasDef K mg "backward" s_backward ["line"]) (d_stretched : HasDef K mg "stretched" s_stretched ["line", "factor"]) (d_shortened : HasDef K mg "shortened" s_shortened ["line", "factor"]) (d_repeated : HasDef K mg "repeated" s_repeated ["line", "times"]) (d_find_event : HasDef K mg "find_event" s_find_event ["line", "time"]) (d_first_difference : HasDef K mg "first_difference" s_first_difference ["line", "other"]) (d_read_expression : HasDef K mg "read_expression" s_read_expression ["words"]) (d_read_tokens : HasDef K mg "read_tokens" s_read_tokens ["words"]) (d_read_token : HasDef K mg "read_token" s_read_token ["words", "place"]) (d_read_numbered : HasDef K mg "read_numbered" s_read_numbered ["words", "place"]) (d_order_steps : HasDef K mg "order_steps" s_order_steps ["tokens"]) (d_end_item : HasDef K mg "end_item" s_end_item ["steps", "waiting"]) (d_names_in : HasDef K mg "names_in" s_names_in ["steps"]) (d_expression_value : HasDef K mg "expression_value" s_expression_value ["steps", "lines"]) (d_operated : HasDef K mg "operated" s_operated ["operation", "number", "line"]) (d_expression_text : HasDef K mg "expression_text" s_expression_text ["steps"]) (d_as_item : HasDef K mg "as_item" s_as_item ["entry"]) (d_operation_text : HasDef K mg "operation_text" s_operation_text ["step"]) (d_make_theme : HasDef K mg "make_theme" s_make_theme ["events"]) (d_make_part : HasDef K mg "make_part" s_make_part ["steps"]) (d_names_used : HasDef K mg "names_used" s_names_used ["definition"]) (d_users_of : HasDef K mg "users_of" s_users_of ["definitions", "name"]) (d_reaches : HasDef K mg "reaches" s_reaches ["definitions", "starts", "goal"]) (d_entry_order : HasDef K mg "entry_order" s_entry_order ["definitions"]) (d_first_ready : HasDef K mg "first_ready" s_first_ready ["definitions", "done"]) (d_is_ready : HasDef K mg "is_ready" s_is_ready ["definition", "done"]) (d_lines_of : HasDef K mg "lines_of" s_lines_of ["definitions"]) (d_definition_line : HasDef K mg "definition_line" s_definition_line ["definition", "lines"]) (d_definition_text : HasDef K mg "definition_text" s_definition_text ["name", "definition"]) (d_body_text : HasDef K mg "body_text" s_body_text ["definition"]) (d_read_command : HasDef K mg "read_command" s_read_command ["text"]) (d_read_argument : HasDef K mg "read_argument" s_read_argument ["kind", "word"]) (d_read_change : HasDef K mg "read_change" s_read_change ["words"]) (d_read_events : HasDef K mg "read_events" s_read_events ["words"]) (d_answer_theme : HasDef K mg "answer_theme" s_answer_theme ["desk", "command"]) (d_answer_part : HasDef K mg "answer_part" s_answer_part ["desk", "command"]) (d_define : HasDef K mg "define" s_define ["desk", "name", "definition"]) (d_answer_drop : HasDef K mg "answer_drop" s_answer_drop ["desk", "command"]) (d_answer_undo : HasDef K mg "answer_undo" s_answer_undo ["desk", "command"]) (d_answer_show : HasDef K mg "answer_show" s_answer_show ["desk", "command"]) (d_answer_long : HasDef K mg "answer_long" s_answer_long ["desk", "command"]) (d_answer_at : HasDef K mg "answer_at" s_answer_at ["desk", "command"]) (d_answer_same : HasDef K mg "answer_same" s_answer_same ["desk", "command"]) (d_answer_uses : HasDef K mg "answer_uses" s_answer_uses ["desk", "command"]) (d_answer_users : HasDef K mg "answer_users" s_answer_users ["desk", "command"]) (d_answer_list : HasDef K mg "answer_list" s_answer_list ["desk", "command"]) (d_answer_dump : HasDef K mg "answer_dump" s_answer_dump ["desk", "command"]) (d_size_text : HasDef K mg "size_text" s_size_text ["line"]) (d_counted_text : HasDef K mg "counted_text" s_counted_text ["words"]) (d_listing_text : HasDef K mg "listing_text" s_listing_text ["definitions", "names"]) (d_answer_text : HasDef K mg "answer_text" s_answer_text ["desk", "text"]) (d_say : HasDef K mg "say" s_say ["desk", "command"]) (d_is_text : HasDef K mg "is_text" s_is_text ["command"]) (d_text_of : HasDef K mg "text_of" s_text_of ["command"]) (d_answers : HasEntry K mg "answers" s_answers ["calls"]) (TX : ∃ aM aR aP aS aN aB, Txt K w mg aM aR aP aS aN aB) (DK : HasDesk K mg) (TB : HasTable K w mg) :
    ∃ fd : FuncData, (∀ (s : Shared) (us : List Value), us.length = (["calls"] : List Str).length → BindsTo s fd ⟨us, []⟩ ((["calls"] : List Str).zip us)) ∧ ∀ base : Heap, K.In base → base.Ns mainGlobals mg → FnOk P w K mg base CX0 11 fa fd ["calls"] (sp_answers K) := by
  obtain ⟨aM, aR, aP, aS, aN, aB, T⟩ := TX
  obtain ⟨C, gC, TD, mk, kc, ⟨fI, fdI, mI, FI, bI⟩, ⟨fO, fdO, mO, FO, bO⟩, ⟨fB, fdB, mB, FB, bB⟩⟩ := DK
  obtain ⟨aA, tf, g_ANSWERS, kA, t_theme, t_part, t_drop, t_undo, t_show, t_long, t_at, t_same, t_uses, t_users, t_list, t_dump⟩ := TB
  obtain ⟨fE, fdE, hE, FE, bE⟩ := d_answers
  have e := hfa.symm.trans hE
  cases e
  refine ⟨fdE, bE, fun base _ _ => ?_⟩
  have m_move_on : MethOk P w K mg base C "move_on" 1 ["self", "definitions", "lines"] (sp_move_on C) := ⟨fO, fdO, TD.cl, mO, ok_move_on FO T TD, bO⟩
  have m_move_back : MethOk P w K mg base C "move_back" 1 ["self"] (sp_move_back C) := ⟨fB, fdB, TD.cl, mB, ok_move_back FB T TD, bB⟩
  have f_Desk : MkOk P w K mg base C "Desk" 1 ["self"] (sp_init C) := ⟨fI, fdI, ⟨mk, mI.at_, mI.fn, kc⟩, gC, ok_init FI T TD, bI⟩
  obtain ⟨a_is_name, fd_is_name, h_is_name, k_is_name, F_is_name, b_is_name⟩ := d_is_name
  have o_is_name := ok_is_name (P := P) (base := base) F_is_name T
  have f_is_name : Callee P w K mg base "is_name" 1 ["word"] (sp_is_name) := ⟨_, _, o_is_name, h_is_name, k_is_name, b_is_name⟩
  obtain ⟨a_read_number, fd_read_number, h_read_number, k_read_number, F_read_number, b_read_number⟩ := d_read_number
  have o_read_number := ok_read_number (P := P) (base := base) F_read_number T
  have f_read_number : Callee P w K mg base "read_number" 1 ["word", "low", "high"] (sp_read_number) := ⟨_, _, o_read_number, h_read_number, k_read_number, b_read_number⟩
  obtain ⟨a_read_note, fd_read_note, h_read_note, k_read_note, F_read_note, b_read_note⟩ := d_read_note
  have o_read_note := ok_read_note (P := P) (base := base) F_read_note T
  have f_read_note : Callee P w K mg base "read_note" 1 ["pitch", "length"] (sp_read_note) := ⟨_, _, o_read_note, h_read_note, k_read_note, b_read_note⟩
  obtain ⟨a_is_rest, fd_is_rest, h_is_rest, k_is_rest, F_is_rest, b_is_rest⟩ := d_is_rest
  have o_is_rest := ok_is_rest (P := P) (base := base) F_is_rest T
  have f_is_rest : Callee P w K mg base "is_rest" 1 ["event"] (sp_is_rest) := ⟨_, _, o_is_rest, h_is_rest, k_is_rest, b_is_rest⟩
  obtain ⟨a_line_length, fd_line_length, h_line_length, k_line_length, F_line_length, b_line_length⟩ := d_line_length
  have o_line_length := ok_line_length (P := P) (base := base) F_line_length T
  have f_line_length : Callee P w K mg base "line_length" 1 ["line"] (sp_line_length) := ⟨_, _, o_line_length, h_line_length, k_line_length, b_line_length⟩
  obtain ⟨a_backward, fd_backward, h_backward, k_backward, F_backward, b_backward⟩ := d_backward
  have o_backward := ok_backward (P := P) (base := base) F_backward T
  have f_backward : Callee P w K mg base "backward" 1 ["line"] (sp_backward) := ⟨_, _, o_backward, h_backward, k_backward, b_backward⟩
  obtain ⟨a_stretched, fd_stretched, h_stretched, k_stretched, F_stretched, b_stretched⟩ := d_stretched
  have o_stretched := ok_stretched (P := P) (base := base) F_stretched T
  have f_stretched : Callee P w K mg base "stretched" 1 ["line", "factor"] (sp_stretched) := ⟨_, _, o_stretched, h_stretched, k_stretched, b_stretched⟩
  obtain ⟨a_shortened, fd_shortened, h_shortened, k_shortened, F_shortened, b_shortened⟩ := d_shortened
  have o_shortened := ok_shortened (P := P) (base := base) F_shortened T
  have f_shortened : Callee P w K mg base "shortened" 1 ["line", "factor"] (sp_shortened) := ⟨_, _, o_shortened, h_shortened, k_shortened, b_shortened⟩
  obtain ⟨a_repeated, fd_repeated, h_repeated, k_repeated, F_repeated, b_repeated⟩ := d_repeated
  have o_repeated := ok_repeated (P := P) (base := base) F_repeated T
  have f_repeated : Callee P w K mg base "repeated" 1 ["line", "times"] (sp_repeated) := ⟨_, _, o_repeated, h_repeated, k_repeated, b_repeated⟩
  obtain ⟨a_find_event, fd_find_event, h_find_event, k_find_event, F_find_event, b_find_event⟩ := d_find_event
  have o_find_event := ok_find_event (P := P) (base := base) F_find_event T
  have f_find_event : Callee P w K mg base "find_event" 1 ["line", "time"] (sp_find_event) := ⟨_, _, o_find_event, h_find_event, k_find_event, b_find_event⟩
  obtain ⟨a_first_difference, fd_first_difference, h_first_difference, k_first_difference, F_first_difference, b_first_difference⟩ := d_first_difference
  have o_first_difference := ok_first_difference (P := P) (base := base) F_first_difference T
  have f_first_difference : Callee P w K mg base "first_difference" 1 ["line", "other"] (sp_first_difference) := ⟨_, _, o_first_difference, h_first_difference, k_first_difference, b_first_difference⟩
  obtain ⟨a_end_item, fd_end_item, h_end_item, k_end_item, F_end_item, b_end_item⟩ := d_end_item
  have o_end_item := ok_end_item (P := P) (base := base) F_end_item T
  have f_end_item : Callee P w K mg base "end_item" 1 ["steps", "waiting"] (sp_end_item) := ⟨_, _, o_end_item, h_end_item, k_end_item, b_end_item⟩
  obtain ⟨a_names_in, fd_names_in, h_names_in, k_names_in, F_names_in, b_names_in⟩ := d_names_in
  have o_names_in := ok_names_in (P := P) (base := base) F_names_in T
  have f_names_in : Callee P w K mg base "names_in" 1 ["steps"] (sp_names_in) := ⟨_, _, o_names_in, h_names_in, k_names_in, b_names_in⟩
  obtain ⟨a_as_item, fd_as_item, h_as_item, k_as_item, F_as_item, b_as_item⟩ := d_as_item
  have o_as_item := ok_as_item (P := P) (base := base) F_as_item T
  have f_as_item : Callee P w K mg base "as_item" 1 ["entry"] (sp_as_item) := ⟨_, _, o_as_item, h_as_item, k_as_item, b_as_item⟩
  obtain ⟨a_operation_text, fd_operation_text, h_operation_text, k_operation_text, F_operation_text, b_operation_text⟩ := d_operation_text
  have o_operation_text := ok_operation_text (P := P) (base := base) F_operation_text T
  have f_operation_text : Callee P w K mg base "operation_text" 1 ["step"] (sp_operation_text) := ⟨_, _, o_operation_text, h_operation_text, k_operation_text, b_operation_text⟩
  obtain ⟨a_make_theme, fd_make_theme, h_make_theme, k_make_theme, F_make_theme, b_make_theme⟩ := d_make_theme
  have o_make_theme := ok_make_theme (P := P) (base := base) F_make_theme T
  have f_make_theme : Callee P w K mg base "make_theme" 1 ["events"] (sp_make_theme) := ⟨_, _, o_make_theme, h_make_theme, k_make_theme, b_make_theme⟩
  obtain ⟨a_names_used, fd_names_used, h_names_used, k_names_used, F_names_used, b_names_used⟩ := d_names_used
  have o_names_used := ok_names_used (P := P) (base := base) F_names_used T
  have f_names_used : Callee P w K mg base "names_used" 1 ["definition"] (sp_names_used) := ⟨_, _, o_names_used, h_names_used, k_names_used, b_names_used⟩
  obtain ⟨a_counted_text, fd_counted_text, h_counted_text, k_counted_text, F_counted_text, b_counted_text⟩ := d_counted_text
  have o_counted_text := ok_counted_text (P := P) (base := base) F_counted_text T
  have f_counted_text : Callee P w K mg base "counted_text" 1 ["words"] (sp_counted_text) := ⟨_, _, o_counted_text, h_counted_text, k_counted_text, b_counted_text⟩
  obtain ⟨a_is_text, fd_is_text, h_is_text, k_is_text, F_is_text, b_is_text⟩ := d_is_text
  have o_is_text := ok_is_text (P := P) (base := base) F_is_text T
  have f_is_text : Callee P w K mg base "is_text" 1 ["command"] (sp_is_text) := ⟨_, _, o_is_text, h_is_text, k_is_text, b_is_text⟩
  obtain ⟨a_text_of, fd_text_of, h_text_of, k_text_of, F_text_of, b_text_of⟩ := d_text_of
  have o_text_of := ok_text_of (P := P) (base := base) F_text_of T
  have f_text_of : Callee P w K mg base "text_of" 1 ["command"] (sp_text_of) := ⟨_, _, o_text_of, h_text_of, k_text_of, b_text_of⟩
  obtain ⟨a_read_event, fd_read_event, h_read_event, k_read_event, F_read_event, b_read_event⟩ := d_read_event
  have o_read_event := ok_read_event (P := P) (base := base) F_read_event T f_read_number f_read_note
  have f_read_event : Callee P w K mg base "read_event" 2 ["word"] (sp_read_event) := ⟨_, _, o_read_event, h_read_event, k_read_event, b_read_event⟩
  obtain ⟨a_is_in_range, fd_is_in_range, h_is_in_range, k_is_in_range, F_is_in_range, b_is_in_range⟩ := d_is_in_range
  have o_is_in_range := ok_is_in_range (P := P) (base := base) F_is_in_range T f_is_rest
  have f_is_in_range : Callee P w K mg base "is_in_range" 2 ["event"] (sp_is_in_range) := ⟨_, _, o_is_in_range, h_is_in_range, k_is_in_range, b_is_in_range⟩
  obtain ⟨a_event_text, fd_event_text, h_event_text, k_event_text, F_event_text, b_event_text⟩ := d_event_text
  have o_event_text := ok_event_text (P := P) (base := base) F_event_text T f_is_rest
  have f_event_text : Callee P w K mg base "event_text" 2 ["event"] (sp_event_text) := ⟨_, _, o_event_text, h_event_text, k_event_text, b_event_text⟩
  obtain ⟨a_moved, fd_moved, h_moved, k_moved, F_moved, b_moved⟩ := d_moved
  have o_moved := ok_moved (P := P) (base := base) F_moved T f_is_rest
  have f_moved : Callee P w K mg base "moved" 2 ["line", "steps"] (sp_moved) := ⟨_, _, o_moved, h_moved, k_moved, b_moved⟩
  obtain ⟨a_inverted, fd_inverted, h_inverted, k_inverted, F_inverted, b_inverted⟩ := d_inverted
  have o_inverted := ok_inverted (P := P) (base := base) F_inverted T f_is_rest
  have f_inverted : Callee P w K mg base "inverted" 2 ["line"] (sp_inverted) := ⟨_, _, o_inverted, h_inverted, k_inverted, b_inverted⟩
  obtain ⟨a_read_numbered, fd_read_numbered, h_read_numbered, k_read_numbered, F_read_numbered, b_read_numbered⟩ := d_read_numbered
  have o_read_numbered := ok_read_numbered (P := P) (base := base) F_read_numbered T f_read_number
  have f_read_numbered : Callee P w K mg base "read_numbered" 2 ["words", "place"] (sp_read_numbered) := ⟨_, _, o_read_numbered, h_read_numbered, k_read_numbered, b_read_numbered⟩
  obtain ⟨a_order_steps, fd_order_steps, h_order_steps, k_order_steps, F_order_steps, b_order_steps⟩ := d_order_steps
  have o_order_steps := ok_order_steps (P := P) (base := base) F_order_steps T f_end_item
  have f_order_steps : Callee P w K mg base "order_steps" 2 ["tokens"] (sp_order_steps) := ⟨_, _, o_order_steps, h_order_steps, k_order_steps, b_order_steps⟩
  obtain ⟨a_make_part, fd_make_part, h_make_part, k_make_part, F_make_part, b_make_part⟩ := d_make_part
  have o_make_part := ok_make_part (P := P) (base := base) F_make_part T f_names_in
  have f_make_part : Callee P w K mg base "make_part" 2 ["steps"] (sp_make_part) := ⟨_, _, o_make_part, h_make_part, k_make_part, b_make_part⟩
  obtain ⟨a_users_of, fd_users_of, h_users_of, k_users_of, F_users_of, b_users_of⟩ := d_users_of
  have o_users_of := ok_users_of (P := P) (base := base) F_users_of T f_names_used
  have f_users_of : Callee P w K mg base "users_of" 2 ["definitions", "name"] (sp_users_of) := ⟨_, _, o_users_of, h_users_of, k_users_of, b_users_of⟩
  obtain ⟨a_reaches, fd_reaches, h_reaches, k_reaches, F_reaches, b_reaches⟩ := d_reaches
  have o_reaches := ok_reaches (P := P) (base := base) F_reaches T f_names_used
  have f_reaches : Callee P w K mg base "reaches" 2 ["definitions", "starts", "goal"] (sp_reaches) := ⟨_, _, o_reaches, h_reaches, k_reaches, b_reaches⟩
  obtain ⟨a_is_ready, fd_is_ready, h_is_ready, k_is_ready, F_is_ready, b_is_ready⟩ := d_is_ready
  have o_is_ready := ok_is_ready (P := P) (base := base) F_is_ready T f_names_used
  have f_is_ready : Callee P w K mg base "is_ready" 2 ["definition", "done"] (sp_is_ready) := ⟨_, _, o_is_ready, h_is_ready, k_is_ready, b_is_ready⟩
  obtain ⟨a_read_argument, fd_read_argument, h_read_argument, k_read_argument, F_read_argument, b_read_argument⟩ := d_read_argument
  have o_read_argument := ok_read_argument (P := P) (base := base) F_read_argument T f_read_number f_is_name
  have f_read_argument : Callee P w K mg base "read_argument" 2 ["kind", "word"] (sp_read_argument) := ⟨_, _, o_read_argument, h_read_argument, k_read_argument, b_read_argument⟩
  obtain ⟨a_answer_undo, fd_answer_undo, h_answer_undo, k_answer_undo, F_answer_undo, b_answer_undo⟩ := d_answer_undo
  have o_answer_undo := ok_answer_undo (P := P) (base := base) F_answer_undo T TD m_move_back
  have f_answer_undo : Callee P w K mg base "answer_undo" 2 ["desk", "command"] ((sp_ans C fun c => c = .undo)) := ⟨_, _, o_answer_undo, h_answer_undo, k_answer_undo, b_answer_undo⟩
  obtain ⟨a_answer_same, fd_answer_same, h_answer_same, k_answer_same, F_answer_same, b_answer_same⟩ := d_answer_same
  have o_answer_same := ok_answer_same (P := P) (base := base) F_answer_same T TD f_first_difference
  have f_answer_same : Callee P w K mg base "answer_same" 2 ["desk", "command"] ((sp_ans C fun c => ∃ n m, c = .same n m)) := ⟨_, _, o_answer_same, h_answer_same, k_answer_same, b_answer_same⟩
  obtain ⟨a_answer_uses, fd_answer_uses, h_answer_uses, k_answer_uses, F_answer_uses, b_answer_uses⟩ := d_answer_uses
  have o_answer_uses := ok_answer_uses (P := P) (base := base) F_answer_uses T TD f_counted_text f_names_used
  have f_answer_uses : Callee P w K mg base "answer_uses" 2 ["desk", "command"] ((sp_ans C fun c => ∃ n, c = .uses n)) := ⟨_, _, o_answer_uses, h_answer_uses, k_answer_uses, b_answer_uses⟩
  obtain ⟨a_size_text, fd_size_text, h_size_text, k_size_text, F_size_text, b_size_text⟩ := d_size_text
  have o_size_text := ok_size_text (P := P) (base := base) F_size_text T f_line_length
  have f_size_text : Callee P w K mg base "size_text" 2 ["line"] (sp_size_text) := ⟨_, _, o_size_text, h_size_text, k_size_text, b_size_text⟩
  obtain ⟨a_is_valid, fd_is_valid, h_is_valid, k_is_valid, F_is_valid, b_is_valid⟩ := d_is_valid
  have o_is_valid := ok_is_valid (P := P) (base := base) F_is_valid T f_is_in_range
  have f_is_valid : Callee P w K mg base "is_valid" 3 ["line"] (sp_is_valid) := ⟨_, _, o_is_valid, h_is_valid, k_is_valid, b_is_valid⟩
  obtain ⟨a_read_token, fd_read_token, h_read_token, k_read_token, F_read_token, b_read_token⟩ := d_read_token
  have o_read_token := ok_read_token (P := P) (base := base) F_read_token T f_read_numbered f_is_name f_read_event f_is_rest
  have f_read_token : Callee P w K mg base "read_token" 3 ["words", "place"] (sp_read_token) := ⟨_, _, o_read_token, h_read_token, k_read_token, b_read_token⟩
  obtain ⟨a_operated, fd_operated, h_operated, k_operated, F_operated, b_operated⟩ := d_operated
  have o_operated := ok_operated (P := P) (base := base) F_operated T f_moved f_inverted f_backward f_stretched f_shortened f_repeated
  have f_operated : Callee P w K mg base "operated" 3 ["operation", "number", "line"] (sp_operated) := ⟨_, _, o_operated, h_operated, k_operated, b_operated⟩
  obtain ⟨a_expression_text, fd_expression_text, h_expression_text, k_expression_text, F_expression_text, b_expression_text⟩ := d_expression_text
  have o_expression_text := ok_expression_text (P := P) (base := base) F_expression_text T f_event_text f_as_item f_operation_text
  have f_expression_text : Callee P w K mg base "expression_text" 3 ["steps"] (sp_expression_text) := ⟨_, _, o_expression_text, h_expression_text, k_expression_text, b_expression_text⟩
  obtain ⟨a_first_ready, fd_first_ready, h_first_ready, k_first_ready, F_first_ready, b_first_ready⟩ := d_first_ready
  have o_first_ready := ok_first_ready (P := P) (base := base) F_first_ready T f_is_ready
  have f_first_ready : Callee P w K mg base "first_ready" 3 ["definitions", "done"] (sp_first_ready) := ⟨_, _, o_first_ready, h_first_ready, k_first_ready, b_first_ready⟩
  obtain ⟨a_read_events, fd_read_events, h_read_events, k_read_events, F_read_events, b_read_events⟩ := d_read_events
  have o_read_events := ok_read_events (P := P) (base := base) F_read_events T f_read_event
  have f_read_events : Callee P w K mg base "read_events" 3 ["words"] (sp_read_events) := ⟨_, _, o_read_events, h_read_events, k_read_events, b_read_events⟩
  obtain ⟨a_answer_drop, fd_answer_drop, h_answer_drop, k_answer_drop, F_answer_drop, b_answer_drop⟩ := d_answer_drop
  have o_answer_drop := ok_answer_drop (P := P) (base := base) F_answer_drop T TD f_users_of m_move_on
  have f_answer_drop : Callee P w K mg base "answer_drop" 3 ["desk", "command"] ((sp_ans C fun c => ∃ n, c = .drop n)) := ⟨_, _, o_answer_drop, h_answer_drop, k_answer_drop, b_answer_drop⟩
  obtain ⟨a_answer_show, fd_answer_show, h_answer_show, k_answer_show, F_answer_show, b_answer_show⟩ := d_answer_show
  have o_answer_show := ok_answer_show (P := P) (base := base) F_answer_show T TD f_counted_text f_event_text
  have f_answer_show : Callee P w K mg base "answer_show" 3 ["desk", "command"] ((sp_ans C fun c => ∃ n, c = .show n)) := ⟨_, _, o_answer_show, h_answer_show, k_answer_show, b_answer_show⟩
  obtain ⟨a_answer_long, fd_answer_long, h_answer_long, k_answer_long, F_answer_long, b_answer_long⟩ := d_answer_long
  have o_answer_long := ok_answer_long (P := P) (base := base) F_answer_long T TD f_size_text
  have f_answer_long : Callee P w K mg base "answer_long" 3 ["desk", "command"] ((sp_ans C fun c => ∃ n, c = .long n)) := ⟨_, _, o_answer_long, h_answer_long, k_answer_long, b_answer_long⟩
  obtain ⟨a_answer_at, fd_answer_at, h_answer_at, k_answer_at, F_answer_at, b_answer_at⟩ := d_answer_at
  have o_answer_at := ok_answer_at (P := P) (base := base) F_answer_at T TD f_find_event f_event_text
  have f_answer_at : Callee P w K mg base "answer_at" 3 ["desk", "command"] ((sp_ans C fun c => ∃ n t, c = .at_ n t)) := ⟨_, _, o_answer_at, h_answer_at, k_answer_at, b_answer_at⟩
  obtain ⟨a_answer_users, fd_answer_users, h_answer_users, k_answer_users, F_answer_users, b_answer_users⟩ := d_answer_users
  have o_answer_users := ok_answer_users (P := P) (base := base) F_answer_users T TD f_counted_text f_users_of
  have f_answer_users : Callee P w K mg base "answer_users" 3 ["desk", "command"] ((sp_ans C fun c => ∃ n, c = .users n)) := ⟨_, _, o_answer_users, h_answer_users, k_answer_users, b_answer_users⟩
  obtain ⟨a_read_tokens, fd_read_tokens, h_read_tokens, k_read_tokens, F_read_tokens, b_read_tokens⟩ := d_read_tokens
  have o_read_tokens := ok_read_tokens (P := P) (base := base) F_read_tokens T f_read_token
  have f_read_tokens : Callee P w K mg base "read_tokens" 4 ["words"] (sp_read_tokens) := ⟨_, _, o_read_tokens, h_read_tokens, k_read_tokens, b_read_tokens⟩
  obtain ⟨a_expression_value, fd_expression_value, h_expression_value, k_expression_value, F_expression_value, b_expression_value⟩ := d_expression_value
  have o_expression_value := ok_expression_value (P := P) (base := base) F_expression_value T f_operated f_is_valid
  have f_expression_value : Callee P w K mg base "expression_value" 4 ["steps", "lines"] (sp_expression_value) := ⟨_, _, o_expression_value, h_expression_value, k_expression_value, b_expression_value⟩
  obtain ⟨a_entry_order, fd_entry_order, h_entry_order, k_entry_order, F_entry_order, b_entry_order⟩ := d_entry_order
  have o_entry_order := ok_entry_order (P := P) (base := base) F_entry_order T f_first_ready
  have f_entry_order : Callee P w K mg base "entry_order" 4 ["definitions"] (sp_entry_order) := ⟨_, _, o_entry_order, h_entry_order, k_entry_order, b_entry_order⟩
  obtain ⟨a_body_text, fd_body_text, h_body_text, k_body_text, F_body_text, b_body_text⟩ := d_body_text
  have o_body_text := ok_body_text (P := P) (base := base) F_body_text T f_event_text f_expression_text
  have f_body_text : Callee P w K mg base "body_text" 4 ["definition"] (sp_body_text) := ⟨_, _, o_body_text, h_body_text, k_body_text, b_body_text⟩
  obtain ⟨a_read_expression, fd_read_expression, h_read_expression, k_read_expression, F_read_expression, b_read_expression⟩ := d_read_expression
  have o_read_expression := ok_read_expression (P := P) (base := base) F_read_expression T f_read_tokens f_order_steps
  have f_read_expression : Callee P w K mg base "read_expression" 5 ["words"] (sp_read_expression) := ⟨_, _, o_read_expression, h_read_expression, k_read_expression, b_read_expression⟩
  obtain ⟨a_definition_line, fd_definition_line, h_definition_line, k_definition_line, F_definition_line, b_definition_line⟩ := d_definition_line
  have o_definition_line := ok_definition_line (P := P) (base := base) F_definition_line T f_expression_value
  have f_definition_line : Callee P w K mg base "definition_line" 5 ["definition", "lines"] (sp_definition_line) := ⟨_, _, o_definition_line, h_definition_line, k_definition_line, b_definition_line⟩
  obtain ⟨a_definition_text, fd_definition_text, h_definition_text, k_definition_text, F_definition_text, b_definition_text⟩ := d_definition_text
  have o_definition_text := ok_definition_text (P := P) (base := base) F_definition_text T f_body_text
  have f_definition_text : Callee P w K mg base "definition_text" 5 ["name", "definition"] (sp_definition_text) := ⟨_, _, o_definition_text, h_definition_text, k_definition_text, b_definition_text⟩
  obtain ⟨a_lines_of, fd_lines_of, h_lines_of, k_lines_of, F_lines_of, b_lines_of⟩ := d_lines_of
  have o_lines_of := ok_lines_of (P := P) (base := base) F_lines_of T f_entry_order f_definition_line
  have f_lines_of : Callee P w K mg base "lines_of" 6 ["definitions"] (sp_lines_of) := ⟨_, _, o_lines_of, h_lines_of, k_lines_of, b_lines_of⟩
  obtain ⟨a_read_change, fd_read_change, h_read_change, k_read_change, F_read_change, b_read_change⟩ := d_read_change
  have o_read_change := ok_read_change (P := P) (base := base) F_read_change T f_is_name f_read_events f_read_expression
  have f_read_change : Callee P w K mg base "read_change" 6 ["words"] (sp_read_change) := ⟨_, _, o_read_change, h_read_change, k_read_change, b_read_change⟩
  obtain ⟨a_listing_text, fd_listing_text, h_listing_text, k_listing_text, F_listing_text, b_listing_text⟩ := d_listing_text
  have o_listing_text := ok_listing_text (P := P) (base := base) F_listing_text T f_definition_text
  have f_listing_text : Callee P w K mg base "listing_text" 6 ["definitions", "names"] (sp_listing_text) := ⟨_, _, o_listing_text, h_listing_text, k_listing_text, b_listing_text⟩
  obtain ⟨a_read_command, fd_read_command, h_read_command, k_read_command, F_read_command, b_read_command⟩ := d_read_command
  have o_read_command := ok_read_command (P := P) (base := base) F_read_command T f_read_change f_read_argument
  have f_read_command : Callee P w K mg base "read_command" 7 ["text"] (sp_read_command) := ⟨_, _, o_read_command, h_read_command, k_read_command, b_read_command⟩
  obtain ⟨a_define, fd_define, h_define, k_define, F_define, b_define⟩ := d_define
  have o_define := ok_define (P := P) (base := base) F_define T TD f_lines_of f_size_text m_move_on
  have f_define : Callee P w K mg base "define" 7 ["desk", "name", "definition"] ((sp_define C)) := ⟨_, _, o_define, h_define, k_define, b_define⟩
  obtain ⟨a_answer_list, fd_answer_list, h_answer_list, k_answer_list, F_answer_list, b_answer_list⟩ := d_answer_list
  have o_answer_list := ok_answer_list (P := P) (base := base) F_answer_list T TD f_listing_text
  have f_answer_list : Callee P w K mg base "answer_list" 7 ["desk", "command"] ((sp_ans C fun c => c = .list)) := ⟨_, _, o_answer_list, h_answer_list, k_answer_list, b_answer_list⟩
  obtain ⟨a_answer_dump, fd_answer_dump, h_answer_dump, k_answer_dump, F_answer_dump, b_answer_dump⟩ := d_answer_dump
  have o_answer_dump := ok_answer_dump (P := P) (base := base) F_answer_dump T TD f_listing_text f_entry_order
  have f_answer_dump : Callee P w K mg base "answer_dump" 7 ["desk", "command"] ((sp_ans C fun c => c = .dump)) := ⟨_, _, o_answer_dump, h_answer_dump, k_answer_dump, b_answer_dump⟩
  obtain ⟨a_answer_theme, fd_answer_theme, h_answer_theme, k_answer_theme, F_answer_theme, b_answer_theme⟩ := d_answer_theme
  have o_answer_theme := ok_answer_theme (P := P) (base := base) F_answer_theme T TD f_define f_make_theme
  have f_answer_theme : Callee P w K mg base "answer_theme" 8 ["desk", "command"] ((sp_ans C fun c => ∃ n l, c = .theme n l)) := ⟨_, _, o_answer_theme, h_answer_theme, k_answer_theme, b_answer_theme⟩
  obtain ⟨a_answer_part, fd_answer_part, h_answer_part, k_answer_part, F_answer_part, b_answer_part⟩ := d_answer_part
  have o_answer_part := ok_answer_part (P := P) (base := base) F_answer_part T TD f_define f_make_part f_names_used f_reaches
  have f_answer_part : Callee P w K mg base "answer_part" 8 ["desk", "command"] ((sp_ans C fun c => ∃ n e, c = .part n e)) := ⟨_, _, o_answer_part, h_answer_part, k_answer_part, b_answer_part⟩
  have TA : TabOk P w K mg base C aA 8 := ⟨tf, kA, fun c => by
    cases c with
    | theme n l => exact ⟨(fun c => ∃ n l, c = .theme n l), ⟨n, l, rfl⟩, held_of h_answer_theme t_theme o_answer_theme (by decide) k_answer_theme b_answer_theme⟩
    | part n e => exact ⟨(fun c => ∃ n e, c = .part n e), ⟨n, e, rfl⟩, held_of h_answer_part t_part o_answer_part (by decide) k_answer_part b_answer_part⟩
    | drop n => exact ⟨(fun c => ∃ n, c = .drop n), ⟨n, rfl⟩, held_of h_answer_drop t_drop o_answer_drop (by decide) k_answer_drop b_answer_drop⟩
    | undo  => exact ⟨(fun c => c = .undo), rfl, held_of h_answer_undo t_undo o_answer_undo (by decide) k_answer_undo b_answer_undo⟩
    | «show» n => exact ⟨(fun c => ∃ n, c = .show n), ⟨n, rfl⟩, held_of h_answer_show t_show o_answer_show (by decide) k_answer_show b_answer_show⟩
    | long n => exact ⟨(fun c => ∃ n, c = .long n), ⟨n, rfl⟩, held_of h_answer_long t_long o_answer_long (by decide) k_answer_long b_answer_long⟩
    | at_ n t => exact ⟨(fun c => ∃ n t, c = .at_ n t), ⟨n, t, rfl⟩, held_of h_answer_at t_at o_answer_at (by decide) k_answer_at b_answer_at⟩
    | same n m => exact ⟨(fun c => ∃ n m, c = .same n m), ⟨n, m, rfl⟩, held_of h_answer_same t_same o_answer_same (by decide) k_answer_same b_answer_same⟩
    | uses n => exact ⟨(fun c => ∃ n, c = .uses n), ⟨n, rfl⟩, held_of h_answer_uses t_uses o_answer_uses (by decide) k_answer_uses b_answer_uses⟩
    | users n => exact ⟨(fun c => ∃ n, c = .users n), ⟨n, rfl⟩, held_of h_answer_users t_users o_answer_users (by decide) k_answer_users b_answer_users⟩
    | list  => exact ⟨(fun c => c = .list), rfl, held_of h_answer_list t_list o_answer_list (by decide) k_answer_list b_answer_list⟩
    | dump  => exact ⟨(fun c => c = .dump), rfl, held_of h_answer_dump t_dump o_answer_dump (by decide) k_answer_dump b_answer_dump⟩
    ⟩
  obtain ⟨a_answer_text, fd_answer_text, h_answer_text, k_answer_text, F_answer_text, b_answer_text⟩ := d_answer_text
  have o_answer_text := ok_answer_text (P := P) (base := base) F_answer_text T f_read_command g_ANSWERS TA
  have f_answer_text : Callee P w K mg base "answer_text" 9 ["desk", "text"] ((sp_answer_text C)) := ⟨_, _, o_answer_text, h_answer_text, k_answer_text, b_answer_text⟩
  obtain ⟨a_say, fd_say, h_say, k_say, F_say, b_say⟩ := d_say
  have o_say := ok_say (P := P) (base := base) F_say T f_is_text f_text_of f_answer_text
  have f_say : Callee P w K mg base "say" 10 ["desk", "command"] ((sp_say C)) := ⟨_, _, o_say, h_say, k_say, b_say⟩
  exact ok_answers FE T f_Desk f_say
end
end Pbd
open PySem PySem.W PyProof.Rows
set_option maxRecDepth 100000 in
set_option maxHeartbeats 0 in
theorem PySem.Challenge.cw_piecebookdesk_s01_answers_holds : PySem.Challenge.rw_piecebookdesk_s01_answers.Holds := by
  w_on; k_headS; (case hw => exact ⟨[.list [.int 1, .int 0, .int 0]], by decide +kernel, by decide +kernel⟩)
  k_fillS
  refine L2.walk_specK (r := PySem.Challenge.rw_piecebookdesk_s01_answers) (k := 11) (CX := L2.CX0) (ps := ["calls"]) (sp := Pbd.sp_answers) (by decide +kernel) rfl rfl ⟨rfl, by decide, by decide⟩ (fun w h Y => PySem.W.kIn_of Y) ?F ?S (fun _ _ _ _ z => z)
  case F =>
    intro w mg fa h Y KX G hmg
    refine' Pbd.walk_all hmg ?d_is_name ?d_read_number ?d_read_event ?d_read_note ?d_is_rest ?d_is_in_range ?d_event_text ?d_is_valid ?d_line_length ?d_moved ?d_inverted ?d_backward ?d_stretched ?d_shortened ?d_repeated ?d_find_event ?d_first_difference ?d_read_expression ?d_read_tokens ?d_read_token ?d_read_numbered ?d_order_steps ?d_end_item ?d_names_in ?d_expression_value ?d_operated ?d_expression_text ?d_as_item ?d_operation_text ?d_make_theme ?d_make_part ?d_names_used ?d_users_of ?d_reaches ?d_entry_order ?d_first_ready ?d_is_ready ?d_lines_of ?d_definition_line ?d_definition_text ?d_body_text ?d_read_command ?d_read_argument ?d_read_change ?d_read_events ?d_answer_theme ?d_answer_part ?d_define ?d_answer_drop ?d_answer_undo ?d_answer_show ?d_answer_long ?d_answer_at ?d_answer_same ?d_answer_uses ?d_answer_users ?d_answer_list ?d_answer_dump ?d_size_text ?d_counted_text ?d_listing_text ?d_answer_text ?d_say ?d_is_text ?d_text_of ?d_answers ?TX ?DK ?TB
    case d_is_name => (refine' Pbd.has_is_name KX G ?a ?l ?c ?k; (case a => k_is); (case l => k_is); (case c => k_is); (case k => k_is))
    case d_read_number => (refine' Pbd.has_read_number KX G ?a ?l ?c ?k; (case a => k_is); (case l => k_is); (case c => k_is); (case k => k_is))
    case d_read_event => (refine' Pbd.has_read_event KX G ?a ?l ?c ?k; (case a => k_is); (case l => k_is); (case c => k_is); (case k => k_is))
    case d_read_note => (refine' Pbd.has_read_note KX G ?a ?l ?c ?k; (case a => k_is); (case l => k_is); (case c => k_is); (case k => k_is))
    case d_is_rest => (refine' Pbd.has_is_rest KX G ?a ?l ?c ?k; (case a => k_is); (case l => k_is); (case c => k_is); (case k => k_is))
    case d_is_in_range => (refine' Pbd.has_is_in_range KX G ?a ?l ?c ?k; (case a => k_is); (case l => k_is); (case c => k_is); (case k => k_is))
    case d_event_text => (refine' Pbd.has_event_text KX G ?a ?l ?c ?k; (case a => k_is); (case l => k_is); (case c => k_is); (case k => k_is))
    case d_is_valid => (refine' Pbd.has_is_valid KX G ?a ?l ?c ?k; (case a => k_is); (case l => k_is); (case c => k_is); (case k => k_is))
    case d_line_length => (refine' Pbd.has_line_length KX G ?a ?l ?c ?k; (case a => k_is); (case l => k_is); (case c => k_is); (case k => k_is))
    case d_moved => (refine' Pbd.has_moved KX G ?a ?l ?c ?k; (case a => k_is); (case l => k_is); (case c => k_is); (case k => k_is))
    case d_inverted => (refine' Pbd.has_inverted KX G ?a ?l ?c ?k; (case a => k_is); (case l => k_is); (case c => k_is); (case k => k_is))
    case d_backward => (refine' Pbd.has_backward KX G ?a ?l ?c ?k; (case a => k_is); (case l => k_is); (case c => k_is); (case k => k_is))
    case d_stretched => (refine' Pbd.has_stretched KX G ?a ?l ?c ?k; (case a => k_is); (case l => k_is); (case c => k_is); (case k => k_is))
    case d_shortened => (refine' Pbd.has_shortened KX G ?a ?l ?c ?k; (case a => k_is); (case l => k_is); (case c => k_is); (case k => k_is))
    case d_repeated => (refine' Pbd.has_repeated KX G ?a ?l ?c ?k; (case a => k_is); (case l => k_is); (case c => k_is); (case k => k_is))
    case d_find_event => (refine' Pbd.has_find_event KX G ?a ?l ?c ?k; (case a => k_is); (case l => k_is); (case c => k_is); (case k => k_is))
    case d_first_difference => (refine' Pbd.has_first_difference KX G ?a ?l ?c ?k; (case a => k_is); (case l => k_is); (case c => k_is); (case k => k_is))
    case d_read_expression => (refine' Pbd.has_read_expression KX G ?a ?l ?c ?k; (case a => k_is); (case l => k_is); (case c => k_is); (case k => k_is))
    case d_read_tokens => (refine' Pbd.has_read_tokens KX G ?a ?l ?c ?k; (case a => k_is); (case l => k_is); (case c => k_is); (case k => k_is))
    case d_read_token => (refine' Pbd.has_read_token KX G ?a ?l ?c ?k; (case a => k_is); (case l => k_is); (case c => k_is); (case k => k_is))
    case d_read_numbered => (refine' Pbd.has_read_numbered KX G ?a ?l ?c ?k; (case a => k_is); (case l => k_is); (case c => k_is); (case k => k_is))
    case d_order_steps => (refine' Pbd.has_order_steps KX G ?a ?l ?c ?k; (case a => k_is); (case l => k_is); (case c => k_is); (case k => k_is))
    case d_end_item => (refine' Pbd.has_end_item KX G ?a ?l ?c ?k; (case a => k_is); (case l => k_is); (case c => k_is); (case k => k_is))
    case d_names_in => (refine' Pbd.has_names_in KX G ?a ?l ?c ?k; (case a => k_is); (case l => k_is); (case c => k_is); (case k => k_is))
    case d_expression_value => (refine' Pbd.has_expression_value KX G ?a ?l ?c ?k; (case a => k_is); (case l => k_is); (case c => k_is); (case k => k_is))
    case d_operated => (refine' Pbd.has_operated KX G ?a ?l ?c ?k; (case a => k_is); (case l => k_is); (case c => k_is); (case k => k_is))
    case d_expression_text => (refine' Pbd.has_expression_text KX G ?a ?l ?c ?k; (case a => k_is); (case l => k_is); (case c => k_is); (case k => k_is))
    case d_as_item => (refine' Pbd.has_as_item KX G ?a ?l ?c ?k; (case a => k_is); (case l => k_is); (case c => k_is); (case k => k_is))
    case d_operation_text => (refine' Pbd.has_operation_text KX G ?a ?l ?c ?k; (case a => k_is); (case l => k_is); (case c => k_is); (case k => k_is))
    case d_make_theme => (refine' Pbd.has_make_theme KX G ?a ?l ?c ?k; (case a => k_is); (case l => k_is); (case c => k_is); (case k => k_is))
    case d_make_part => (refine' Pbd.has_make_part KX G ?a ?l ?c ?k; (case a => k_is); (case l => k_is); (case c => k_is); (case k => k_is))
    case d_names_used => (refine' Pbd.has_names_used KX G ?a ?l ?c ?k; (case a => k_is); (case l => k_is); (case c => k_is); (case k => k_is))
    case d_users_of => (refine' Pbd.has_users_of KX G ?a ?l ?c ?k; (case a => k_is); (case l => k_is); (case c => k_is); (case k => k_is))
    case d_reaches => (refine' Pbd.has_reaches KX G ?a ?l ?c ?k; (case a => k_is); (case l => k_is); (case c => k_is); (case k => k_is))
    case d_entry_order => (refine' Pbd.has_entry_order KX G ?a ?l ?c ?k; (case a => k_is); (case l => k_is); (case c => k_is); (case k => k_is))
    case d_first_ready => (refine' Pbd.has_first_ready KX G ?a ?l ?c ?k; (case a => k_is); (case l => k_is); (case c => k_is); (case k => k_is))
    case d_is_ready => (refine' Pbd.has_is_ready KX G ?a ?l ?c ?k; (case a => k_is); (case l => k_is); (case c => k_is); (case k => k_is))
    case d_lines_of => (refine' Pbd.has_lines_of KX G ?a ?l ?c ?k; (case a => k_is); (case l => k_is); (case c => k_is); (case k => k_is))
    case d_definition_line => (refine' Pbd.has_definition_line KX G ?a ?l ?c ?k; (case a => k_is); (case l => k_is); (case c => k_is); (case k => k_is))
    case d_definition_text => (refine' Pbd.has_definition_text KX G ?a ?l ?c ?k; (case a => k_is); (case l => k_is); (case c => k_is); (case k => k_is))
    case d_body_text => (refine' Pbd.has_body_text KX G ?a ?l ?c ?k; (case a => k_is); (case l => k_is); (case c => k_is); (case k => k_is))
    case d_read_command => (refine' Pbd.has_read_command KX G ?a ?l ?c ?k; (case a => k_is); (case l => k_is); (case c => k_is); (case k => k_is))
    case d_read_argument => (refine' Pbd.has_read_argument KX G ?a ?l ?c ?k; (case a => k_is); (case l => k_is); (case c => k_is); (case k => k_is))
    case d_read_change => (refine' Pbd.has_read_change KX G ?a ?l ?c ?k; (case a => k_is); (case l => k_is); (case c => k_is); (case k => k_is))
    case d_read_events => (refine' Pbd.has_read_events KX G ?a ?l ?c ?k; (case a => k_is); (case l => k_is); (case c => k_is); (case k => k_is))
    case d_answer_theme => (refine' Pbd.has_answer_theme KX G ?a ?l ?c ?k; (case a => k_is); (case l => k_is); (case c => k_is); (case k => k_is))
    case d_answer_part => (refine' Pbd.has_answer_part KX G ?a ?l ?c ?k; (case a => k_is); (case l => k_is); (case c => k_is); (case k => k_is))
    case d_define => (refine' Pbd.has_define KX G ?a ?l ?c ?k; (case a => k_is); (case l => k_is); (case c => k_is); (case k => k_is))
    case d_answer_drop => (refine' Pbd.has_answer_drop KX G ?a ?l ?c ?k; (case a => k_is); (case l => k_is); (case c => k_is); (case k => k_is))
    case d_answer_undo => (refine' Pbd.has_answer_undo KX G ?a ?l ?c ?k; (case a => k_is); (case l => k_is); (case c => k_is); (case k => k_is))
    case d_answer_show => (refine' Pbd.has_answer_show KX G ?a ?l ?c ?k; (case a => k_is); (case l => k_is); (case c => k_is); (case k => k_is))
    case d_answer_long => (refine' Pbd.has_answer_long KX G ?a ?l ?c ?k; (case a => k_is); (case l => k_is); (case c => k_is); (case k => k_is))
    case d_answer_at => (refine' Pbd.has_answer_at KX G ?a ?l ?c ?k; (case a => k_is); (case l => k_is); (case c => k_is); (case k => k_is))
    case d_answer_same => (refine' Pbd.has_answer_same KX G ?a ?l ?c ?k; (case a => k_is); (case l => k_is); (case c => k_is); (case k => k_is))
    case d_answer_uses => (refine' Pbd.has_answer_uses KX G ?a ?l ?c ?k; (case a => k_is); (case l => k_is); (case c => k_is); (case k => k_is))
    case d_answer_users => (refine' Pbd.has_answer_users KX G ?a ?l ?c ?k; (case a => k_is); (case l => k_is); (case c => k_is); (case k => k_is))
    case d_answer_list => (refine' Pbd.has_answer_list KX G ?a ?l ?c ?k; (case a => k_is); (case l => k_is); (case c => k_is); (case k => k_is))
    case d_answer_dump => (refine' Pbd.has_answer_dump KX G ?a ?l ?c ?k; (case a => k_is); (case l => k_is); (case c => k_is); (case k => k_is))
    case d_size_text => (refine' Pbd.has_size_text KX G ?a ?l ?c ?k; (case a => k_is); (case l => k_is); (case c => k_is); (case k => k_is))
    case d_counted_text => (refine' Pbd.has_counted_text KX G ?a ?l ?c ?k; (case a => k_is); (case l => k_is); (case c => k_is); (case k => k_is))
    case d_listing_text => (refine' Pbd.has_listing_text KX G ?a ?l ?c ?k; (case a => k_is); (case l => k_is); (case c => k_is); (case k => k_is))
    case d_answer_text => (refine' Pbd.has_answer_text KX G ?a ?l ?c ?k; (case a => k_is); (case l => k_is); (case c => k_is); (case k => k_is))
    case d_say => (refine' Pbd.has_say KX G ?a ?l ?c ?k; (case a => k_is); (case l => k_is); (case c => k_is); (case k => k_is))
    case d_is_text => (refine' Pbd.has_is_text KX G ?a ?l ?c ?k; (case a => k_is); (case l => k_is); (case c => k_is); (case k => k_is))
    case d_text_of => (refine' Pbd.has_text_of KX G ?a ?l ?c ?k; (case a => k_is); (case l => k_is); (case c => k_is); (case k => k_is))
    case d_answers => (refine' Pbd.has_answers KX G ?a ?l ?c ?k; (case a => k_is); (case l => k_is); (case c => k_is); (case k => k_is))
    case DK =>
      refine' Pbd.desk_mk KX G ?a ?pg ?hd ?po ?sa ?n1 ?n2 ?n3 ?mk ?kc ?m1 ?m2 ?m3
      (case a => k_is); (case pg => k_is); (case hd => k_is); (case po => k_is); (case sa => k_is); (case n1 => k_is); (case n2 => k_is); (case n3 => k_is); (case mk => k_is); (case kc => k_is)
      case m1 => (refine' Pbd.hasm_init ?a ?i ?l ?c ?k; (case a => k_is); (case i => k_is); (case l => k_is); (case c => k_is); (case k => k_is))
      case m2 => (refine' Pbd.hasm_move_on ?a ?i ?l ?c ?k; (case a => k_is); (case i => k_is); (case l => k_is); (case c => k_is); (case k => k_is))
      case m3 => (refine' Pbd.hasm_move_back ?a ?i ?l ?c ?k; (case a => k_is); (case i => k_is); (case l => k_is); (case c => k_is); (case k => k_is))
    case TB =>
      refine' Pbd.table_mk KX G ?e ?l ?ks ?sy ?pp ?n0 ?n1 ?n2 ?n3 ?n4 ?n5 ?n6 ?n7 ?n8 ?n9 ?n10 ?n11
      (case e => k_is); (case l => k_is); (case ks => k_keys); (case sy => rfl); (case pp => (repeat (first | exact .nil | refine .cons (Pbd.tabrel rfl rfl) ?_)))
      (case n0 => k_is); (case n1 => k_is); (case n2 => k_is); (case n3 => k_is); (case n4 => k_is); (case n5 => k_is); (case n6 => k_is); (case n7 => k_is); (case n8 => k_is); (case n9 => k_is); (case n10 => k_is); (case n11 => k_is)
    case TX =>
      refine' Pbd.txt_mk ?b_len ?b_int ?b_str ?b_list ?b_dict ?b_abs ?b_min ?b_sum ?b_all ?b_any ?b_ord ?b_zip ?b_enumerate ?b_range ?b_reversed ?g_STEP_LETTERS ?g_WIDEST_ALTERATION ?g_HIGHEST_STEP ?g_LONGEST_EVENT ?g_MOST_LETTERS ?g_MOST_DIGITS ?g_MOST_EVENTS ?g_DEEPEST_NESTING ?g_MOST_THEME_EVENTS ?g_LATEST_TIME ?g_MOST_NAMES ?g_MOST_UNDONE ?g_MOST_BYTES ?g_LOWEST_BYTE ?g_HIGHEST_BYTE ?g_COMMAND_SIGNS ?g_OTHER_SIGN ?tM ?tR ?tP ?tS ?tN ?tB
      case b_len => (refine' PySem.W.mg_none_of KX G ?a; (case a => k_is))
      case b_int => (refine' PySem.W.mg_none_of KX G ?a; (case a => k_is))
      case b_str => (refine' PySem.W.mg_none_of KX G ?a; (case a => k_is))
      case b_list => (refine' PySem.W.mg_none_of KX G ?a; (case a => k_is))
      case b_dict => (refine' PySem.W.mg_none_of KX G ?a; (case a => k_is))
      case b_abs => (refine' PySem.W.mg_none_of KX G ?a; (case a => k_is))
      case b_min => (refine' PySem.W.mg_none_of KX G ?a; (case a => k_is))
      case b_sum => (refine' PySem.W.mg_none_of KX G ?a; (case a => k_is))
      case b_all => (refine' PySem.W.mg_none_of KX G ?a; (case a => k_is))
      case b_any => (refine' PySem.W.mg_none_of KX G ?a; (case a => k_is))
      case b_ord => (refine' PySem.W.mg_none_of KX G ?a; (case a => k_is))
      case b_zip => (refine' PySem.W.mg_none_of KX G ?a; (case a => k_is))
      case b_enumerate => (refine' PySem.W.mg_none_of KX G ?a; (case a => k_is))
      case b_range => (refine' PySem.W.mg_none_of KX G ?a; (case a => k_is))
      case b_reversed => (refine' PySem.W.mg_none_of KX G ?a; (case a => k_is))
      case g_STEP_LETTERS => (refine' Pbd.gs_mk KX G ?a; (case a => k_is))
      case g_WIDEST_ALTERATION => (refine' Pbd.gi_mk KX G ?a; (case a => k_is))
      case g_HIGHEST_STEP => (refine' Pbd.gi_mk KX G ?a; (case a => k_is))
      case g_LONGEST_EVENT => (refine' Pbd.gi_mk KX G ?a; (case a => k_is))
      case g_MOST_LETTERS => (refine' Pbd.gi_mk KX G ?a; (case a => k_is))
      case g_MOST_DIGITS => (refine' Pbd.gi_mk KX G ?a; (case a => k_is))
      case g_MOST_EVENTS => (refine' Pbd.gi_mk KX G ?a; (case a => k_is))
      case g_DEEPEST_NESTING => (refine' Pbd.gi_mk KX G ?a; (case a => k_is))
      case g_MOST_THEME_EVENTS => (refine' Pbd.gi_mk KX G ?a; (case a => k_is))
      case g_LATEST_TIME => (refine' Pbd.gi_mk KX G ?a; (case a => k_is))
      case g_MOST_NAMES => (refine' Pbd.gi_mk KX G ?a; (case a => k_is))
      case g_MOST_UNDONE => (refine' Pbd.gi_mk KX G ?a; (case a => k_is))
      case g_MOST_BYTES => (refine' Pbd.gi_mk KX G ?a; (case a => k_is))
      case g_LOWEST_BYTE => (refine' Pbd.gi_mk KX G ?a; (case a => k_is))
      case g_HIGHEST_BYTE => (refine' Pbd.gi_mk KX G ?a; (case a => k_is))
      case g_COMMAND_SIGNS => (refine' Pbd.gs_mk KX G ?a; (case a => k_is))
      case g_OTHER_SIGN => (refine' Pbd.gs_mk KX G ?a; (case a => k_is))
      case tM => (refine' Pbd.tup_mk KX G ?e ?l ?z ?v; (case e => k_is); (case l => k_is); (case z => decide); (case v => (repeat (first | exact .nil | refine .cons ⟨_, rfl⟩ ?_))))
      case tR => (refine' Pbd.tup_mk KX G ?e ?l ?z ?v; (case e => k_is); (case l => k_is); (case z => decide); (case v => (repeat (first | exact .nil | refine .cons ⟨_, rfl⟩ ?_))))
      case tP => (refine' Pbd.tup_mk KX G ?e ?l ?z ?v; (case e => k_is); (case l => k_is); (case z => decide); (case v => (repeat (first | exact .nil | refine .cons ⟨_, rfl⟩ ?_))))
      case tS => (refine' Pbd.tup_mk KX G ?e ?l ?z ?v; (case e => k_is); (case l => k_is); (case z => decide); (case v => (repeat (first | exact .nil | refine .cons ⟨_, rfl⟩ ?_))))
      case tN =>
        refine' Pbd.ranges_mk KX G ?e ?l ?ks ?sy ?pp ?q1 ?q2 ?q3 ?q4 ?q5
        (case e => k_is); (case l => k_is); (case ks => k_keys); (case sy => rfl); (case pp => (repeat (first | exact .nil | refine .cons (Pbd.tabrel rfl rfl) ?_)))
        case q1 => (refine' Pbd.sqT_mk ?l ?z ?v; (case l => k_is); (case z => decide); (case v => (repeat (first | exact .nil | refine .cons ⟨_, rfl⟩ ?_))))
        case q2 => (refine' Pbd.sqT_mk ?l ?z ?v; (case l => k_is); (case z => decide); (case v => (repeat (first | exact .nil | refine .cons ⟨_, rfl⟩ ?_))))
        case q3 => (refine' Pbd.sqT_mk ?l ?z ?v; (case l => k_is); (case z => decide); (case v => (repeat (first | exact .nil | refine .cons ⟨_, rfl⟩ ?_))))
        case q4 => (refine' Pbd.sqT_mk ?l ?z ?v; (case l => k_is); (case z => decide); (case v => (repeat (first | exact .nil | refine .cons ⟨_, rfl⟩ ?_))))
        case q5 => (refine' Pbd.sqT_mk ?l ?z ?v; (case l => k_is); (case z => decide); (case v => (repeat (first | exact .nil | refine .cons ⟨_, rfl⟩ ?_))))
      case tB =>
        refine' Pbd.behind_mk KX G ?e ?l ?ks ?sy ?pp ?q0 ?q1 ?q2 ?q3 ?q4 ?q5 ?q6 ?q7 ?q8 ?q9
        (case e => k_is); (case l => k_is); (case ks => k_keys); (case sy => rfl); (case pp => (repeat (first | exact .nil | refine .cons (Pbd.tabrel rfl rfl) ?_)))
        case q0 => (refine' Pbd.sqT_mk ?l ?z ?v; (case l => k_is); (case z => decide); (case v => (repeat (first | exact .nil | refine .cons ⟨_, rfl⟩ ?_))))
        case q1 => (refine' Pbd.sqT_mk ?l ?z ?v; (case l => k_is); (case z => decide); (case v => (repeat (first | exact .nil | refine .cons ⟨_, rfl⟩ ?_))))
        case q2 => (refine' Pbd.sqT_mk ?l ?z ?v; (case l => k_is); (case z => decide); (case v => (repeat (first | exact .nil | refine .cons ⟨_, rfl⟩ ?_))))
        case q3 => (refine' Pbd.sqT_mk ?l ?z ?v; (case l => k_is); (case z => decide); (case v => (repeat (first | exact .nil | refine .cons ⟨_, rfl⟩ ?_))))
        case q4 => (refine' Pbd.sqT_mk ?l ?z ?v; (case l => k_is); (case z => decide); (case v => (repeat (first | exact .nil | refine .cons ⟨_, rfl⟩ ?_))))
        case q5 => (refine' Pbd.sqT_mk ?l ?z ?v; (case l => k_is); (case z => decide); (case v => (repeat (first | exact .nil | refine .cons ⟨_, rfl⟩ ?_))))
        case q6 => (refine' Pbd.sqT_mk ?l ?z ?v; (case l => k_is); (case z => decide); (case v => (repeat (first | exact .nil | refine .cons ⟨_, rfl⟩ ?_))))
        case q7 => (refine' Pbd.sqT_mk ?l ?z ?v; (case l => k_is); (case z => decide); (case v => (repeat (first | exact .nil | refine .cons ⟨_, rfl⟩ ?_))))
        case q8 => (refine' Pbd.sqT_mk ?l ?z ?v; (case l => k_is); (case z => decide); (case v => (repeat (first | exact .nil | refine .cons ⟨_, rfl⟩ ?_))))
        case q9 => (refine' Pbd.sqT_mk ?l ?z ?v; (case l => k_is); (case z => decide); (case v => (repeat (first | exact .nil | refine .cons ⟨_, rfl⟩ ?_))))
  case S =>
    intro K H xs a hO hwi hask hx
    cases hx with
    | cons h1 h2 =>
      cases h2
      cases h1 with
      | lst hs ha =>
        have e := L2.ints_dw a.1 _ ha
        subst e
        obtain ⟨r, hT, hout, hlen⟩ := Pb.answers_outs (l := a.1) hask
        refine ⟨_, a.1, r, rfl, hs, hT, hlen, fun H' o ho => ?_⟩
        have e2 : Codec.app PySem.Challenge.rw_piecebookdesk_s01_answers.args PySem.Challenge.rw_piecebookdesk_s01_answers.f a = Pb.outs Cp12.start r := hout
        rw [e2]
        exact .lst (L2.SqL.of ho) (L2.dw_ints _)
