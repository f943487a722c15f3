import PyProof.Rows.All
import Wide.All
import OpenK.AllK
import Wide.FinOn
import Open.SpecLaws
import KE.OsGo
import HandS.ForSpec
import HandS.Comp
import HandS.Text
import HandS.Dict
import HandS.Iter
import HandS.ExcInit
import HandS.ClsMeth
import PySem.Challenge.RW_strictask_s03_tokens
import HandS.ExcSuper
import HandS.ExcCtx
import HandS.HotCalls
import HandS.WordsExc
import KE.HD4
import HandS.HeadHook1
import HandS.HeadHook2
import HandS.Spec
import HandS.ExcOwn
import OpenK.KQuick
set_option Elab.async false
set_option linter.all false
set_option maxRecDepth 100000
noncomputable section
section
set_option maxHeartbeats 2000000
/-! Pure mathematics of the tokens: what the specification's reading of one token is, in lengths. -/
namespace Lx
open Dbm Si22

/-! ### lists -/
theorem drop_len_takeWhile {α : Type} (p : α → Bool) (l : List α) : l.drop (l.takeWhile p).length = l.dropWhile p := by
  induction l with
  | nil => rfl
  | cons a l ih =>
    by_cases h : p a
    · simp [List.takeWhile_cons, List.dropWhile_cons, h, ih]
    · simp [List.takeWhile_cons, List.dropWhile_cons, h]
theorem take_len_takeWhile {α : Type} (p : α → Bool) (l : List α) : l.take (l.takeWhile p).length = l.takeWhile p := by
  induction l with
  | nil => rfl
  | cons a l ih =>
    by_cases h : p a
    · simp [List.takeWhile_cons, h, ih]
    · simp [List.takeWhile_cons, h]
theorem len_takeWhile_le {α : Type} (p : α → Bool) (l : List α) : (l.takeWhile p).length ≤ l.length := by
  induction l with
  | nil => simp
  | cons a l ih =>
    by_cases h : p a
    · simp [List.takeWhile_cons, h]; omega
    · simp [List.takeWhile_cons, h]

/-! ### what stands between tokens -/
/-- how many bytes the line has, its feed not counted -/
def lineLen (b : Bytes) : Nat := (b.takeWhile fun x => x != 10).length
theorem lineLen_nil : lineLen [] = 0 := rfl
theorem lineLen_cons (c : UInt8) (r : Bytes) : lineLen (c :: r) = if c = 10 then 0 else lineLen r + 1 := by
  unfold lineLen
  by_cases h : c = 10
  · simp [List.takeWhile_cons, h]
  · simp [List.takeWhile_cons, h]
theorem lineLen_le (b : Bytes) : lineLen b ≤ b.length := len_takeWhile_le _ b
/-- whether two signs begin a remark -/
def remark : Bytes → Bool
  | c :: d :: _ => c == 45 && d == 45
  | _ => false
theorem remark_eq (c : UInt8) (r : Bytes) : (c = 45 ∧ r.head? = some 45) ↔ remark (c :: r) = true := by
  cases r with
  | nil => simp [remark]
  | cons d r => simp [remark]
theorem lineLen_remark {c : UInt8} {r : Bytes} (h : remark (c :: r) = true) : 1 ≤ lineLen (c :: r) := by
  rw [lineLen_cons]
  have := (remark_eq c r).mpr h
  rw [this.1]
  simp
/-- how many bytes blanks and remarks take -/
def gap (b : Bytes) : Nat := match b with
  | [] => 0
  | c :: r =>
    if isBlank c = true then gap r + 1
    else if _h : remark (c :: r) = true then lineLen (c :: r) + gap ((c :: r).drop (lineLen (c :: r)))
    else 0
termination_by b.length
decreasing_by
  · simp
  · have := lineLen_remark _h
    have := lineLen_le (c :: r)
    simp only [List.length_drop, List.length_cons] at *
    omega
theorem gap_nil : gap [] = 0 := by rw [gap]
theorem gap_blank {c : UInt8} {r : Bytes} (h : isBlank c = true) : gap (c :: r) = gap r + 1 := by
  rw [gap, if_pos h]
theorem gap_remark {c : UInt8} {r : Bytes} (h : isBlank c = false) (k : remark (c :: r) = true) : gap (c :: r) = lineLen (c :: r) + gap ((c :: r).drop (lineLen (c :: r))) := by
  rw [gap, if_neg (by simp [h]), dif_pos k]
theorem gap_none {c : UInt8} {r : Bytes} (h : isBlank c = false) (k : remark (c :: r) = false) : gap (c :: r) = 0 := by
  rw [gap, if_neg (by simp [h]), dif_neg (by simp [k])]
theorem gap_le (b : Bytes) : gap b ≤ b.length := by
  induction b using gap.induct with
  | case1 => rw [gap_nil]; simp
  | case2 c r h ih => rw [gap_blank h]; simp; omega
  | case3 c r h k ih =>
    rw [gap_remark (by simpa using h) k]
    have := lineLen_le (c :: r)
    simp only [List.length_drop] at ih
    omega
  | case4 c r h k => rw [gap_none (by simpa using h) (by simpa using k)]; omega
/-- behind what stands between tokens nothing of that kind stands -/
def solid : Bytes → Bool
  | [] => true
  | c :: r => !isBlank c && !remark (c :: r)
theorem solid_gap (b : Bytes) : solid (b.drop (gap b)) = true := by
  induction b using gap.induct with
  | case1 => rw [gap_nil]; rfl
  | case2 c r h ih => rw [gap_blank h]; simpa using ih
  | case3 c r h k ih =>
    rw [gap_remark (by simpa using h) k]
    rw [← List.drop_drop]
    exact ih
  | case4 c r h k =>
    rw [gap_none (by simpa using h) (by simpa using k)]
    simp only [List.drop_zero, solid]
    simp [h, k]
/-- the specification's reading of a token, begun at once -/
theorem nextTok_gap : ∀ (f : Nat) (at_ : Nat) (b : Bytes), b.length < f → nextTok f at_ b = nextTok 1 (at_ + gap b) (b.drop (gap b)) := by
  intro f
  induction f with
  | zero => intro at_ b h; omega
  | succ f ih =>
    intro at_ b hf
    cases b with
    | nil => rw [gap_nil]; rfl
    | cons c r =>
      cases hb : isBlank c with
      | true =>
        rw [gap_blank hb]
        show nextTok (f + 1) at_ (c :: r) = nextTok 1 (at_ + (gap r + 1)) (r.drop (gap r))
        rw [show at_ + (gap r + 1) = at_ + 1 + gap r by omega]
        rw [← ih (at_ + 1) r (by simp at hf; omega)]
        rw [nextTok]
        simp only [hb, if_true]
      | false =>
        cases hk : remark (c :: r) with
        | true =>
          rw [gap_remark hb hk]
          have hl := lineLen_remark hk
          have hl2 := lineLen_le (c :: r)
          rw [← List.drop_drop, ← Nat.add_assoc]
          rw [← ih (at_ + lineLen (c :: r)) ((c :: r).drop (lineLen (c :: r))) (by simp only [List.length_drop]; omega)]
          rw [nextTok]
          simp only [hb, Bool.false_eq_true, if_false]
          rw [if_pos ((remark_eq c r).mpr hk)]
          rfl
        | false =>
          rw [gap_none hb hk]
          simp only [List.drop_zero, Nat.add_zero]
          have e : ¬ (c = 45 ∧ r.head? = some 45) := fun z => by
            rw [(remark_eq c r).mp z] at hk; cases hk
          rw [nextTok, nextTok]
          simp only [hb, Bool.false_eq_true, if_false, if_neg e]

/-! ### between two signs -/
/-- how many bytes stand behind an opening sign, the closing one the last of them -/
def qlen (q : UInt8) : Bytes → Option Nat
  | [] => none
  | [c] => if c = q then some 1 else none
  | c :: d :: r => if c = q then (if d = q then (qlen q r).map (· + 2) else some 1) else (qlen q (d :: r)).map (· + 1)
/-- one sign for each two -/
def undouble (q : UInt8) : Bytes → Bytes
  | [] => []
  | [c] => [c]
  | c :: d :: r => if c = q then c :: undouble q r else c :: undouble q (d :: r)
theorem qlen_pos {q : UInt8} : ∀ {b : Bytes} {n : Nat}, qlen q b = some n → 1 ≤ n ∧ n ≤ b.length
  | [], n, h => by simp [qlen] at h
  | [c], n, h => by
    unfold qlen at h
    by_cases e : c = q
    · simp [e] at h; subst h; simp
    · simp [e] at h
  | c :: d :: r, n, h => by
    unfold qlen at h
    by_cases e : c = q
    · by_cases e2 : d = q
      · rw [if_pos e, if_pos e2] at h
        cases h3 : qlen q r with
        | none => rw [h3] at h; cases h
        | some m =>
          rw [h3] at h
          have := qlen_pos h3
          cases h
          simp only [List.length_cons]
          omega
      · rw [if_pos e, if_neg e2] at h
        cases h
        simp
    · rw [if_neg e] at h
      cases h3 : qlen q (d :: r) with
      | none => rw [h3] at h; cases h
      | some m =>
        rw [h3] at h
        have := qlen_pos h3
        cases h
        simp only [List.length_cons] at *
        omega
theorem between_qlen (q : UInt8) : ∀ (b : Bytes), between q b = (qlen q b).map fun n => (undouble q (b.take (n - 1)), b.drop n)
  | [] => rfl
  | [c] => by
    unfold between qlen
    by_cases e : c = q
    · simp [e, undouble]
    · simp [e]
  | c :: d :: r => by
    unfold between qlen
    by_cases e : c = q
    · by_cases e2 : d = q
      · rw [if_pos ⟨e, e2⟩, if_pos e, if_pos e2, between_qlen q r]
        cases h3 : qlen q r with
        | none => rfl
        | some m =>
          have hm := qlen_pos h3
          simp only [Option.map_some]
          congr 1
          rw [show m + 2 - 1 = (m - 1) + 2 by omega]
          show (q :: undouble q (r.take (m - 1)), r.drop m) = (undouble q (c :: d :: r.take (m - 1)), r.drop m)
          rw [undouble, if_pos e, e]
      · rw [if_neg (fun z => e2 z.2), if_pos e, if_pos e, if_neg e2]
        rfl
    · rw [if_neg (fun z => e z.1), if_neg e, if_neg e, between_qlen q (d :: r)]
      cases h3 : qlen q (d :: r) with
      | none => rfl
      | some m =>
        have hm := qlen_pos h3
        simp only [Option.map_some]
        congr 1
        obtain ⟨k, rfl⟩ : ∃ k, m = k + 1 := ⟨m - 1, by omega⟩
        show (c :: undouble q ((d :: r).take k), (d :: r).drop (k + 1)) = (undouble q (c :: (d :: r).take k), (d :: r).drop (k + 1))
        cases k with
        | zero => rfl
        | succ k =>
          show (c :: undouble q (d :: r.take k), _) = (undouble q (c :: d :: r.take k), _)
          rw [undouble.eq_3, if_neg e]

/-! ### one token -/
def isHead (p : UInt8 → Bool) (b : Bytes) : Bool := (b.head?.map p).getD false
theorem undouble_none {q : UInt8} : ∀ {b : Bytes}, q ∉ b → undouble q b = b
  | [], _ => rfl
  | [c], _ => rfl
  | c :: d :: r, h => by
    rw [undouble, if_neg (fun e => h (by simp [e]))]
    rw [undouble_none (b := d :: r) (fun z => h (List.mem_cons_of_mem _ z))]
theorem undouble_mem {q : UInt8} : ∀ {b : Bytes}, q ∈ b → q ∈ undouble q b
  | [], h => h
  | [c], h => h
  | c :: d :: r, h => by
    unfold undouble
    by_cases e : c = q
    · rw [if_pos e]; simp [e]
    · rw [if_neg e]
      refine List.mem_cons_of_mem _ (undouble_mem ?_)
      cases h with
      | head => exact absurd rfl e
      | tail _ h => exact h
/-- what an x and a sign begin; r stands behind the sign -/
def bytesLen (r : Bytes) : Option Nat := match qlen 39 r with
  | none => none
  | some n => if (n - 1) % 2 = 1 ∨ 8192 < n - 1 then none else if (r.take (n - 1)).all isHex = true then some (n + 2) else none
theorem hex_undouble (raw : Bytes) : ((undouble 39 raw).all isHex = true ∧ (undouble 39 raw).length % 2 = 0 ∧ (undouble 39 raw).length ≤ 2 * LONG) ↔ (¬ (raw.length % 2 = 1 ∨ 8192 < raw.length) ∧ raw.all isHex = true) := by
  by_cases h : (39 : UInt8) ∈ raw
  · constructor
    · rintro ⟨a, -, -⟩
      have := List.all_eq_true.mp a 39 (undouble_mem h)
      exact absurd this (by decide)
    · rintro ⟨-, a⟩
      have := List.all_eq_true.mp a 39 h
      exact absurd this (by decide)
  · rw [undouble_none h]
    unfold LONG
    constructor
    · rintro ⟨a, b, c⟩; exact ⟨by omega, a⟩
    · rintro ⟨a, b⟩; exact ⟨b, by omega, by omega⟩
def wordLen (b : Bytes) : Nat := (b.takeWhile isWordByte).length
def quotedLen (r : Bytes) : Option Nat := match qlen 34 r with
  | none => none
  | some n => let content := undouble 34 (r.take (n - 1))
    if content.length = 0 ∨ 64 < content.length ∨ (content.all fun x => decide (32 ≤ x.toNat)) = false ∨ utf8 content = false then none else some (n + 1)
def textLen (r : Bytes) : Option Nat := match qlen 39 r with
  | none => none
  | some n => let content := undouble 39 (r.take (n - 1))
    if 4096 < content.length ∨ utf8 content = false then none else some (n + 1)
def digitsLen (b : Bytes) : Nat := (b.takeWhile isDigit).length
/-- r stands behind the sign -/
def givenLen (r : Bytes) : Option Nat :=
  let d := digitsLen r
  if ¬ (1 ≤ d ∧ d ≤ 2) ∨ r.head? = some 48 ∨ isHead isWordByte (r.drop d) = true then none
  else if 64 < digitsOf (r.take d) then none else some (d + 1)
/-- an e with its digits -/
def expLen (b : Bytes) : Nat := match b with
  | c :: q => if c = 69 ∨ c = 101 then
      (let s : Nat := if q.head? = some 43 ∨ q.head? = some 45 then 1 else 0
       let e := digitsLen (q.drop s)
       if e = 0 then 0 else 1 + s + e)
    else 0
  | [] => 0
/-- digits, perhaps a point and digits -/
def mantLen (b : Bytes) : Nat :=
  let d := digitsLen b
  let r := b.drop d
  match r with
  | c :: q => if c = 46 ∧ digitsLen q ≠ 0 then d + 1 + digitsLen q else d
  | [] => d
def numLen (b : Bytes) : Nat := let m := mantLen b
  m + expLen (b.drop m)
def numberLen (b : Bytes) : Option Nat := if isHead isWordByte (b.drop (numLen b)) = true then none else some (numLen b)
def signLen (b : Bytes) : Option Nat := match b with
  | [] => none
  | c :: r => if twoSigns.contains (b.take 2) = true then some 2 else if oneSigns.contains c = true then some 1 else none
/-- the kind and the length of the token that begins here -/
def scan (b : Bytes) : Option (Nat × Nat) := match b with
  | [] => none
  | c :: r =>
    if (c = 120 ∨ c = 88) ∧ r.head? = some 39 then (bytesLen (r.drop 1)).map fun n => (4, n)
    else if isLetter c = true then (if 64 < wordLen (c :: r) then none else some (0, wordLen (c :: r)))
    else if c = 34 then (quotedLen r).map fun n => (1, n)
    else if c = 39 then (textLen r).map fun n => (3, n)
    else if c = 36 then (givenLen r).map fun n => (5, n)
    else if isDigit c = true then (numberLen (c :: r)).map fun n => (2, n)
    else (signLen (c :: r)).map fun n => (6, n)

theorem small_e (c : UInt8) : small c = 101 ↔ (c = 69 ∨ c = 101) := by
  have : ∀ x : UInt8, (small x = 101) = (x = 69 ∨ x = 101) := by
    intro x
    have h : ∀ n : Fin 256, (small (UInt8.ofNat n.val) = 101) ↔ (UInt8.ofNat n.val = 69 ∨ UInt8.ofNat n.val = 101) := by decide +kernel
    have e := h ⟨x.toNat, x.toNat_lt⟩
    simp only [UInt8.ofNat_toNat] at e
    exact propext e
  exact iff_of_eq (this c)
theorem digitsLen_nil {b : Bytes} : digitsLen b = 0 ↔ b.takeWhile isDigit = [] := by
  unfold digitsLen
  exact List.length_eq_zero_iff
theorem digitsLen_le (b : Bytes) : digitsLen b ≤ b.length := len_takeWhile_le _ b
theorem expPart (d r : Bytes) : (match r with
    | c :: q => if small c = 101 then
        (let s : Bytes := match q with
          | 43 :: _ => [43]
          | 45 :: _ => [45]
          | _ => []
        let e := (q.drop s.length).takeWhile isDigit
        if e = [] then (d, r) else (d ++ (101 :: (s ++ e)), q.drop (s.length + e.length))) else (d, r)
    | [] => (d, r)).2 = r.drop (expLen r) := by
  cases r with
  | nil => rfl
  | cons c q =>
    simp only [expLen]
    by_cases h : c = 69 ∨ c = 101
    · rw [if_pos ((small_e c).mpr h), if_pos h]
      have key : ∀ (s : Bytes) (n : Nat), s.length = n → (if (q.drop s.length).takeWhile isDigit = [] then (d, c :: q) else (d ++ (101 :: (s ++ (q.drop s.length).takeWhile isDigit)), q.drop (s.length + ((q.drop s.length).takeWhile isDigit).length))).2 = (c :: q).drop (if digitsLen (q.drop n) = 0 then 0 else 1 + n + digitsLen (q.drop n)) := by
        intro s n hs
        subst hs
        by_cases z : (q.drop s.length).takeWhile isDigit = []
        · rw [if_pos z, if_pos (digitsLen_nil.mpr z)]; rfl
        · rw [if_neg z, if_neg (fun y => z (digitsLen_nil.mp y))]
          show q.drop _ = _
          rw [show 1 + s.length + digitsLen (q.drop s.length) = (s.length + digitsLen (q.drop s.length)) + 1 by omega]
          rfl
      split
      · rename_i t; exact key [43] 1 rfl
      · rename_i t; exact key [45] 1 rfl
      · rename_i h1 h2
        have : ¬ (q.head? = some 43 ∨ q.head? = some 45) := by
          cases q with
          | nil => simp
          | cons x t =>
            simp only [List.head?_cons, Option.some.injEq]
            rintro (rfl | rfl)
            · exact h1 t rfl
            · exact h2 t rfl
        rw [if_neg this]
        exact key [] 0 rfl
    · rw [if_neg (fun z => h ((small_e c).mp z)), if_neg h]; rfl
theorem numberOf_rest (b : Bytes) : (numberOf b).2 = b.drop (numLen b) := by
  unfold numberOf numLen
  simp only []
  have hm : ∀ x : Bytes × Bytes, x = (match b.drop (b.takeWhile isDigit).length with
      | 46 :: q => let e := q.takeWhile isDigit
        if e = [] then (b.takeWhile isDigit, b.drop (b.takeWhile isDigit).length) else (b.takeWhile isDigit ++ (46 :: e), q.drop e.length)
      | _ => (b.takeWhile isDigit, b.drop (b.takeWhile isDigit).length)) → x.2 = b.drop (mantLen b) := by
    intro x hx
    subst hx
    unfold mantLen
    simp only []
    show _ = List.drop (match b.drop (digitsLen b) with | c :: q => if c = 46 ∧ digitsLen q ≠ 0 then digitsLen b + 1 + digitsLen q else digitsLen b | [] => digitsLen b) b
    show (match b.drop (digitsLen b) with
      | 46 :: q => let e := q.takeWhile isDigit
        if e = [] then (b.takeWhile isDigit, b.drop (digitsLen b)) else (b.takeWhile isDigit ++ (46 :: e), q.drop e.length)
      | _ => (b.takeWhile isDigit, b.drop (digitsLen b))).2 = _
    cases hr : b.drop (digitsLen b) with
    | nil => simp only []; exact hr.symm
    | cons c q =>
      simp only []
      by_cases hc : c = 46
      · subst hc
        simp only [true_and]
        by_cases z : q.takeWhile isDigit = []
        · rw [if_pos z, if_neg (by rw [digitsLen_nil.mpr z]; simp)]
          exact hr.symm
        · rw [if_neg z, if_pos (fun y => z (digitsLen_nil.mp y))]
          show q.drop (digitsLen q) = _
          rw [show digitsLen b + 1 + digitsLen q = digitsLen b + (1 + digitsLen q) by omega, ← List.drop_drop, hr]
          rw [Nat.add_comm 1]
          rfl
      · split
        · rename_i q' heq
          simp at heq
          exact absurd heq.1 hc
        · rw [if_neg (fun y => hc y.1)]
          exact hr.symm
  have h2 := hm _ rfl
  rw [← List.drop_drop, ← h2]
  exact expPart _ _

/-- what the specification says of one token where the scan says r -/
def Told (at_ : Nat) (b : Bytes) : Option (Nat × Nat) → Prop
  | none => nextTok 1 at_ b = .error at_
  | some (k, n) => 1 ≤ n ∧ n ≤ b.length ∧ ∃ t : Tok, nextTok 1 at_ b = .ok (t, b.drop n, at_ + n) ∧ t.place = at_ ∧ sortNo t.sort = k ∧ t.sort ≠ .finish
theorem natOf_small (d : Bytes) (hd : ∀ x ∈ d, isDigit x = true) : (∃ n, natOf d = some n ∧ 1 ≤ n ∧ n ≤ 64) ↔ (1 ≤ d.length ∧ d.length ≤ 2 ∧ d.head? ≠ some 48 ∧ digitsOf d ≤ 64) := by
  have up : ∀ (l : Bytes) (a : Nat), a * 10 ^ l.length ≤ l.foldl (fun n c => 10 * n + (c.toNat - 48)) a := by
    intro l
    induction l with
    | nil => intro a; simp
    | cons c r ih =>
      intro a
      simp only [List.foldl_cons, List.length_cons]
      refine Nat.le_trans ?_ (ih _)
      rw [Nat.pow_succ]
      calc a * (10 ^ r.length * 10) = (10 * a) * 10 ^ r.length := by rw [Nat.mul_comm (10 ^ r.length), ← Nat.mul_assoc, Nat.mul_comm a]
        _ ≤ _ := Nat.mul_le_mul_right _ (by omega)
  cases d with
  | nil => simp [natOf]
  | cons c r =>
    have hc : 48 ≤ c.toNat ∧ c.toNat ≤ 57 := by
      have := hd c (by simp)
      simpa [isDigit] using this
    have c48 : c = 48 ↔ c.toNat = 48 := by
      constructor
      · intro e; rw [e]; rfl
      · intro e; apply UInt8.toNat_inj.mp; rw [e]; rfl
    simp only [List.head?_cons, Option.some.injEq, List.length_cons, ne_eq]
    have big : c.toNat ≠ 48 → 10 ^ r.length ≤ digitsOf (c :: r) := by
      intro h
      unfold digitsOf
      simp only [List.foldl_cons]
      refine Nat.le_trans ?_ (up r _)
      have : 1 ≤ 10 * 0 + (c.toNat - 48) := by omega
      calc 10 ^ r.length = 1 * 10 ^ r.length := by omega
        _ ≤ _ := Nat.mul_le_mul_right _ this
    constructor
    · rintro ⟨n, h1, h2, h3⟩
      unfold natOf at h1
      by_cases z : (c :: r) = [] ∨ 39 < (c :: r).length ∨ (1 < (c :: r).length ∧ (c :: r).head? = some 48)
      · rw [if_pos z] at h1; cases h1
      · rw [if_neg z] at h1
        have e : digitsOf (c :: r) = n := Option.some.inj h1
        have ne : ¬ c = 48 := by
          intro e48
          cases r with
          | nil =>
            subst e48
            have : digitsOf [48] = 0 := by decide
            omega
          | cons x t =>
            exact z (.inr (.inr ⟨by simp, by simp [e48]⟩))
        have hb := big (fun y => ne (c48.mpr y))
        have : r.length < 2 := by
          rcases Nat.lt_or_ge r.length 2 with h | h
          · exact h
          · have : 10 ^ 2 ≤ 10 ^ r.length := Nat.pow_le_pow_right (by decide) h
            omega
        exact ⟨by omega, by omega, ne, by omega⟩
    · rintro ⟨-, h2, h3, h4⟩
      have hb := big (fun y => h3 (c48.mpr y))
      refine ⟨digitsOf (c :: r), ?_, ?_, h4⟩
      · unfold natOf
        rw [if_neg ?_]
        · rfl
        · rintro (z | z | z)
          · cases z
          · simp at z; omega
          · have := z.2
            simp at this
            exact h3 this
      · have := Nat.pow_pos (n := r.length) (show 0 < 10 by decide)
        omega
theorem isHead_eq (b : Bytes) : ((b.head?.map isWordByte).getD false) = isHead isWordByte b := rfl
theorem drop1_len (r rest : Bytes) (k : Nat) (h : rest = r.drop k) (hk : k ≤ r.length) : r.length - rest.length = k := by
  rw [h, List.length_drop]; omega
theorem takeWhile_all (p : UInt8 → Bool) : ∀ l : Bytes, ∀ x ∈ l.takeWhile p, p x = true
  | [], x, h => by simp at h
  | a :: l, x, h => by
    by_cases e : p a
    · simp only [List.takeWhile_cons, e, if_true] at h
      cases h with
      | head => exact e
      | tail _ h => exact takeWhile_all p l x h
    · simp [List.takeWhile_cons, e] at h
theorem wordLen_le (b : Bytes) : wordLen b ≤ b.length := len_takeWhile_le _ b
theorem expLen_le (b : Bytes) : expLen b ≤ b.length := by
  cases b with
  | nil => simp [expLen]
  | cons c q =>
    simp only [expLen]
    have key : ∀ n : Nat, n ≤ q.length ∨ n ≤ 1 → (if digitsLen (q.drop n) = 0 then 0 else 1 + n + digitsLen (q.drop n)) ≤ (c :: q).length := by
      intro n hn
      have h1 := digitsLen_le (q.drop n)
      rw [List.length_drop] at h1
      rw [List.length_cons]
      split <;> omega
    by_cases h : c = 69 ∨ c = 101
    · rw [if_pos h]
      by_cases h2 : q.head? = some 43 ∨ q.head? = some 45
      · rw [if_pos h2]; exact key 1 (.inr (by omega))
      · rw [if_neg h2]; exact key 0 (.inr (by omega))
    · rw [if_neg h]; omega
theorem mantLen_le (b : Bytes) : digitsLen b ≤ mantLen b ∧ mantLen b ≤ b.length := by
  unfold mantLen
  simp only []
  have h := digitsLen_le b
  cases hr : b.drop (digitsLen b) with
  | nil => exact ⟨Nat.le_refl _, h⟩
  | cons c q =>
    simp only []
    have hl : (b.drop (digitsLen b)).length = q.length + 1 := by rw [hr]; rfl
    rw [List.length_drop] at hl
    have := digitsLen_le q
    split
    · omega
    · omega
theorem numLen_le (b : Bytes) : digitsLen b ≤ numLen b ∧ numLen b ≤ b.length := by
  unfold numLen
  simp only []
  have h := mantLen_le b
  have h2 := expLen_le (b.drop (mantLen b))
  rw [List.length_drop] at h2
  omega
theorem digitsLen_pos {c : UInt8} {r : Bytes} (h : isDigit c = true) : 1 ≤ digitsLen (c :: r) := by
  unfold digitsLen
  simp [List.takeWhile_cons, h]
theorem scan_ok (at_ : Nat) (c : UInt8) (r : Bytes) (h : solid (c :: r) = true) : Told at_ (c :: r) (scan (c :: r)) := by
  have hb : isBlank c = false := by
    simp only [solid, Bool.and_eq_true] at h
    simpa using h.1
  have hk : ¬ (c = 45 ∧ r.head? = some 45) := fun z => by
    have := (remark_eq c r).mp z
    simp only [solid, Bool.and_eq_true] at h
    rw [this] at h
    simp at h
  have go : nextTok 1 at_ (c :: r) = nextTok 1 at_ (c :: r) := rfl
  unfold Told scan
  rw [nextTok]
  simp only [hb, Bool.false_eq_true, if_false, if_neg hk]
  by_cases q1 : (c = 120 ∨ c = 88) ∧ r.head? = some 39
  · rw [if_pos q1, if_pos q1, between_qlen]
    unfold bytesLen
    cases hq : qlen 39 (r.drop 1) with
    | none => rfl
    | some n =>
      have hn := qlen_pos hq
      simp only [Option.map_some]
      have hl : ((r.drop 1).take (n - 1)).length = n - 1 := by rw [List.length_take]; omega
      have he := hex_undouble ((r.drop 1).take (n - 1))
      rw [hl] at he
      by_cases w : (undouble 39 ((r.drop 1).take (n - 1))).all isHex = true ∧ (undouble 39 ((r.drop 1).take (n - 1))).length % 2 = 0 ∧ (undouble 39 ((r.drop 1).take (n - 1))).length ≤ 2 * LONG
      · have w2 := he.mp w
        rw [if_pos w, if_neg w2.1, if_pos w2.2]
        simp only [Option.map_some]
        have rl : r.length = (r.drop 1).length + 1 := by
          cases r with
          | nil => simp at q1
          | cons a t => simp
        refine ⟨by omega, by simp only [List.length_cons]; omega, ⟨.bytes, pairs (undouble 39 ((r.drop 1).take (n - 1))), at_⟩, ?_, rfl, rfl, by simp⟩
        congr 2
        · refine Prod.ext ?_ ?_
          · show (r.drop 1).drop n = (c :: r).drop (n + 2)
            rw [List.drop_drop, Nat.add_comm]
            rfl
          · show at_ + ((c :: r).length - ((r.drop 1).drop n).length) = at_ + (n + 2)
            rw [List.length_drop, List.length_cons]
            omega
      · rw [if_neg w]
        by_cases w3 : (n - 1) % 2 = 1 ∨ 8192 < n - 1
        · rw [if_pos w3]; rfl
        · rw [if_neg w3, if_neg (fun y => w (he.mpr ⟨w3, y⟩))]; rfl
  · rw [if_neg q1, if_neg q1]
    by_cases q2 : isLetter c = true
    · rw [if_pos q2, if_pos q2]
      show (match (if 64 < wordLen (c :: r) then none else some (0, wordLen (c :: r))) with
        | none => (if NAME < wordLen (c :: r) then _ else _) = _
        | some (k, n) => _)
      by_cases w : 64 < wordLen (c :: r)
      · rw [if_pos w]
        show (if NAME < wordLen (c :: r) then _ else _) = _
        rw [if_pos (show NAME < wordLen (c :: r) from w)]
      · rw [if_neg w]
        have pos : 1 ≤ wordLen (c :: r) := by
          unfold wordLen
          have : isWordByte c = true := by simp [isWordByte, q2]
          simp [List.takeWhile_cons, this]
        have le := wordLen_le (c :: r)
        refine ⟨pos, le, ⟨.word, ((c :: r).takeWhile isWordByte).map small, at_⟩, ?_, rfl, rfl, by simp⟩
        show (if NAME < wordLen (c :: r) then _ else _) = _
        rw [if_neg (show ¬ NAME < wordLen (c :: r) from w)]
        show Except.ok _ = Except.ok _
        congr 2
        refine Prod.ext rfl ?_
        show at_ + ((c :: r).length - ((c :: r).drop (wordLen (c :: r))).length) = at_ + wordLen (c :: r)
        rw [List.length_drop]
        omega
    · rw [if_neg q2, if_neg q2]
      by_cases q3 : c = 34
      · rw [if_pos q3, if_pos q3, between_qlen]
        unfold quotedLen
        cases hq : qlen 34 r with
        | none => rfl
        | some n =>
          have hn := qlen_pos hq
          simp only [Option.map_some]
          generalize undouble 34 (r.take (n - 1)) = u
          by_cases w : u ≠ [] ∧ u.length ≤ NAME ∧ utf8 u = true ∧ (u.all fun x => decide (32 ≤ x.toNat)) = true
          · have w2 : ¬ (u.length = 0 ∨ 64 < u.length ∨ (u.all fun x => decide (32 ≤ x.toNat)) = false ∨ utf8 u = false) := by
              obtain ⟨a1, a2, a3, a4⟩ := w
              unfold NAME at a2
              rintro (z | z | z | z)
              · exact a1 (List.length_eq_zero_iff.mp z)
              · omega
              · rw [a4] at z; cases z
              · rw [a3] at z; cases z
            rw [if_pos w, if_neg w2]
            refine ⟨by omega, by simp only [List.length_cons]; omega, ⟨.quoted, u, at_⟩, ?_, rfl, rfl, by simp⟩
            congr 2
            refine Prod.ext rfl ?_
            show at_ + ((c :: r).length - (r.drop n).length) = at_ + (n + 1)
            rw [List.length_drop, List.length_cons]
            omega
          · have w2 : (u.length = 0 ∨ 64 < u.length ∨ (u.all fun x => decide (32 ≤ x.toNat)) = false ∨ utf8 u = false) := by
              apply Classical.byContradiction
              intro z
              apply w
              unfold NAME
              refine ⟨fun e => z (.inl (by rw [e]; rfl)), ?_, ?_, ?_⟩
              · rcases Nat.lt_or_ge 64 u.length with y | y
                · exact absurd (.inr (.inl y)) z
                · exact y
              · cases y : utf8 u with
                | true => rfl
                | false => exact absurd (.inr (.inr (.inr y))) z
              · cases y : (u.all fun x => decide (32 ≤ x.toNat)) with
                | true => rfl
                | false => exact absurd (.inr (.inr (.inl y))) z
            rw [if_neg w, if_pos w2]
            rfl
      · rw [if_neg q3, if_neg q3]
        by_cases q4 : c = 39
        · rw [if_pos q4, if_pos q4, between_qlen]
          unfold textLen
          cases hq : qlen 39 r with
          | none => rfl
          | some n =>
            have hn := qlen_pos hq
            simp only [Option.map_some]
            generalize undouble 39 (r.take (n - 1)) = u
            by_cases w : u.length ≤ LONG ∧ utf8 u = true
            · have w2 : ¬ (4096 < u.length ∨ utf8 u = false) := by
                obtain ⟨a1, a2⟩ := w
                unfold LONG at a1
                rintro (z | z)
                · omega
                · rw [a2] at z; cases z
              rw [if_pos w, if_neg w2]
              refine ⟨by omega, by simp only [List.length_cons]; omega, ⟨.text, u, at_⟩, ?_, rfl, rfl, by simp⟩
              congr 2
              refine Prod.ext rfl ?_
              show at_ + ((c :: r).length - (r.drop n).length) = at_ + (n + 1)
              rw [List.length_drop, List.length_cons]
              omega
            · have w2 : (4096 < u.length ∨ utf8 u = false) := by
                unfold LONG at w
                cases y : utf8 u with
                | true =>
                  rw [y] at w
                  simp at w
                  exact .inl w
                | false => exact .inr rfl
              rw [if_neg w, if_pos w2]
              rfl
        · rw [if_neg q4, if_neg q4]
          by_cases q5 : c = 36
          · rw [if_pos q5, if_pos q5]
            unfold givenLen
            have tk : r.take (digitsLen r) = r.takeWhile isDigit := take_len_takeWhile _ _
            have sm := natOf_small (r.takeWhile isDigit) (takeWhile_all isDigit r)
            have le := digitsLen_le r
            have hh : 1 ≤ digitsLen r → (r.takeWhile isDigit).head? = r.head? := by
              intro z
              cases r with
              | nil => rfl
              | cons a t =>
                unfold digitsLen at z
                by_cases y : isDigit a = true
                · simp [List.takeWhile_cons, y]
                · simp [List.takeWhile_cons, y] at z
            simp only [tk]
            by_cases w : ∃ n, natOf (r.takeWhile isDigit) = some n ∧ 1 ≤ n ∧ n ≤ 64
            · have w2 := sm.mp w
              obtain ⟨n, e1, e2, e3⟩ := w
              have hl : (r.takeWhile isDigit).length = digitsLen r := rfl
              rw [hl] at w2
              rw [e1]
              simp only [hl]
              have w4 := w2.2.2.1
              rw [hh w2.1] at w4
              by_cases y : isHead isWordByte (r.drop (digitsLen r)) = true
              · rw [if_pos (.inr (.inr y))]
                show (if _ then _ else _) = _
                rw [if_neg]
                rintro ⟨-, -, z⟩
                rw [isHead_eq, y] at z
                cases z
              · rw [if_neg (by rintro (z | z | z); exact z ⟨w2.1, w2.2.1⟩; exact w4 z; exact y z), if_neg (Nat.not_lt.mpr w2.2.2.2)]
                simp only [Option.map_some]
                refine ⟨by omega, by simp only [List.length_cons]; omega, ⟨.given, r.takeWhile isDigit, at_⟩, ?_, rfl, rfl, by simp⟩
                rw [if_pos ⟨e2, e3, by rw [isHead_eq]; simpa using y⟩]
                congr 2
                refine Prod.ext rfl ?_
                show at_ + ((c :: r).length - (r.drop (digitsLen r)).length) = at_ + (digitsLen r + 1)
                rw [List.length_drop, List.length_cons]
                omega
            · have w2 : ¬ (1 ≤ digitsLen r ∧ digitsLen r ≤ 2 ∧ (r.takeWhile isDigit).head? ≠ some 48 ∧ digitsOf (r.takeWhile isDigit) ≤ 64) := fun z => w (sm.mpr z)
              have e1 : (match natOf (r.takeWhile isDigit) with
                | some n => if 1 ≤ n ∧ n ≤ 64 ∧ ((r.drop (r.takeWhile isDigit).length).head?.map isWordByte).getD false = false then Except.ok (({ sort := Sort_.given, text := r.takeWhile isDigit, place := at_ } : Tok), r.drop (r.takeWhile isDigit).length, at_ + ((c :: r).length - (r.drop (r.takeWhile isDigit).length).length)) else Except.error at_
                | none => Except.error at_) = (Except.error at_ : Except Nat (Tok × Bytes × Nat)) := by
                cases y : natOf (r.takeWhile isDigit) with
                | none => rfl
                | some n =>
                  simp only []
                  rw [if_neg]
                  rintro ⟨z1, z2, -⟩
                  exact w ⟨n, y, z1, z2⟩
              by_cases y : ¬ (1 ≤ digitsLen r ∧ digitsLen r ≤ 2) ∨ r.head? = some 48 ∨ isHead isWordByte (r.drop (digitsLen r)) = true
              · rw [if_pos y]; exact e1
              · rw [if_neg y]
                have y1 : 1 ≤ digitsLen r ∧ digitsLen r ≤ 2 := by
                  apply Classical.byContradiction
                  intro z; exact y (.inl z)
                have y2 : r.head? ≠ some 48 := fun z => y (.inr (.inl z))
                rw [← hh y1.1] at y2
                rw [if_pos]
                · exact e1
                · rcases Nat.lt_or_ge 64 (digitsOf (r.takeWhile isDigit)) with z | z
                  · exact z
                  · exact absurd ⟨y1.1, y1.2, y2, z⟩ w2
          · rw [if_neg q5, if_neg q5]
            by_cases q6 : isDigit c = true
            · rw [if_pos q6, if_pos q6]
              unfold numberLen
              simp only [isHead_eq, numberOf_rest]
              have le := numLen_le (c :: r)
              have pos := digitsLen_pos (r := r) q6
              by_cases y : isHead isWordByte ((c :: r).drop (numLen (c :: r))) = true
              · rw [if_pos y, if_pos y]; rfl
              · rw [if_neg y, if_neg y]
                simp only [Option.map_some]
                refine ⟨by omega, by omega, ⟨.number, (numberOf (c :: r)).1, at_⟩, ?_, rfl, rfl, by simp⟩
                congr 2
                refine Prod.ext rfl ?_
                show at_ + ((c :: r).length - ((c :: r).drop (numLen (c :: r))).length) = at_ + numLen (c :: r)
                rw [List.length_drop]
                omega
            · rw [if_neg q6, if_neg q6]
              unfold signLen
              simp only []
              by_cases y : twoSigns.contains ((c :: r).take 2) = true
              · rw [if_pos y, if_pos y]
                have l2 : 2 ≤ (c :: r).length := by
                  cases r with
                  | nil =>
                    exfalso
                    have : ∀ z : List Bytes, (∀ x ∈ z, x.length = 2) → z.contains [c] = false := by
                      intro z hz
                      cases e : z.contains [c] with
                      | false => rfl
                      | true =>
                        have := List.contains_iff_mem.mp e
                        have := hz _ this
                        simp at this
                    have h2 := this twoSigns (by decide +kernel)
                    have h3 : ([c] : Bytes).take 2 = [c] := rfl
                    rw [h3, h2] at y
                    cases y
                  | cons a t => simp
                refine ⟨by omega, l2, ⟨.sign, (c :: r).take 2, at_⟩, ?_, rfl, rfl, by simp⟩
                congr 2
                refine Prod.ext rfl ?_
                show at_ + ((c :: r).length - ((c :: r).drop 2).length) = at_ + 2
                rw [List.length_drop]
                omega
              · rw [if_neg y, if_neg y]
                by_cases y2 : oneSigns.contains c = true
                · rw [if_pos y2, if_pos y2]
                  refine ⟨by omega, by simp, ⟨.sign, [c], at_⟩, ?_, rfl, rfl, by simp⟩
                  congr 2
                  refine Prod.ext rfl ?_
                  show at_ + ((c :: r).length - r.length) = at_ + 1
                  simp
                · rw [if_neg y2, if_neg y2]; rfl
/-! ### UTF-8, as the program looks at it -/
def signLength (a : UInt8) : Nat := if a.toNat < 128 then 1 else if 192 ≤ a.toNat ∧ a.toNat < 224 then 2 else if 224 ≤ a.toNat ∧ a.toNat < 240 then 3 else if 240 ≤ a.toNat ∧ a.toNat < 248 then 4 else 0
/-- the code of the bytes behind the first, or none if one of them can't follow -/
def codeOf : Nat → Bytes → Option Nat
  | acc, [] => some acc
  | acc, c :: r => if 128 ≤ c.toNat ∧ c.toNat < 192 then codeOf (acc * 64 + (c.toNat - 128)) r else none
def leastOf (n : Nat) : Nat := if n = 2 then 0x80 else if n = 3 then 0x800 else if n = 4 then 0x10000 else 0
def codeGood (code n : Nat) : Bool := decide (leastOf n ≤ code) && (!(decide (0xD800 ≤ code) && decide (code ≤ 0xDFFF)) && decide (code ≤ 0x10FFFF))
def wholeSign (sign : Bytes) (n : Nat) : Bool :=
  if n = 1 then true else if sign.length < n then false else match sign with
    | [] => false
    | a :: r => match codeOf (a.toNat % 2 ^ (7 - n)) r with
      | none => false
      | some code => codeGood code n
theorem signLength_le (a : UInt8) : signLength a ≤ 4 := by unfold signLength; split <;> (try split) <;> (try split) <;> (try split) <;> omega
def wm (b : Bytes) : Bool := match b with
  | [] => true
  | a :: r => if signLength a = 0 then false else if wholeSign ((a :: r).take (signLength a)) (signLength a) = false then false else wm ((a :: r).drop (signLength a))
termination_by b.length
decreasing_by
  simp only [List.length_drop, List.length_cons]
  omega
theorem wm_nil : wm [] = true := by rw [wm]
theorem wm_cons (a : UInt8) (r : Bytes) : wm (a :: r) = (if signLength a = 0 then false else if wholeSign ((a :: r).take (signLength a)) (signLength a) = false then false else wm ((a :: r).drop (signLength a))) := by rw [wm]
theorem toNat_lt256 (a : UInt8) : a.toNat < 256 := a.toNat_lt
theorem div64 (c : UInt8) : (c.toNat / 64 == 2) = decide (128 ≤ c.toNat ∧ c.toNat < 192) := by
  rw [Bool.eq_iff_iff]
  simp only [beq_iff_eq, decide_eq_true_eq]
  omega
theorem bool_ext {a b : Bool} (h : a = true ↔ b = true) : a = b := Bool.eq_iff_iff.mpr h
theorem if_false_not (c x : Bool) : (if c = false then false else x) = (c && x) := by cases c <;> simp
theorem utf8_wm : ∀ (n : Nat) (b : Bytes), b.length ≤ n → utf8 b = wm b := by
  intro n
  induction n with
  | zero =>
    intro b h
    have : b = [] := List.length_eq_zero_iff.mp (by omega)
    subst this
    rw [wm_nil]; rfl
  | succ n ih =>
    intro b h
    cases b with
    | nil => rw [wm_nil]; rfl
    | cons a r =>
      rw [List.length_cons] at h
      have la := toNat_lt256 a
      rw [wm_cons]
      by_cases h1 : a.toNat < 128
      · have e : signLength a = 1 := by unfold signLength; rw [if_pos h1]
        rw [e, if_neg (by decide)]
        show _ = (if wholeSign ([a]) 1 = false then false else wm r)
        rw [show wholeSign [a] 1 = true from rfl]
        simp only [Bool.true_eq_false, if_false]
        rw [← ih r (by omega)]
        conv => lhs; unfold utf8
        simp only [h1, if_true]
      · by_cases h2 : 192 ≤ a.toNat ∧ a.toNat < 224
        · have e : signLength a = 2 := by unfold signLength; rw [if_neg h1, if_pos h2]
          rw [e, if_neg (by decide)]
          cases r with
          | nil => 
            conv => lhs; unfold utf8
            simp only [h1, if_false]
            rfl
          | cons b q =>
            rw [List.length_cons] at h
            have lb := toNat_lt256 b
            show _ = (if wholeSign [a, b] 2 = false then false else wm q)
            rw [← ih q (by omega)]
            have hw : wholeSign [a, b] 2 = (if 128 ≤ b.toNat ∧ b.toNat < 192 then codeGood (a.toNat % 32 * 64 + (b.toNat - 128)) 2 else false) := by
              unfold wholeSign
              simp only [codeOf]
              rw [if_neg (by decide), if_neg (by simp)]
              by_cases y : 128 ≤ b.toNat ∧ b.toNat < 192
              · rw [if_pos y, if_pos y]
              · rw [if_neg y, if_neg y]
            rw [if_false_not, hw]
            conv => lhs; unfold utf8
            simp only [h1, if_false, div64]
            by_cases y : 128 ≤ b.toNat ∧ b.toNat < 192
            · rw [if_pos y]
              simp only [y, and_self, decide_true, Bool.true_and]
              have hg : codeGood (a.toNat % 32 * 64 + (b.toNat - 128)) 2 = decide (0xC2 ≤ a.toNat) := by
                apply bool_ext
                simp only [codeGood, leastOf, Bool.and_eq_true, decide_eq_true_eq, Bool.not_eq_true', Bool.and_eq_false_iff, decide_eq_false_iff_not, if_true]
                omega
              rw [hg]
              by_cases z : 0xC2 ≤ a.toNat
              · rw [if_pos ⟨z, h2.2⟩, decide_eq_true z, Bool.true_and]
              · rw [if_neg (fun w => z w.1), decide_eq_false z, Bool.false_and]
                cases q with
                | nil => rfl
                | cons c p =>
                  simp only []
                  rw [if_neg (by omega), if_neg (by omega), if_neg (by omega)]
                  cases p with
                  | nil => rfl
                  | cons d s => simp only []; rw [if_neg (by omega), if_neg (by omega), if_neg (by omega)]
            · rw [if_neg y]
              simp only [decide_eq_false y, Bool.false_and, Bool.and_false]
              by_cases z : 0xC2 ≤ a.toNat
              · rw [if_pos ⟨z, h2.2⟩]
              · rw [if_neg (fun w => z w.1)]
                cases q with
                | nil => rfl
                | cons c p =>
                  simp only []
                  rw [if_neg (by omega), if_neg (by omega), if_neg (by omega)]
                  cases p with
                  | nil => rfl
                  | cons d s => simp only []; rw [if_neg (by omega), if_neg (by omega), if_neg (by omega)]
        · by_cases h3 : 224 ≤ a.toNat ∧ a.toNat < 240
          · have e : signLength a = 3 := by unfold signLength; rw [if_neg h1, if_neg h2, if_pos h3]
            rw [e, if_neg (by decide)]
            match r, h with
            | [], h =>
              conv => lhs; unfold utf8
              simp only [h1, if_false]; rfl
            | [b], h =>
              conv => lhs; unfold utf8
              simp only [h1, if_false]
              rw [if_neg (by omega)]; rfl
            | b :: c :: p, h =>
              rw [List.length_cons, List.length_cons] at h
              have lb := toNat_lt256 b
              have lc := toNat_lt256 c
              show _ = (if wholeSign [a, b, c] 3 = false then false else wm p)
              rw [← ih p (by omega)]
              have hw : wholeSign [a, b, c] 3 = (if (128 ≤ b.toNat ∧ b.toNat < 192) ∧ (128 ≤ c.toNat ∧ c.toNat < 192) then codeGood ((a.toNat % 16 * 64 + (b.toNat - 128)) * 64 + (c.toNat - 128)) 3 else false) := by
                unfold wholeSign
                simp only [codeOf]
                rw [if_neg (by decide), if_neg (by simp)]
                by_cases y : 128 ≤ b.toNat ∧ b.toNat < 192
                · rw [if_pos y]
                  by_cases y2 : 128 ≤ c.toNat ∧ c.toNat < 192
                  · rw [if_pos y2, if_pos ⟨y, y2⟩]
                  · rw [if_neg y2, if_neg (fun z => y2 z.2)]
                · rw [if_neg y, if_neg (fun z => y z.1)]
              rw [if_false_not, hw]
              conv => lhs; unfold utf8
              simp only [h1, if_false, div64]
              rw [if_neg (by omega)]
              by_cases y : (128 ≤ b.toNat ∧ b.toNat < 192) ∧ (128 ≤ c.toNat ∧ c.toNat < 192)
              · rw [if_pos y]
                simp only [y, and_self, decide_true, Bool.true_and]
                have hg : codeGood ((a.toNat % 16 * 64 + (b.toNat - 128)) * 64 + (c.toNat - 128)) 3 = (if a.toNat = 0xE0 then decide (0xA0 ≤ b.toNat) else if a.toNat = 0xED then decide (b.toNat < 0xA0) else true) := by
                  apply bool_ext
                  simp only [codeGood, leastOf, Bool.and_eq_true, decide_eq_true_eq, Bool.not_eq_true', Bool.and_eq_false_iff, decide_eq_false_iff_not, if_true, show ¬ (3 = 2) by decide, if_false]
                  by_cases z1 : a.toNat = 0xE0
                  · rw [if_pos z1]; simp only [decide_eq_true_eq]; omega
                  · rw [if_neg z1]
                    by_cases z2 : a.toNat = 0xED
                    · rw [if_pos z2]; simp only [decide_eq_true_eq]; omega
                    · rw [if_neg z2]; simp only [iff_true]; omega
                rw [hg]
                by_cases z1 : a.toNat = 0xE0
                · rw [if_pos z1, if_pos z1]
                · rw [if_neg z1, if_neg z1]
                  by_cases z2 : a.toNat = 0xED
                  · rw [if_pos z2, if_pos z2]
                  · rw [if_neg z2, if_neg z2, if_pos (by omega), Bool.true_and]
              · rw [if_neg y, Bool.false_and]
                have yy : (decide (128 ≤ b.toNat ∧ b.toNat < 192) && (decide (128 ≤ c.toNat ∧ c.toNat < 192) && utf8 p)) = false := by
                  cases x1 : decide (128 ≤ b.toNat ∧ b.toNat < 192) with
                  | false => rfl
                  | true =>
                    cases x2 : decide (128 ≤ c.toNat ∧ c.toNat < 192) with
                    | false => rfl
                    | true => exact absurd ⟨of_decide_eq_true x1, of_decide_eq_true x2⟩ y
                rw [yy]
                simp only [Bool.and_false]
                split
                · rfl
                · split
                  · rfl
                  · rw [if_pos (by omega)]
          · by_cases h4 : 240 ≤ a.toNat ∧ a.toNat < 248
            · have e : signLength a = 4 := by unfold signLength; rw [if_neg h1, if_neg h2, if_neg h3, if_pos h4]
              rw [e, if_neg (by decide)]
              match r, h with
              | [], h =>
                conv => lhs; unfold utf8
                simp only [h1, if_false]; rfl
              | [b], h =>
                conv => lhs; unfold utf8
                simp only [h1, if_false]
                rw [if_neg (by omega)]; rfl
              | [b, c], h =>
                conv => lhs; unfold utf8
                simp only [h1, if_false]
                rw [if_neg (by omega), if_neg (by omega), if_neg (by omega), if_neg (by omega)]; rfl
              | b :: c :: d :: s, h =>
                rw [List.length_cons, List.length_cons, List.length_cons] at h
                have lb := toNat_lt256 b
                have lc := toNat_lt256 c
                have ld := toNat_lt256 d
                show _ = (if wholeSign [a, b, c, d] 4 = false then false else wm s)
                rw [← ih s (by omega)]
                have hw : wholeSign [a, b, c, d] 4 = (if (128 ≤ b.toNat ∧ b.toNat < 192) ∧ (128 ≤ c.toNat ∧ c.toNat < 192) ∧ (128 ≤ d.toNat ∧ d.toNat < 192) then codeGood (((a.toNat % 8 * 64 + (b.toNat - 128)) * 64 + (c.toNat - 128)) * 64 + (d.toNat - 128)) 4 else false) := by
                  unfold wholeSign
                  simp only [codeOf]
                  rw [if_neg (by decide), if_neg (by simp)]
                  by_cases y : 128 ≤ b.toNat ∧ b.toNat < 192
                  · rw [if_pos y]
                    by_cases y2 : 128 ≤ c.toNat ∧ c.toNat < 192
                    · rw [if_pos y2]
                      by_cases y3 : 128 ≤ d.toNat ∧ d.toNat < 192
                      · rw [if_pos y3, if_pos ⟨y, y2, y3⟩]
                      · rw [if_neg y3, if_neg (fun z => y3 z.2.2)]
                    · rw [if_neg y2, if_neg (fun z => y2 z.2.1)]
                  · rw [if_neg y, if_neg (fun z => y z.1)]
                rw [if_false_not, hw]
                conv => lhs; unfold utf8
                simp only [h1, if_false, div64]
                rw [if_neg (by omega), if_neg (by omega), if_neg (by omega), if_neg (by omega)]
                by_cases y : (128 ≤ b.toNat ∧ b.toNat < 192) ∧ (128 ≤ c.toNat ∧ c.toNat < 192) ∧ (128 ≤ d.toNat ∧ d.toNat < 192)
                · rw [if_pos y]
                  simp only [y, and_self, decide_true, Bool.true_and]
                  have hg : codeGood (((a.toNat % 8 * 64 + (b.toNat - 128)) * 64 + (c.toNat - 128)) * 64 + (d.toNat - 128)) 4 = (if a.toNat = 0xF0 then decide (0x90 ≤ b.toNat) else if a.toNat = 0xF4 then decide (b.toNat < 0x90) else decide (a.toNat < 0xF4)) := by
                    apply bool_ext
                    simp only [codeGood, leastOf, Bool.and_eq_true, decide_eq_true_eq, Bool.not_eq_true', Bool.and_eq_false_iff, decide_eq_false_iff_not, if_true, show ¬ (4 = 2) by decide, show ¬ (4 = 3) by decide, if_false]
                    by_cases z1 : a.toNat = 0xF0
                    · rw [if_pos z1]; simp only [decide_eq_true_eq]; omega
                    · rw [if_neg z1]
                      by_cases z2 : a.toNat = 0xF4
                      · rw [if_pos z2]; simp only [decide_eq_true_eq]; omega
                      · rw [if_neg z2]; simp only [decide_eq_true_eq]; omega
                  rw [hg]
                  by_cases z1 : a.toNat = 0xF0
                  · rw [if_pos z1, if_pos z1]
                  · rw [if_neg z1, if_neg z1]
                    by_cases z2 : a.toNat = 0xF4
                    · rw [if_pos z2, if_neg (by omega), if_pos z2]
                    · rw [if_neg z2]
                      by_cases z3 : a.toNat < 0xF4
                      · rw [if_pos (by omega), if_neg z2, decide_eq_true z3, Bool.true_and]
                      · rw [if_neg (show ¬ (240 < a.toNat ∧ a.toNat < 244) by omega)]
                        simp only [if_neg z2, decide_eq_false z3, Bool.false_and]
                · rw [if_neg y, Bool.false_and]
                  have yy : (decide (128 ≤ b.toNat ∧ b.toNat < 192) && (decide (128 ≤ c.toNat ∧ c.toNat < 192) && (decide (128 ≤ d.toNat ∧ d.toNat < 192) && utf8 s))) = false := by
                    cases x1 : decide (128 ≤ b.toNat ∧ b.toNat < 192) with
                    | false => rfl
                    | true =>
                      cases x2 : decide (128 ≤ c.toNat ∧ c.toNat < 192) with
                      | false => rfl
                      | true =>
                        cases x3 : decide (128 ≤ d.toNat ∧ d.toNat < 192) with
                        | false => rfl
                        | true => exact absurd ⟨of_decide_eq_true x1, of_decide_eq_true x2, of_decide_eq_true x3⟩ y
                  rw [yy]
                  simp only [Bool.and_false]
                  split
                  · rfl
                  · split
                    · rfl
                    · split
                      · rfl
                      · rfl
            · have e : signLength a = 0 := by unfold signLength; rw [if_neg h1, if_neg h2, if_neg h3, if_neg h4]
              rw [e, if_pos rfl]
              conv => lhs; unfold utf8
              simp only [h1, if_false]
              cases r with
              | nil => rfl
              | cons b q =>
                simp only []
                rw [if_neg (by omega)]
                cases q with
                | nil => rfl
                | cons c p =>
                  simp only []
                  rw [if_neg (by omega), if_neg (by omega), if_neg (by omega)]
                  cases p with
                  | nil => rfl
                  | cons d s => simp only []; rw [if_neg (by omega), if_neg (by omega), if_neg (by omega)]
theorem utf8_is (b : Bytes) : utf8 b = wm b := utf8_wm b.length b (Nat.le_refl _)

/-! ### all tokens -/
def pairOf (t : Tok) : Nat × Nat := (t.place, sortNo t.sort)
/-- the specification's tokens from here on, each its place and its kind -/
def mapE {a b : Type} (f : a → b) : Except Nat a → Except Nat b
  | .ok x => .ok (f x)
  | .error e => .error e
def TK (at_ : Nat) (s : Bytes) : Except Nat (List (Nat × Nat)) := mapE (List.map pairOf) (tokensFrom (s.length + 1) at_ s)
theorem nextTok_end (at_ : Nat) : nextTok 1 at_ [] = .ok (⟨.finish, [], at_⟩, [], at_) := by rw [nextTok]
theorem scan_le {at_ : Nat} {s : Bytes} {k n : Nat} (h : solid s = true) (e : scan s = some (k, n)) : 1 ≤ n ∧ n ≤ s.length := by
  cases s with
  | nil => cases e
  | cons c r =>
    have := scan_ok at_ c r h
    rw [e] at this
    exact ⟨this.1, this.2.1⟩
theorem tokensFrom_step (f at_ : Nat) (s : Bytes) : tokensFrom (f + 1) at_ s = (match nextTok 1 (at_ + gap s) (s.drop (gap s)) with
    | .error e => .error e
    | .ok (t, rest, p) => if t.sort = .finish then .ok [t] else match tokensFrom f p rest with
      | .error e => .error e
      | .ok l => .ok (t :: l)) := by
  rw [tokensFrom, nextTok_gap (s.length + 1) at_ s (by omega)]
  cases nextTok 1 (at_ + gap s) (s.drop (gap s)) with
  | error e => rfl
  | ok x => rfl
theorem tokensFrom_fuel : ∀ (m : Nat) (s : Bytes) (f g at_ : Nat), s.length ≤ m → s.length < f → s.length < g → tokensFrom f at_ s = tokensFrom g at_ s := by
  intro m
  induction m with
  | zero =>
    intro s f g at_ hm hf hg
    obtain ⟨f, rfl⟩ : ∃ x, f = x + 1 := ⟨f - 1, by omega⟩
    obtain ⟨g, rfl⟩ : ∃ x, g = x + 1 := ⟨g - 1, by omega⟩
    have : s = [] := List.length_eq_zero_iff.mp (by omega)
    subst this
    rw [tokensFrom_step, tokensFrom_step, gap_nil]
    rfl
  | succ m ih =>
    intro s f g at_ hm hf hg
    obtain ⟨f, rfl⟩ : ∃ x, f = x + 1 := ⟨f - 1, by omega⟩
    obtain ⟨g, rfl⟩ : ∃ x, g = x + 1 := ⟨g - 1, by omega⟩
    rw [tokensFrom_step, tokensFrom_step]
    have hs := solid_gap s
    cases hd : s.drop (gap s) with
    | nil => rw [nextTok_end]; rfl
    | cons c r =>
      rw [hd] at hs
      have ok := scan_ok (at_ + gap s) c r hs
      cases e : scan (c :: r) with
      | none =>
        rw [e] at ok
        have ok : nextTok 1 (at_ + gap s) (c :: r) = .error (at_ + gap s) := ok
        rw [ok]
      | some kn =>
        obtain ⟨k, n⟩ := kn
        rw [e] at ok
        obtain ⟨h1, h2, t, h3, h4, h5, h6⟩ := ok
        rw [h3]
        simp only [if_neg h6]
        have hl : (c :: r).length ≤ s.length := by rw [← hd, List.length_drop]; omega
        rw [ih ((c :: r).drop n) f g _ (by rw [List.length_drop]; omega) (by rw [List.length_drop]; omega) (by rw [List.length_drop]; omega)]
theorem TK_end {at_ : Nat} {s : Bytes} (h : s.length ≤ gap s) : TK at_ s = .ok [(at_ + gap s, 7)] := by
  unfold TK
  have : s.drop (gap s) = [] := List.drop_eq_nil_of_le h
  rw [tokensFrom_step, this, nextTok_end]
  rfl
theorem TK_bad {at_ : Nat} {s : Bytes} (h : gap s < s.length) (e : scan (s.drop (gap s)) = none) : TK at_ s = .error (at_ + gap s) := by
  unfold TK
  have hs := solid_gap s
  rw [tokensFrom_step]
  cases hd : s.drop (gap s) with
  | nil =>
    have := congrArg List.length hd
    rw [List.length_drop] at this
    simp at this
    omega
  | cons c r =>
    rw [hd] at hs e
    have ok := scan_ok (at_ + gap s) c r hs
    rw [e] at ok
    have ok : nextTok 1 (at_ + gap s) (c :: r) = .error (at_ + gap s) := ok
    rw [ok]
    rfl
theorem TK_more {at_ : Nat} {s : Bytes} {k n : Nat} (e : scan (s.drop (gap s)) = some (k, n)) :
    TK at_ s = mapE (fun l => (at_ + gap s, k) :: l) (TK (at_ + gap s + n) (s.drop (gap s + n))) := by
  unfold TK
  have hs := solid_gap s
  rw [tokensFrom_step, ← List.drop_drop]
  cases hd : s.drop (gap s) with
  | nil => rw [hd] at e; cases e
  | cons c r =>
    rw [hd] at hs e
    have ok := scan_ok (at_ + gap s) c r hs
    rw [e] at ok
    obtain ⟨h1, h2, t, h3, h4, h5, h6⟩ := ok
    rw [h3]
    simp only [if_neg h6]
    have hl : (c :: r).length ≤ s.length := by rw [← hd, List.length_drop]; omega
    rw [tokensFrom_fuel s.length ((c :: r).drop n) s.length (((c :: r).drop n).length + 1) _ (by rw [List.length_drop]; omega) (by rw [List.length_drop]; omega) (by omega)]
    cases tokensFrom (((c :: r).drop n).length + 1) (at_ + gap s + n) ((c :: r).drop n) with
    | error p => rfl
    | ok l =>
      show Except.ok _ = Except.ok _
      simp only [List.map_cons, pairOf, h4, h5]
/-- what tokens answers -/
def toldPairs (l : List (Nat × Nat)) : List Int := l.flatMap fun x => [(x.1 : Int), (x.2 : Int)]
def answerOf : Except Nat (List (Nat × Nat)) → List Int
  | .ok l => 0 :: toldPairs l
  | .error p => [1, (p : Int)]
end Lx
end

section
set_option maxHeartbeats 2000000
namespace Lx
open Dbm (Bytes)
theorem TK_len : ∀ (n : Nat) (at_ : Nat) (s : Bytes) (l : List (Nat × Nat)), s.length ≤ n → TK at_ s = .ok l → l.length ≤ s.length + 1 := by
  intro n
  induction n with
  | zero =>
    intro at_ s l hn e
    rw [TK_end (at_ := at_) (s := s) (by omega)] at e
    cases e
    exact Nat.le_add_left _ _
  | succ n ih =>
    intro at_ s l hn e
    by_cases h : gap s < s.length
    · cases hs : scan (s.drop (gap s)) with
      | none =>
        rw [TK_bad (at_ := at_) h hs] at e
        cases e
      | some x =>
        obtain ⟨k, m⟩ := x
        have hm := scan_le (at_ := 0) (solid_gap s) hs
        rw [List.length_drop] at hm
        rw [TK_more (at_ := at_) hs] at e
        cases h2 : TK (at_ + gap s + m) (s.drop (gap s + m)) with
        | error p =>
          rw [h2] at e
          cases e
        | ok l2 =>
          rw [h2] at e
          cases e
          have z := ih _ _ _ (by rw [List.length_drop]; omega) h2
          rw [List.length_drop] at z
          show l2.length + 1 ≤ _
          omega
    · rw [TK_end (at_ := at_) (s := s) (by omega)] at e
      cases e
      exact Nat.le_add_left _ _
theorem told_take {l : List (Nat × Nat)} {i : Nat} {pk : Nat × Nat} (h : l[i]? = some pk) : toldPairs (l.take (i + 1)) = toldPairs (l.take i) ++ [(pk.1 : Int), (pk.2 : Int)] := by
  unfold toldPairs
  rw [List.take_succ, h, List.flatMap_append]
  rfl
theorem told_len (l : List (Nat × Nat)) : (toldPairs l).length = 2 * l.length := by
  unfold toldPairs
  induction l with
  | nil => rfl
  | cons x r ih =>
    rw [List.flatMap_cons, List.length_append, ih]
    show 2 + 2 * r.length = 2 * (r.length + 1)
    omega
end Lx
end

section
set_option maxHeartbeats 2000000
namespace Lx
open Dbm Si22
theorem flat_pairs (ts : List Tok) : (ts.flatMap fun t => [t.place, sortNo t.sort]).map (fun (n : Nat) => (n : Int)) = toldPairs (ts.map pairOf) := by
  unfold toldPairs
  induction ts with
  | nil => rfl
  | cons t r ih =>
    rw [List.flatMap_cons, List.map_append, ih]
    rfl
theorem bytes_len (ns : List Int) : (Si22Neutral.bytesOf ns).length = ns.length := by
  unfold Si22Neutral.bytesOf
  rw [List.length_map]
/-- the document's answer to tokens, by the scan -/
theorem tokens_is (ns : List Int) : PySi22.tokens ns = if 65536 < ns.length then [8, 0] else answerOf (TK 0 (Si22Neutral.bytesOf ns)) := by
  show Si22Neutral.listOf (Si22.answer (.tokens (Si22Neutral.bytesOf ns))) = _
  generalize hb : Si22Neutral.bytesOf ns = b
  have hl : b.length = ns.length := by rw [← hb, bytes_len]
  rw [← hl]
  unfold Si22.answer
  simp only []
  by_cases h : 65536 < b.length
  · rw [if_pos (show SIZE < b.length from h), if_pos h]
    rfl
  · rw [if_neg (show ¬ SIZE < b.length from h), if_neg h]
    unfold TK
    rw [tokensFrom_fuel b.length b (b.length + 2) (b.length + 1) 0 (Nat.le_refl _) (by omega) (by omega)]
    cases tokensFrom (b.length + 1) 0 b with
    | error p => rfl
    | ok ts =>
      show ((0 : Nat) : Int) :: ((ts.flatMap fun t => [t.place, sortNo t.sort]).map (fun (n : Nat) => (n : Int)) ++ []) = 0 :: toldPairs (ts.map pairOf)
      rw [flat_pairs, List.append_nil]
      rfl
/-- numbers from 0 to 255 are bytes -/
theorem bytes_back {ns : List Int} (h : ∀ x ∈ ns, 0 ≤ x ∧ x ≤ 255) : ns = (Si22Neutral.bytesOf ns).map fun c => (c.toNat : Int) := by
  unfold Si22Neutral.bytesOf
  rw [List.map_map]
  induction ns with
  | nil => rfl
  | cons x r ih =>
    rw [List.map_cons, ← ih (fun y hy => h y (List.mem_cons_of_mem _ hy))]
    have hx := h x (by simp)
    congr 1
    show x = ((UInt8.ofNat x.toNat).toNat : Int)
    have e : (UInt8.ofNat x.toNat).toNat = x.toNat % 256 := UInt8.toNat_ofNat'
    rw [e, Nat.mod_eq_of_lt (by omega)]
    omega
end Lx
end

section
set_option maxHeartbeats 2000000
namespace Lx
/-- what may be asked are bytes -/
theorem asked_in {l : List Int} (h : PySi22.tokens_asked l = true) : ∀ x ∈ l, 0 ≤ x ∧ x ≤ 255 := by
  have h1 := (Bool.and_eq_true_iff.mp h).1
  have h2 := List.all_eq_true.mp h1 [[2], l] (List.mem_cons_self ..)
  have h3 := (Bool.and_eq_true_iff.mp (show (l.all (fun z => Si22Neutral.natural z 8) && decide (l.length ≤ 100000)) = true from h2)).1
  intro x hx
  have h4 := Bool.and_eq_true_iff.mp (show (decide (0 ≤ x) && decide (x < 2 ^ 8)) = true from List.all_eq_true.mp h3 x hx)
  have a := of_decide_eq_true h4.1
  have b := of_decide_eq_true h4.2
  omega
end Lx
end

section
set_option maxHeartbeats 2000000
namespace Tk
open PySem PySem.Spec PyProof.Rows L2
open Dbm (Bytes)
def topS (i : Nat) : Stmt := PySem.Challenge.pw_strictask_s03_tokens.main.body.getD i (.Pass ⟨0, 0, 0, 0⟩)
abbrev s_lexed : Stmt := topS 32
abbrev s_next_place : Stmt := topS 33
abbrev s_line_end : Stmt := topS 34
abbrev s_byte_at : Stmt := topS 35
abbrev s_token_at : Stmt := topS 36
abbrev s_is_digit : Stmt := topS 37
abbrev s_begins_word : Stmt := topS 38
abbrev s_in_word : Stmt := topS 39
abbrev s_spelled : Stmt := topS 40
abbrev s_bytes_token : Stmt := topS 41
abbrev s_half_byte : Stmt := topS 42
abbrev s_word_token : Stmt := topS 43
abbrev s_quoted_token : Stmt := topS 44
abbrev s_text_token : Stmt := topS 45
abbrev s_quoted_end : Stmt := topS 46
abbrev s_undoubled : Stmt := topS 47
abbrev s_given_token : Stmt := topS 48
abbrev s_digits_end : Stmt := topS 49
abbrev s_number_token : Stmt := topS 50
abbrev s_exponent_end : Stmt := topS 51
abbrev s_sign_token : Stmt := topS 52
abbrev s_well_made : Stmt := topS 16
abbrev s_sign_length : Stmt := topS 17
abbrev s_whole_sign : Stmt := topS 18
abbrev s_in_shortest_form : Stmt := topS 19
abbrev s_tokens : Stmt := topS 57
/-! ### texts -/
/-- the values of some bytes -/
def tx (b : Bytes) : List V := b.map fun c => V.int (c.toNat : Int)
theorem tx_len (b : Bytes) : (tx b).length = b.length := by unfold tx; rw [List.length_map]
/-- the byte at a place, or -1 -/
def bAt (b : Bytes) (p : Nat) : Int := match b[p]? with
  | some c => (c.toNat : Int)
  | none => -1
theorem tx_get {b : Bytes} {p : Nat} (h : p < b.length) : (tx b)[p]? = some (.int (bAt b p)) := by
  unfold tx bAt
  rw [List.getElem?_map, List.getElem?_eq_getElem h]
  rfl
/-- what a def's name stands for -/
structure At (K : PySem.W.Frag) (mg : Str → Option Value) (x : Str) (st : Stmt) (ps : List Str) (f : Addr) (fd : FuncData) : Prop where
  g : mg x = some (.ref f)
  F : Fun K x x st f fd
  b : Binds K fd ps []
section
variable {P : Program} {w : World} {K : PySem.W.Frag} {mg : Str → Option Value} {base : Heap}
/-! ### is_digit, begins_word, in_word -/
def digI (i : Int) : Bool := decide (48 ≤ i) && decide (i ≤ 57)
def wordI (i : Int) : Bool := (decide (65 ≤ i) && decide (i ≤ 90)) || ((decide (97 ≤ i) && decide (i ≤ 122)) || decide (i = 95))
def inwI (i : Int) : Bool := wordI i || digI i
def spBool (p : Int → Bool) : Sp := fun vs H Q _ => ∃ i : Int, vs = [.int i] ∧ Q (.bl (p i)) H
theorem spBool_len {p : Int → Bool} {x : Str} : ∀ vs H Q E, spBool p vs H Q E → vs.length = [x].length := fun vs H Q E h => by
  obtain ⟨i, rfl, _⟩ := h
  rfl
theorem decV (i j : Int) : decide (V.int i = V.int j) = decide (i = j) := by
  by_cases h : i = j
  · rw [decide_eq_true h, decide_eq_true (by rw [h])]
  · rw [decide_eq_false h, decide_eq_false (fun z => h (by injection z))]
/-- a test that is known -/
theorem goT {c : Bool} {A B : Prop} (hc : c = true) (h : A) : if c = true then A else B := by rw [if_pos hc]; exact h
theorem goF {c : Bool} {A B : Prop} (hc : c = false) (h : B) : if c = true then A else B := by rw [if_neg (by rw [hc]; exact Bool.false_ne_true)]; exact h
theorem sc_is_digit : FnScope ["byte"] ["byte"] (defScope s_is_digit) := ⟨rfl, rfl, rfl, by decide +kernel, rfl, by decide +kernel, by decide +kernel⟩
theorem ok_is_digit {f : Addr} {fd : FuncData} (F : Fun K "is_digit" "is_digit" s_is_digit f fd) : FnOk P w K mg base CX0 1 f fd ["byte"] (spBool digI) := by
  refine F.ok sc_is_digit spBool_len (fun cdv A outer s H vs Q E hr h => ?_)
  obtain ⟨i, rfl, k⟩ := h
  refine ⟨_, pss_one (ps_ret (pe_chain op_le op_le pe_int (pv 0) pe_int)), ?_⟩
  refine ⟨_, rfl, _, _, rfl, rfl, _, rfl, ?_⟩
  unfold digI at k
  cases e : decide (48 ≤ i) with
  | true =>
    rw [e] at k
    exact iteT ⟨_, _, rfl, rfl, k⟩
  | false =>
    rw [e] at k
    exact iteF k
theorem sc_begins_word : FnScope ["byte"] ["byte"] (defScope s_begins_word) := ⟨rfl, rfl, rfl, by decide +kernel, rfl, by decide +kernel, by decide +kernel⟩
theorem ok_begins_word {f : Addr} {fd : FuncData} (F : Fun K "begins_word" "begins_word" s_begins_word f fd) : FnOk P w K mg base CX0 1 f fd ["byte"] (spBool wordI) := by
  refine F.ok sc_begins_word spBool_len (fun cdv A outer s H vs Q E hr h => ?_)
  obtain ⟨i, rfl, k⟩ := h
  refine ⟨_, pss_one (ps_ret (pe_or (pe_chain op_le op_le pe_int (pv 0) pe_int) (pe_or (pe_chain op_le op_le pe_int (pv 0) pe_int) (pe_one (pe_cmpR op_eq (pv 0) pe_int (nomark _)))))), ?_⟩
  unfold wordI at k
  have last : ∀ σ, σ = L2.start ["byte"] [V.int i] → Q (.bl (decide (i = 95))) H → tOp rEq (tVar 0) (tC (.int 95)) σ H Q := by
    intro σ e q
    subst e
    exact ⟨_, rfl, rfl, by rw [decV]; exact q⟩
  have mid : Q (.bl ((decide (97 ≤ i) && decide (i ≤ 122)) || decide (i = 95))) H → tOrV (tChain (rI0 fun i j => .bl (decide (i ≤ j))) (rI0 fun i j => .bl (decide (i ≤ j))) (tC (.int 97)) (tVar 0) (tC (.int 122))) (tOp rEq (tVar 0) (tC (.int 95))) (L2.start ["byte"] [V.int i]) H Q := by
    intro q
    refine ⟨_, rfl, _, _, rfl, rfl, _, rfl, ?_⟩
    cases e1 : decide (97 ≤ i) with
    | true =>
      refine iteT ⟨_, _, rfl, rfl, _, rfl, ?_⟩
      cases e2 : decide (i ≤ 122) with
      | true => rw [e1, e2] at q; exact iteT q
      | false => rw [e1, e2] at q; exact iteF (last _ rfl q)
    | false => rw [e1] at q; exact iteF ⟨_, rfl, iteF (last _ rfl q)⟩
  refine ⟨_, rfl, _, _, rfl, rfl, _, rfl, ?_⟩
  cases e1 : decide (65 ≤ i) with
  | true =>
    refine iteT ⟨_, _, rfl, rfl, _, rfl, ?_⟩
    cases e2 : decide (i ≤ 90) with
    | true => rw [e1, e2] at k; exact iteT k
    | false => rw [e1, e2] at k; exact iteF (mid k)
  | false => rw [e1] at k; exact iteF ⟨_, rfl, iteF (mid k)⟩
theorem sc_in_word : FnScope ["byte"] ["byte"] (defScope s_in_word) := ⟨rfl, rfl, rfl, by decide +kernel, rfl, by decide +kernel, by decide +kernel⟩
theorem ok_in_word {f f1 f2 : Addr} {fd fd1 fd2 : FuncData} (F : Fun K "in_word" "in_word" s_in_word f fd) (A1 : At K mg "begins_word" s_begins_word ["byte"] f1 fd1) (A2 : At K mg "is_digit" s_is_digit ["byte"] f2 fd2) : FnOk P w K mg base CX0 2 f fd ["byte"] (spBool inwI) := by
  refine F.ok sc_in_word spBool_len (fun cdv A outer s H vs Q E hr h => ?_)
  obtain ⟨i, rfl, k⟩ := h
  refine ⟨_, pss_one (ps_ret (pe_or (pe_call (ok_begins_word A1.F) hr rfl A1.g A1.F.kp A1.b .nil pass0 (pa_cons (pv 0) pa_nil)) (pe_one (pe_call (ok_is_digit A2.F) hr rfl A2.g A2.F.kp A2.b .nil pass0 (pa_cons (pv 0) pa_nil))))), ?_⟩
  unfold inwI at k
  refine ⟨_, rfl, _, rfl, _, rfl, ?_⟩
  cases e : wordI i with
  | true => rw [e] at k; exact iteT k
  | false => rw [e] at k; exact iteF ⟨_, rfl, _, rfl, k⟩
/-! ### byte_at -/
def spByteAt (K : PySem.W.Frag) : Sp := fun vs H Q _ => ∃ (a : Addr) (b : Bytes) (n : Nat), vs = [.ref a, .int (n : Int)] ∧ SqL K H a (tx b) ∧ Q (.int (bAt b n)) H
theorem sc_byte_at : FnScope ["text", "place"] ["text", "place"] (defScope s_byte_at) := ⟨rfl, rfl, rfl, by decide +kernel, rfl, by decide +kernel, by decide +kernel⟩
theorem ok_byte_at {f : Addr} {fd : FuncData} (F : Fun K "byte_at" "byte_at" s_byte_at f fd) (len : mg "len" = none) : FnOk P w K mg base CX0 1 f fd ["text", "place"] (spByteAt K) := by
  refine F.ok sc_byte_at (fun vs H Q E h => ?_) (fun cdv A outer s H vs Q E hr h => ?_)
  · obtain ⟨a, b, n, rfl, _⟩ := h
    rfl
  · obtain ⟨a, b, n, rfl, hS, k⟩ := h
    refine ⟨_, pss_one (ps_ret (pe_ifExp (pt_cmpR op_lt (pv 1) (pe_callB call_len_seq (by rfl) len PySem.boot_len (pa_cons (pv 0) pa_nil)) (nomark _)) (pe_ix ix_list (pv 0) (pv 1) (fun _ _ => rfl)) (pe_un un_neg pe_int))), ?_⟩
    refine ⟨_, rfl, _, rfl, a, tx b, rfl, .inl hS, _, _, rfl, rfl, _, rfl, ?_⟩
    rw [tx_len]
    by_cases e : n < b.length
    · refine goT (decide_eq_true (by omega)) ?_
      exact ⟨_, rfl, _, rfl, a, tx b, _, _, rfl, rfl, hS, atI_nat (tx_get e), k⟩
    · refine goF (decide_eq_false (by omega)) ?_
      refine ⟨_, rfl, ?_⟩
      have : bAt b n = -1 := by
        unfold bAt
        rw [List.getElem?_eq_none (by omega)]
      rw [this] at k
      exact k
/-! ### line_end -/
theorem lineLen_in {b : Bytes} {n : Nat} (h : n < b.length) : Lx.lineLen (b.drop n) = if bAt b n = 10 then 0 else Lx.lineLen (b.drop (n + 1)) + 1 := by
  rw [List.drop_eq_getElem_cons h, Lx.lineLen_cons]
  unfold bAt
  rw [List.getElem?_eq_getElem h]
  simp only []
  have : (b[n] = 10) ↔ ((b[n].toNat : Int) = 10) := by
    constructor
    · intro e; rw [e]; rfl
    · intro e
      apply UInt8.toNat_inj.mp
      have : b[n].toNat = 10 := by omega
      rw [this]; rfl
  by_cases e : b[n] = 10
  · rw [if_pos e, if_pos (this.mp e)]
  · rw [if_neg e, if_neg (fun z => e (this.mpr z))]
theorem lineLen_out {b : Bytes} {n : Nat} (h : b.length ≤ n) : Lx.lineLen (b.drop n) = 0 := by
  rw [List.drop_eq_nil_of_le h]; rfl
def spLineEnd (K : PySem.W.Frag) : Sp := fun vs H Q _ => ∃ (a : Addr) (b : Bytes) (n : Nat), vs = [.ref a, .int (n : Int)] ∧ SqL K H a (tx b) ∧ Q (.int ((n + Lx.lineLen (b.drop n) : Nat) : Int)) H
theorem sc_line_end : FnScope ["text", "place"] ["text", "place"] (defScope s_line_end) := ⟨rfl, rfl, rfl, by decide +kernel, rfl, by decide +kernel, by decide +kernel⟩
theorem ok_line_end {f : Addr} {fd : FuncData} {t : Tok} (F : Fun K "line_end" "line_end" s_line_end f fd) (len : mg "len" = none) (lf : mg "LINE_FEED" = some (.int 10 t)) : FnOk P w K mg base CX0 1 f fd ["text", "place"] (spLineEnd K) := by
  refine F.ok sc_line_end (fun vs H Q E h => ?_) (fun cdv A outer s H vs Q E hr h => ?_)
  · obtain ⟨a, b, n, rfl, _⟩ := h
    rfl
  · obtain ⟨a, b, n, rfl, hS, k⟩ := h
    refine ⟨_, pss_cons (ps_while PassesOwn.never (PW.pt (pw_and (pt_cmpR op_lt (pv 1) (pe_callB call_len_seq (by rfl) len PySem.boot_len (pa_cons (pv 0) pa_nil)) (nomark _)) (pw_and1 (pt_cmpR op_ne (pe_ix ix_list (pv 0) (pv 1) (fun _ _ => rfl)) (pe_glob (v := .int 10) rfl lf ⟨_, rfl⟩) (nomark _)))))
      (pss_one (ps_aug (i := 1) sc_line_end.nd rfl (.inl rfl) pe_int ip_add))) (pss_one (ps_ret (pv 1))), ?_⟩
    refine ⟨fun m σ H' => H' = H ∧ ∃ p : Nat, σ = [some (.ref a), some (.int (p : Int))] ∧ m = b.length - p ∧ p + Lx.lineLen (b.drop p) = n + Lx.lineLen (b.drop n), ⟨_, rfl, n, rfl, rfl, rfl⟩, ?_⟩
    rintro m σ H' ⟨rfl, p, rfl, rfl, e⟩
    refine ⟨_, rfl, _, rfl, a, tx b, rfl, .inl hS, _, _, rfl, rfl, _, rfl, ?_⟩
    rw [tx_len]
    have fin : Lx.lineLen (b.drop p) = 0 → tRet (tVar 1) { nx := fun _ H' => Q .non H', rt := Q } [some (.ref a), some (.int (p : Int))] H' := fun z => by
      refine ⟨_, rfl, ?_⟩
      rw [← e, z] at k
      exact k
    by_cases h1 : p < b.length
    · refine goT (decide_eq_true (by omega)) ?_
      refine ⟨_, rfl, _, rfl, a, tx b, _, _, rfl, rfl, hS, atI_nat (tx_get h1), rfl, _, rfl, ?_⟩
      rw [decV]
      have hl := lineLen_in h1
      by_cases h2 : bAt b p = 10
      · rw [if_pos h2] at hl
        refine goF (by rw [decide_eq_true h2]; rfl) ?_
        exact fin hl
      · rw [if_neg h2] at hl
        refine goT (by rw [decide_eq_false h2]; rfl) ?_
        refine ⟨fun σ' H2 => H2 = H' ∧ σ' = [some (.ref a), some (.int ((p + 1 : Nat) : Int))], ?_, ?_⟩
        · rintro σ' H2 ⟨rfl, rfl⟩
          exact ⟨b.length - (p + 1), by omega, rfl, p + 1, rfl, rfl, by omega⟩
        · exact ⟨_, rfl, _, _, rfl, rfl, rfl, rfl⟩
    · refine goF (decide_eq_false (by omega)) ?_
      refine goF rfl (fin (lineLen_out (by omega)))
end
end Tk
end

section
set_option maxHeartbeats 2000000
namespace Tk
open PySem PySem.Spec PyProof.Rows L2
open Dbm (Bytes)
/-! ### bytes at places -/
theorem bAt_iff {b : Bytes} {p : Nat} (c : UInt8) : bAt b p = (c.toNat : Int) ↔ b[p]? = some c := by
  unfold bAt
  cases h : b[p]? with
  | none =>
    simp only []
    constructor
    · intro e
      omega
    · intro e; cases e
  | some d =>
    simp only [Option.some.injEq]
    constructor
    · intro e
      apply UInt8.toNat_inj.mp
      omega
    · intro e; rw [e]
theorem bAt_ge (b : Bytes) (p : Nat) : -1 ≤ bAt b p ∧ bAt b p < 256 := by
  unfold bAt
  cases h : b[p]? with
  | none => simp only []; omega
  | some d =>
    have := d.toNat_lt
    simp only []
    omega
theorem head_drop (f : UInt8 → Bool) (b : Bytes) (p : Nat) : Lx.isHead f (b.drop p) = (b[p]?.map f).getD false := by
  unfold Lx.isHead
  rw [List.head?_drop]
theorem digI_bAt (b : Bytes) (p : Nat) : digI (bAt b p) = Lx.isHead Dbm.isDigit (b.drop p) := by
  rw [head_drop]
  unfold bAt digI Dbm.isDigit
  cases h : b[p]? with
  | none => rfl
  | some d =>
    simp only [Option.map_some, Option.getD_some]
    rw [Bool.eq_iff_iff]
    simp only [Bool.and_eq_true, decide_eq_true_eq]
    omega
theorem byte_eq (d c : UInt8) : (d == c) = decide (d.toNat = c.toNat) := by
  rw [Bool.eq_iff_iff]
  simp only [beq_iff_eq, decide_eq_true_eq]
  exact UInt8.toNat_inj.symm
theorem wordI_bAt (b : Bytes) (p : Nat) : wordI (bAt b p) = Lx.isHead Si22.isLetter (b.drop p) := by
  rw [head_drop]
  unfold bAt wordI Si22.isLetter
  cases h : b[p]? with
  | none => rfl
  | some d =>
    simp only [Option.map_some, Option.getD_some, byte_eq]
    rw [Bool.eq_iff_iff]
    simp only [Bool.and_eq_true, Bool.or_eq_true, decide_eq_true_eq]
    show _ ↔ (65 ≤ d.toNat ∧ d.toNat ≤ 90) ∨ (97 ≤ d.toNat ∧ d.toNat ≤ 122) ∨ d.toNat = 95
    omega
theorem inwI_bAt (b : Bytes) (p : Nat) : inwI (bAt b p) = Lx.isHead Si22.isWordByte (b.drop p) := by
  unfold inwI
  rw [wordI_bAt, digI_bAt, head_drop, head_drop, head_drop]
  unfold Si22.isWordByte
  cases h : b[p]? with
  | none => rfl
  | some d => rfl
theorem eqV_ii (i j : Int) : eqV (.int i) (.int j) = (i == j) := rfl
/-! ### what stands between tokens -/
theorem gap_out {b : Bytes} {n : Nat} (h : b.length ≤ n) : Lx.gap (b.drop n) = 0 := by
  rw [List.drop_eq_nil_of_le h, Lx.gap_nil]
def blankI (i : Int) : Bool := i == 9 || (i == 10 || (i == 13 || i == 32))
theorem blank_is {b : Bytes} {n : Nat} (h : n < b.length) : Si22.isBlank b[n] = blankI (bAt b n) := by
  unfold bAt
  rw [List.getElem?_eq_getElem h]
  unfold Si22.isBlank blankI
  simp only [byte_eq]
  rw [Bool.eq_iff_iff]
  simp only [Bool.or_eq_true, beq_iff_eq, decide_eq_true_eq]
  show b[n].toNat = 32 ∨ b[n].toNat = 9 ∨ b[n].toNat = 10 ∨ b[n].toNat = 13 ↔ _
  omega
theorem remark_is {b : Bytes} {n : Nat} : Lx.remark (b.drop n) = (decide (bAt b n = 45) && decide (bAt b (n + 1) = 45)) := by
  have e1 := bAt_iff (b := b) (p := n) 45
  have e2 := bAt_iff (b := b) (p := n + 1) 45
  have e1 : bAt b n = 45 ↔ b[n]? = some 45 := e1
  have e2 : bAt b (n + 1) = 45 ↔ b[n + 1]? = some 45 := e2
  rw [Bool.eq_iff_iff]
  simp only [Bool.and_eq_true, decide_eq_true_eq]
  rw [e1, e2]
  have h1 : b[n]? = (b.drop n)[0]? := by rw [List.getElem?_drop]; rfl
  have h2 : b[n + 1]? = (b.drop n)[1]? := by rw [List.getElem?_drop]
  rw [h1, h2]
  match b.drop n with
  | [] => simp [Lx.remark]
  | [c] => simp [Lx.remark]
  | c :: d :: r => simp [Lx.remark]
theorem gap_in {b : Bytes} {n : Nat} (h : n < b.length) : Lx.gap (b.drop n) =
    if blankI (bAt b n) = true then Lx.gap (b.drop (n + 1)) + 1
    else if (decide (bAt b n = 45) && decide (bAt b (n + 1) = 45)) = true then Lx.lineLen (b.drop n) + Lx.gap (b.drop (n + Lx.lineLen (b.drop n)))
    else 0 := by
  have hd := List.drop_eq_getElem_cons h
  have hb := blank_is h
  have hr := remark_is (b := b) (n := n)
  rw [← hb, ← hr, show b.drop (n + Lx.lineLen (b.drop n)) = (b.drop n).drop (Lx.lineLen (b.drop n)) by rw [List.drop_drop]]
  cases e : Si22.isBlank b[n] with
  | true =>
    rw [if_pos rfl, hd, Lx.gap_blank e]
  | false =>
    rw [if_neg Bool.false_ne_true]
    cases e2 : Lx.remark (b.drop n) with
    | true =>
      rw [if_pos rfl]
      rw [hd] at e2 ⊢
      exact Lx.gap_remark e e2
    | false =>
      rw [if_neg Bool.false_ne_true]
      rw [hd] at e2 ⊢
      exact Lx.gap_none e e2
section
variable {P : Program} {w : World} {K : PySem.W.Frag} {mg : Str → Option Value} {base : Heap}
def blankVs : List V := [.int 9, .int 10, .int 13, .int 32]
theorem inV_blank (i : Int) : inV (.int i) blankVs = blankI i := by
  unfold inV blankVs blankI
  simp only [List.any_cons, List.any_nil, eqV_ii, Bool.or_false]
  rw [Bool.eq_iff_iff]
  simp only [Bool.or_eq_true, beq_iff_eq]
  omega
def spNextPlace (K : PySem.W.Frag) : Sp := fun vs H Q _ => ∃ (a : Addr) (b : Bytes) (n : Nat), vs = [.ref a, .int (n : Int)] ∧ SqL K H a (tx b) ∧ Q (.int ((n + Lx.gap (b.drop n) : Nat) : Int)) H
theorem sc_next_place : FnScope ["text", "place"] ["text", "place"] (defScope s_next_place) := ⟨rfl, rfl, rfl, by decide +kernel, rfl, by decide +kernel, by decide +kernel⟩
theorem ok_next_place {f f1 f2 aB : Addr} {fd fd1 fd2 : FuncData} {t t2 : Tok} (F : Fun K "next_place" "next_place" s_next_place f fd) (len : mg "len" = none) (lf : mg "LINE_FEED" = some (.int 10 t)) (mi : mg "MINUS" = some (.int 45 t2))
    (bb : mg "BLANK_BYTES" = some (.ref aB)) (hB : ∀ H, SqT K H aB blankVs) (A1 : At K mg "byte_at" s_byte_at ["text", "place"] f1 fd1) (A2 : At K mg "line_end" s_line_end ["text", "place"] f2 fd2) : FnOk P w K mg base CX0 2 f fd ["text", "place"] (spNextPlace K) := by
  refine F.ok sc_next_place (fun vs H Q E h => ?_) (fun cdv A outer s H vs Q E hr h => ?_)
  · obtain ⟨a, b, n, rfl, _⟩ := h
    rfl
  · obtain ⟨a, b, n, rfl, hS, k⟩ := h
    refine ⟨_, pss_cons (ps_while PassesOwn.never (pt_cmpR op_lt (pv 1) (pe_callB call_len_seq (by rfl) len PySem.boot_len (pa_cons (pv 0) pa_nil)) (nomark _))
      (pss_one (ps_if (pt_cmpR op_in_seq (pe_ix ix_list (pv 0) (pv 1) (fun _ _ => rfl)) (pe_glob (v := .ref aB) rfl bb rfl) (by rfl))
        (pss_one (ps_aug (i := 1) sc_next_place.nd rfl (.inl rfl) pe_int ip_add))
        (pss_one (ps_if (PW.pt (pw_and (pt_cmpR op_eq (pe_ix ix_list (pv 0) (pv 1) (fun _ _ => rfl)) (pe_glob (v := .int 45) rfl mi ⟨_, rfl⟩) (nomark _))
            (pw_and1 (pt_cmpR op_eq (pe_call (ok_byte_at A1.F len) hr rfl A1.g A1.F.kp A1.b .nil pass0 (pa_cons (pv 0) (pa_cons (pe_op op_add (pv 1) pe_int) pa_nil))) (pe_glob (v := .int 45) rfl mi ⟨_, rfl⟩) (nomark _)))))
          (pss_one (ps_set (i := 1) sc_next_place.nd rfl (.inl rfl) (pe_call (ok_line_end A2.F len lf) hr rfl A2.g A2.F.kp A2.b .nil pass0 (pa_cons (pv 0) (pa_cons (pv 1) pa_nil)))))
          (pss_one (ps_ret (pv 1)))))))) (pss_one (ps_ret (pv 1))), ?_⟩
    refine ⟨fun m σ H' => H' = H ∧ ∃ p : Nat, σ = [some (.ref a), some (.int (p : Int))] ∧ m = b.length - p ∧ p + Lx.gap (b.drop p) = n + Lx.gap (b.drop n), ⟨_, rfl, n, rfl, rfl, rfl⟩, ?_⟩
    rintro m σ H' ⟨rfl, p, rfl, rfl, e⟩
    refine ⟨_, rfl, _, rfl, a, tx b, rfl, .inl hS, _, _, rfl, rfl, _, rfl, ?_⟩
    rw [tx_len]
    have fin : Lx.gap (b.drop p) = 0 → tRet (tVar 1) { nx := fun _ H' => Q .non H', rt := Q } [some (.ref a), some (.int (p : Int))] H' := fun z => by
      refine ⟨_, rfl, ?_⟩
      rw [← e, z] at k
      exact k
    by_cases h1 : p < b.length
    · refine goT (decide_eq_true (by omega)) ?_
      have hg := gap_in h1
      refine ⟨fun σ' H2 => H2 = H' ∧ ∃ q : Nat, σ' = [some (.ref a), some (.int (q : Int))] ∧ p < q ∧ q + Lx.gap (b.drop q) = n + Lx.gap (b.drop n), ?_, ?_⟩
      · rintro σ' H2 ⟨rfl, q, rfl, hq, e2⟩
        exact ⟨b.length - q, by omega, rfl, q, rfl, rfl, e2⟩
      · refine ⟨_, rfl, _, rfl, a, tx b, _, _, rfl, rfl, hS, atI_nat (tx_get h1), aB, blankVs, rfl, .inr (hB _), rfl, rfl, _, rfl, ?_⟩
        simp only [Bool.false_eq_true, if_false]
        rw [inV_blank]
        cases hbl : blankI (bAt b p) with
        | true =>
          rw [hbl, if_pos rfl] at hg
          refine iteT ⟨_, rfl, _, _, rfl, rfl, rfl, p + 1, rfl, by omega, by omega⟩
        | false =>
          rw [hbl, if_neg Bool.false_ne_true] at hg
          refine iteF ⟨_, rfl, _, rfl, a, tx b, _, _, rfl, rfl, hS, atI_nat (tx_get h1), rfl, _, rfl, ?_⟩
          rw [decV]
          by_cases h2 : bAt b p = 45
          · refine goT (decide_eq_true h2) ?_
            refine ⟨_, rfl, _, rfl, _, _, rfl, rfl, a, b, p + 1, rfl, hS, rfl, _, rfl, ?_⟩
            rw [decV]
            by_cases h3 : bAt b (p + 1) = 45
            · rw [decide_eq_true h2, decide_eq_true h3] at hg
              refine goT (decide_eq_true h3) ?_
              have hl : 1 ≤ Lx.lineLen (b.drop p) := by
                rw [lineLen_in h1, if_neg (by omega)]
                omega
              refine ⟨_, rfl, _, rfl, a, b, p, rfl, hS, rfl, p + Lx.lineLen (b.drop p), rfl, by omega, ?_⟩
              rw [← e, hg]
              simp
              omega
            · rw [decide_eq_true h2, decide_eq_false h3] at hg
              refine goF (decide_eq_false h3) ?_
              exact fin hg
          · rw [decide_eq_false h2] at hg
            refine goF (decide_eq_false h2) (goF rfl ?_)
            exact fin hg
    · refine goF (decide_eq_false (by omega)) ?_
      exact fin (gap_out (by omega))
end
end Tk
end

section
set_option maxHeartbeats 2000000
namespace Tk
open PySem PySem.Spec PyProof.Rows L2
open Dbm (Bytes)
/-! ### digits -/
theorem digitsLen_in {b : Bytes} {n : Nat} : Lx.digitsLen (b.drop n) = if digI (bAt b n) = true then Lx.digitsLen (b.drop (n + 1)) + 1 else 0 := by
  rw [digI_bAt]
  unfold Lx.digitsLen
  by_cases h : n < b.length
  · rw [List.drop_eq_getElem_cons h]
    unfold Lx.isHead
    simp only [List.head?_cons, Option.map_some, Option.getD_some, List.takeWhile_cons]
    by_cases hd : Dbm.isDigit b[n] = true
    · simp [hd]
    · simp [hd]
  · rw [List.drop_eq_nil_of_le (by omega)]
    rfl
theorem digI_lt {b : Bytes} {n : Nat} (h : digI (bAt b n) = true) : n < b.length := by
  unfold bAt at h
  cases e : b[n]? with
  | none => rw [e] at h; cases h
  | some c => exact (List.getElem?_eq_some_iff.mp e).1
theorem digits_pos {b : Bytes} {n : Nat} : digI (bAt b n) = true ↔ Lx.digitsLen (b.drop n) ≠ 0 := by
  rw [digitsLen_in]
  cases digI (bAt b n) with
  | true => simp
  | false => simp
section
variable {P : Program} {w : World} {K : PySem.W.Frag} {mg : Str → Option Value} {base : Heap}
def spDigitsEnd (K : PySem.W.Frag) : Sp := fun vs H Q _ => ∃ (a : Addr) (b : Bytes) (n : Nat), vs = [.ref a, .int (n : Int)] ∧ SqL K H a (tx b) ∧ Q (.int ((n + Lx.digitsLen (b.drop n) : Nat) : Int)) H
theorem sc_digits_end : FnScope ["text", "place"] ["text", "place"] (defScope s_digits_end) := ⟨rfl, rfl, rfl, by decide +kernel, rfl, by decide +kernel, by decide +kernel⟩
theorem ok_digits_end {f f1 f2 : Addr} {fd fd1 fd2 : FuncData} (F : Fun K "digits_end" "digits_end" s_digits_end f fd) (len : mg "len" = none)
    (A1 : At K mg "byte_at" s_byte_at ["text", "place"] f1 fd1) (A2 : At K mg "is_digit" s_is_digit ["byte"] f2 fd2) : FnOk P w K mg base CX0 2 f fd ["text", "place"] (spDigitsEnd K) := by
  refine F.ok sc_digits_end (fun vs H Q E h => ?_) (fun cdv A outer s H vs Q E hr h => ?_)
  · obtain ⟨a, b, n, rfl, _⟩ := h
    rfl
  · obtain ⟨a, b, n, rfl, hS, k⟩ := h
    refine ⟨_, pss_cons (ps_while PassesOwn.never (pt_val (pe_call (ok_is_digit A2.F) hr rfl A2.g A2.F.kp A2.b .nil pass0 (pa_cons (pe_call (ok_byte_at A1.F len) hr rfl A1.g A1.F.kp A1.b .nil pass0 (pa_cons (pv 0) (pa_cons (pv 1) pa_nil))) pa_nil)))
      (pss_one (ps_aug (i := 1) sc_digits_end.nd rfl (.inl rfl) pe_int ip_add))) (pss_one (ps_ret (pv 1))), ?_⟩
    refine ⟨fun m σ H' => H' = H ∧ ∃ p : Nat, σ = [some (.ref a), some (.int (p : Int))] ∧ m = b.length - p ∧ p + Lx.digitsLen (b.drop p) = n + Lx.digitsLen (b.drop n), ⟨_, rfl, n, rfl, rfl, rfl⟩, ?_⟩
    rintro m σ H' ⟨rfl, p, rfl, rfl, e⟩
    refine ⟨_, rfl, _, rfl, a, b, p, rfl, hS, _, rfl, _, rfl, ?_⟩
    have hl := digitsLen_in (b := b) (n := p)
    cases hd : digI (bAt b p) with
    | true =>
      rw [hd, if_pos rfl] at hl
      have h1 := digI_lt hd
      refine iteT ⟨fun σ' H2 => H2 = H' ∧ σ' = [some (.ref a), some (.int ((p + 1 : Nat) : Int))], ?_, _, rfl, _, _, rfl, rfl, rfl, rfl⟩
      rintro σ' H2 ⟨rfl, rfl⟩
      exact ⟨b.length - (p + 1), by omega, rfl, p + 1, rfl, rfl, by omega⟩
    | false =>
      rw [hd, if_neg Bool.false_ne_true] at hl
      refine iteF ⟨_, rfl, ?_⟩
      rw [← e, hl] at k
      exact k
/-! ### half_byte -/
def halfI (i : Int) : Int := if digI i = true then i - 48 else if (decide (97 ≤ i) && decide (i ≤ 102)) = true then i - 87 else -1
def spHalf : Sp := fun vs H Q _ => ∃ i : Int, vs = [.int i] ∧ Q (.int (halfI i)) H
theorem sc_half_byte : FnScope ["digit"] ["digit"] (defScope s_half_byte) := ⟨rfl, rfl, rfl, by decide +kernel, rfl, by decide +kernel, by decide +kernel⟩
theorem ok_half_byte {f f1 : Addr} {fd fd1 : FuncData} (F : Fun K "half_byte" "half_byte" s_half_byte f fd) (A1 : At K mg "is_digit" s_is_digit ["byte"] f1 fd1) : FnOk P w K mg base CX0 2 f fd ["digit"] spHalf := by
  refine F.ok sc_half_byte (fun vs H Q E h => ?_) (fun cdv A outer s H vs Q E hr h => ?_)
  · obtain ⟨i, rfl, _⟩ := h
    rfl
  · obtain ⟨i, rfl, k⟩ := h
    refine ⟨_, pss_cons (ps_if (pt_val (pe_call (ok_is_digit A1.F) hr rfl A1.g A1.F.kp A1.b .nil pass0 (pa_cons (pv 0) pa_nil))) (pss_one (ps_ret (pe_op op_sub (pv 0) pe_int))) pss_nil)
      (pss_cons (ps_if (pt_chain op_le op_le pe_int (pv 0) pe_int) (pss_one (ps_ret (pe_op op_sub (pv 0) pe_int))) pss_nil) (pss_one (ps_ret (pe_un un_neg pe_int)))), ?_⟩
    unfold halfI at k
    refine ⟨_, rfl, _, rfl, _, rfl, ?_⟩
    cases hd : digI i with
    | true =>
      rw [hd, if_pos rfl] at k
      exact iteT ⟨_, rfl, _, _, rfl, rfl, k⟩
    | false =>
      rw [hd, if_neg Bool.false_ne_true] at k
      refine iteF ⟨_, rfl, _, _, rfl, rfl, _, rfl, ?_⟩
      cases h1 : decide (97 ≤ i) with
      | true =>
        rw [h1] at k
        refine iteT ⟨_, _, rfl, rfl, _, rfl, ?_⟩
        cases h2 : decide (i ≤ 102) with
        | true => rw [h2] at k; exact iteT ⟨_, rfl, _, _, rfl, rfl, k⟩
        | false => rw [h2] at k; exact iteF ⟨_, rfl, k⟩
      | false => rw [h1] at k; exact iteF ⟨_, rfl, iteF ⟨_, rfl, k⟩⟩
/-! ### exponent_end -/
theorem same_upd {H H' : Hp} {p : Addr} {o : HO} (s : Same H H') (h : H p = none) : Same H (upd H' p o) := fun b u e => by
  rw [upd_ne (ne_of_none e h)]
  exact s b u e
theorem same_up {H H' : Hp} {p : Addr} {o : HO} (s : Same H H') (h : H' p = none) : Same H (upd H' p o) := same_upd s (s.free h)
theorem inV_two (i j k : Int) : inV (.int i) [.int j, .int k] = (j == i || k == i) := by
  unfold inV
  simp only [List.any_cons, List.any_nil, eqV_ii, Bool.or_false]
theorem bAt_none {b : Bytes} {n : Nat} (h : b.length ≤ n) : bAt b n = -1 := by
  unfold bAt
  rw [List.getElem?_eq_none h]
theorem bAt_lt {b : Bytes} {n : Nat} (h : n < b.length) : bAt b n = (b[n].toNat : Int) := by
  unfold bAt
  rw [List.getElem?_eq_getElem h]
theorem expLen_at (b : Bytes) (n : Nat) : Lx.expLen (b.drop n) =
    if (69 == bAt b n || 101 == bAt b n) = true then
      (if digI (bAt b (if (43 == bAt b (n + 1) || 45 == bAt b (n + 1)) = true then n + 2 else n + 1)) = true
        then (if (43 == bAt b (n + 1) || 45 == bAt b (n + 1)) = true then n + 2 else n + 1) + Lx.digitsLen (b.drop (if (43 == bAt b (n + 1) || 45 == bAt b (n + 1)) = true then n + 2 else n + 1)) - n else 0)
    else 0 := by
  by_cases h : n < b.length
  · have a1 : bAt b n = (69 : UInt8).toNat ↔ b[n]? = some 69 := bAt_iff 69
    have a2 : bAt b n = (101 : UInt8).toNat ↔ b[n]? = some 101 := bAt_iff 101
    have a3 : bAt b (n + 1) = (43 : UInt8).toNat ↔ b[n + 1]? = some 43 := bAt_iff 43
    have a4 : bAt b (n + 1) = (45 : UInt8).toNat ↔ b[n + 1]? = some 45 := bAt_iff 45
    have q0 : (69 == bAt b n || 101 == bAt b n) = decide (b[n] = 69 ∨ b[n] = 101) := by
      rw [List.getElem?_eq_getElem h, Option.some.injEq] at a1 a2
      rw [Bool.eq_iff_iff]
      simp only [Bool.or_eq_true, beq_iff_eq, decide_eq_true_eq]
      rw [← a1, ← a2]
      show (69 : Int) = _ ∨ (101 : Int) = _ ↔ _ = (69 : Int) ∨ _ = (101 : Int)
      omega
    have q1 : (43 == bAt b (n + 1) || 45 == bAt b (n + 1)) = decide ((b.drop (n + 1)).head? = some 43 ∨ (b.drop (n + 1)).head? = some 45) := by
      rw [List.head?_drop]
      rw [Bool.eq_iff_iff]
      simp only [Bool.or_eq_true, beq_iff_eq, decide_eq_true_eq]
      rw [← a3, ← a4]
      show (43 : Int) = _ ∨ (45 : Int) = _ ↔ _ = (43 : Int) ∨ _ = (45 : Int)
      omega
    rw [List.drop_eq_getElem_cons h]
    simp only [Lx.expLen]
    rw [q0, q1]
    simp only [decide_eq_true_eq]
    by_cases h1 : b[n] = 69 ∨ b[n] = 101
    · rw [if_pos h1, if_pos h1]
      by_cases h2 : (b.drop (n + 1)).head? = some 43 ∨ (b.drop (n + 1)).head? = some 45
      · simp only [if_pos h2, List.drop_drop, show n + 1 + 1 = n + 2 from rfl]
        have := digits_pos (b := b) (n := n + 2)
        by_cases h3 : Lx.digitsLen (b.drop (n + 2)) = 0
        · rw [if_pos h3, if_neg (fun z => this.mp z h3)]
        · rw [if_neg h3, if_pos (this.mpr h3)]
          omega
      · simp only [if_neg h2, List.drop_drop, Nat.add_zero]
        have := digits_pos (b := b) (n := n + 1)
        by_cases h3 : Lx.digitsLen (b.drop (n + 1)) = 0
        · rw [if_pos h3, if_neg (fun z => this.mp z h3)]
        · rw [if_neg h3, if_pos (this.mpr h3)]
          omega
    · rw [if_neg h1, if_neg h1]
  · rw [List.drop_eq_nil_of_le (by omega), bAt_none (by omega)]
    rfl
def spExpEnd (K : PySem.W.Frag) : Sp := fun vs H Q _ => ∃ (a : Addr) (b : Bytes) (n : Nat), vs = [.ref a, .int (n : Int)] ∧ SqL K H a (tx b) ∧ ∀ H', Same H H' → Q (.int ((n + Lx.expLen (b.drop n) : Nat) : Int)) H'
theorem sc_exponent_end : FnScope ["text", "place", "digits"] ["text", "place"] (defScope s_exponent_end) := ⟨rfl, rfl, rfl, by decide +kernel, rfl, by decide +kernel, by decide +kernel⟩
theorem ok_exponent_end {f f1 f2 f3 : Addr} {fd fd1 fd2 fd3 : FuncData} (F : Fun K "exponent_end" "exponent_end" s_exponent_end f fd) (len : mg "len" = none)
    (A1 : At K mg "byte_at" s_byte_at ["text", "place"] f1 fd1) (A2 : At K mg "is_digit" s_is_digit ["byte"] f2 fd2) (A3 : At K mg "digits_end" s_digits_end ["text", "place"] f3 fd3) : FnOk P w K mg base CX0 3 f fd ["text", "place"] (spExpEnd K) := by
  refine F.ok sc_exponent_end (fun vs H Q E h => ?_) (fun cdv A outer s H vs Q E hr h => ?_)
  · obtain ⟨a, b, n, rfl, _⟩ := h
    rfl
  · obtain ⟨a, b, n, rfl, hS, k⟩ := h
    have hr1 := hr.mono (show 1 ≤ 2 by decide)
    refine ⟨_, pss_cons (ps_if (pt_cmpR op_notIn_seq (pe_call (ok_byte_at A1.F len) hr1 rfl A1.g A1.F.kp A1.b .nil pass0 (pa_cons (pv 0) (pa_cons (pv 1) pa_nil))) (pe_tup (pa_cons pe_int (pa_cons pe_int pa_nil))) (by rfl)) (pss_one (ps_ret (pv 1))) pss_nil)
      (pss_cons (ps_set (i := 2) sc_exponent_end.nd rfl (.inl rfl) (pe_op op_add (pv 1) pe_int))
      (pss_cons (ps_if (pt_cmpR op_in_seq (pe_call (ok_byte_at A1.F len) hr1 rfl A1.g A1.F.kp A1.b .nil pass0 (pa_cons (pv 0) (pa_cons (pv 2) pa_nil))) (pe_tup (pa_cons pe_int (pa_cons pe_int pa_nil))) (by rfl)) (pss_one (ps_aug (i := 2) sc_exponent_end.nd rfl (.inl rfl) pe_int ip_add)) pss_nil)
      (pss_cons (ps_if (pt_val (pe_call (ok_is_digit A2.F) hr1 rfl A2.g A2.F.kp A2.b .nil pass0 (pa_cons (pe_call (ok_byte_at A1.F len) hr1 rfl A1.g A1.F.kp A1.b .nil pass0 (pa_cons (pv 0) (pa_cons (pv 2) pa_nil))) pa_nil)))
        (pss_one (ps_ret (pe_call (ok_digits_end A3.F len A1 A2) hr rfl A3.g A3.F.kp A3.b .nil pass0 (pa_cons (pv 0) (pa_cons (pv 2) pa_nil))))) pss_nil)
      (pss_one (ps_ret (pv 1)))))), ?_⟩
    have he := expLen_at b n
    have two : 2 ≤ sizeLine := by decide
    refine ⟨_, rfl, _, rfl, a, b, n, rfl, hS, two, fun t1 ht1 => ⟨t1, _, rfl, .inr (SqT.of upd_same), rfl, rfl, _, rfl, ?_⟩⟩
    have s1 : Same H (upd H t1 (.tup [.int 69, .int 101])) := same_up (Same.refl H) ht1
    simp only [if_true]
    rw [inV_two]
    cases c1 : (69 == bAt b n || 101 == bAt b n) with
    | false =>
      rw [c1, if_neg Bool.false_ne_true] at he
      rw [he] at k
      exact iteT ⟨_, rfl, k _ s1⟩
    | true =>
      rw [c1, if_pos rfl] at he
      refine iteF ⟨_, rfl, _, _, rfl, rfl, ?_⟩
      refine ⟨_, rfl, _, rfl, a, b, n + 1, rfl, s1.seq hS, two, fun t2 ht2 => ⟨t2, _, rfl, .inr (SqT.of upd_same), rfl, rfl, _, rfl, ?_⟩⟩
      have s2 := same_up (o := .tup [.int 43, .int 45]) s1 ht2
      simp only [Bool.false_eq_true, if_false]
      rw [inV_two]
      cases c2 : (43 == bAt b (n + 1) || 45 == bAt b (n + 1)) with
      | true =>
        rw [c2] at he
        simp only [if_true] at he
        refine iteT ⟨_, rfl, _, _, rfl, rfl, ?_⟩
        refine ⟨_, rfl, _, rfl, a, b, n + 2, rfl, s2.seq hS, _, rfl, _, rfl, ?_⟩
        cases c3 : digI (bAt b (n + 2)) with
        | true =>
          rw [c3, if_pos rfl] at he
          refine iteT ⟨_, rfl, _, rfl, a, b, n + 2, rfl, s2.seq hS, ?_⟩
          have := k _ s2
          rw [he, show n + (n + 2 + Lx.digitsLen (b.drop (n + 2)) - n) = n + 2 + Lx.digitsLen (b.drop (n + 2)) by omega] at this
          exact this
        | false =>
          rw [c3, if_neg Bool.false_ne_true] at he
          have := k _ s2
          rw [he] at this
          exact iteF ⟨_, rfl, this⟩
      | false =>
        rw [c2] at he
        simp only [Bool.false_eq_true, if_false] at he
        refine iteF ?_
        refine ⟨_, rfl, _, rfl, a, b, n + 1, rfl, s2.seq hS, _, rfl, _, rfl, ?_⟩
        cases c3 : digI (bAt b (n + 1)) with
        | true =>
          rw [c3, if_pos rfl] at he
          refine iteT ⟨_, rfl, _, rfl, a, b, n + 1, rfl, s2.seq hS, ?_⟩
          have := k _ s2
          rw [he, show n + (n + 1 + Lx.digitsLen (b.drop (n + 1)) - n) = n + 1 + Lx.digitsLen (b.drop (n + 1)) by omega] at this
          exact this
        | false =>
          rw [c3, if_neg Bool.false_ne_true] at he
          have := k _ s2
          rw [he] at this
          exact iteF ⟨_, rfl, this⟩
end
end Tk
end

section
set_option maxHeartbeats 2000000
namespace Tk
open PySem PySem.Spec PyProof.Rows L2
open Dbm (Bytes)
/-! ### undoubled -/
theorem undouble_in {b : Bytes} {p : Nat} {q : UInt8} (h : p < b.length) : Lx.undouble q (b.drop p) = b[p] :: Lx.undouble q (b.drop (if b[p] = q then p + 2 else p + 1)) := by
  rw [List.drop_eq_getElem_cons h]
  by_cases h2 : p + 1 < b.length
  · rw [List.drop_eq_getElem_cons h2]
    rw [Lx.undouble.eq_3]
    by_cases e : b[p] = q
    · rw [if_pos e, if_pos e]
    · rw [if_neg e, if_neg e, List.drop_eq_getElem_cons h2]
  · have e1 : b.drop (p + 1) = [] := List.drop_eq_nil_of_le (by omega)
    have e2 : b.drop (p + 2) = [] := List.drop_eq_nil_of_le (by omega)
    rw [e1]
    by_cases e : b[p] = q
    · rw [if_pos e, e2]; rfl
    · rw [if_neg e, e1]; rfl
theorem tx_app (x y : Bytes) : tx (x ++ y) = tx x ++ tx y := by unfold tx; rw [List.map_append]
theorem line_ok {n : Nat} (h : n ≤ 100000) : n < sizeLine := Nat.lt_of_le_of_lt h (by decide)
section
variable {P : Program} {w : World} {K : PySem.W.Frag} {mg : Str → Option Value} {base : Heap}
def spUndoubled (K : PySem.W.Frag) : Sp := fun vs H Q _ => ∃ (a : Addr) (b : Bytes) (c : UInt8), vs = [.ref a, .int (c.toNat : Int)] ∧ SqL K H a (tx b) ∧ b.length ≤ 100000 ∧
  ∀ H' p, Same H H' → H p = none → H' p = some (.lst (tx (Lx.undouble c b))) → Q (.ref p) H'
theorem sc_undoubled : FnScope ["content", "sign", "single", "place"] ["content", "sign"] (defScope s_undoubled) := ⟨rfl, rfl, rfl, by decide +kernel, rfl, by decide +kernel, by decide +kernel⟩
theorem ok_undoubled {f : Addr} {fd : FuncData} (F : Fun K "undoubled" "undoubled" s_undoubled f fd) (len : mg "len" = none) : FnOk P w K mg base CX0 1 f fd ["content", "sign"] (spUndoubled K) := by
  refine F.ok sc_undoubled (fun vs H Q E h => ?_) (fun cdv A outer s H vs Q E hr h => ?_)
  · obtain ⟨a, b, n, rfl, _⟩ := h
    rfl
  · obtain ⟨a, b, c, rfl, hS, hb, k⟩ := h
    refine ⟨_, pss_cons (ps_set (i := 2) sc_undoubled.nd rfl (.inl rfl) (pe_lst pa_nil))
      (pss_cons (ps_set (i := 3) sc_undoubled.nd rfl (.inl rfl) pe_int)
      (pss_cons (ps_while PassesOwn.never (pt_cmpR op_lt (pv 3) (pe_callB call_len_seq (by rfl) len PySem.boot_len (pa_cons (pv 0) pa_nil)) (nomark _))
        (pss_cons (ps_expr (pe_bm PySem.F.plainAttrs_list PySem.F.slot_list_append PySem.F.type_list_append mt_append (pv 2) (pa_cons (pe_ix ix_list (pv 0) (pv 3) (fun _ _ => rfl)) pa_nil)))
        (pss_one (ps_aug (i := 3) sc_undoubled.nd rfl (.inl rfl) (pe_ifExp (pt_cmpR op_eq (pe_ix ix_list (pv 0) (pv 3) (fun _ _ => rfl)) (pv 1) (nomark _)) pe_int pe_int) ip_add))))
      (pss_one (ps_ret (pv 2))))), ?_⟩
    refine ⟨by show 0 ≤ sizeLine; decide, fun l hl => ?_⟩
    refine ⟨fun m σ H' => ∃ (p : Nat) (out : Bytes), σ = [some (.ref a), some (.int (c.toNat : Int)), some (.ref l), some (.int (p : Int))] ∧ m = b.length - p ∧ Same H H' ∧ H' l = some (.lst (tx out)) ∧ out.length ≤ p ∧ out ++ Lx.undouble c (b.drop p) = Lx.undouble c b,
      ⟨_, 0, [], rfl, rfl, same_up (Same.refl H) hl, upd_same, Nat.le_refl _, rfl⟩, ?_⟩
    rintro m σ H' ⟨p, out, rfl, rfl, s5, hL, ho, e⟩
    refine ⟨_, rfl, _, rfl, a, tx b, rfl, .inl (s5.seq hS), _, _, rfl, rfl, _, rfl, ?_⟩
    rw [tx_len]
    by_cases h1 : p < b.length
    · refine goT (decide_eq_true (by omega)) ?_
      have hu := undouble_in (q := c) h1
      refine ⟨fun σ' H2 => ∃ (q : Nat) (out : Bytes), σ' = [some (.ref a), some (.int (c.toNat : Int)), some (.ref l), some (.int (q : Int))] ∧ p < q ∧ Same H H2 ∧ H2 l = some (.lst (tx out)) ∧ out.length ≤ q ∧ out ++ Lx.undouble c (b.drop q) = Lx.undouble c b, ?_, ?_⟩
      · rintro σ' H2 ⟨q, out, rfl, hq, x1, x2, x3, x4⟩
        exact ⟨b.length - q, by omega, q, out, rfl, rfl, x1, x2, x3, x4⟩
      · have s6 : Same H (upd H' l (.lst (tx out ++ [.int (bAt b p)]))) := same_upd s5 hl
        refine ⟨_, rfl, .inl ⟨rfl, _, SqL.of hL⟩, _, rfl, _, rfl, a, tx b, _, _, rfl, rfl, s5.seq hS, atI_nat (tx_get h1), l, _, _, rfl, rfl, hL, line_ok (by rw [tx_len]; omega), ?_⟩
        refine ⟨_, rfl, _, rfl, _, rfl, a, tx b, _, _, rfl, rfl, s6.seq hS, atI_nat (tx_get h1), _, rfl, rfl, _, rfl, ?_⟩
        rw [decV]
        have eb : (bAt b p = (c.toNat : Int)) ↔ b[p] = c := by
          rw [bAt_iff, List.getElem?_eq_getElem h1, Option.some.injEq]
        have hx : tx out ++ [.int (bAt b p)] = tx (out ++ [b[p]]) := by
          rw [tx_app, bAt_lt h1]; rfl
        have fin : ∀ q : Nat, (if b[p] = c then p + 2 else p + 1) = q → p < q → ∃ (q' : Nat) (out' : Bytes), [some (V.ref a), some (.int (c.toNat : Int)), some (.ref l), some (.int (q : Int))] = [some (V.ref a), some (.int (c.toNat : Int)), some (.ref l), some (.int (q' : Int))] ∧ p < q' ∧ Same H (upd H' l (.lst (tx out ++ [.int (bAt b p)]))) ∧ upd H' l (.lst (tx out ++ [.int (bAt b p)])) l = some (.lst (tx out')) ∧ out'.length ≤ q' ∧ out' ++ Lx.undouble c (b.drop q') = Lx.undouble c b := by
          intro q hq hlt
          refine ⟨q, out ++ [b[p]], rfl, hlt, s6, by rw [upd_same, hx], by rw [List.length_append]; simp; omega, ?_⟩
          rw [← e, hu, hq, List.append_assoc]
          rfl
        by_cases h2 : b[p] = c
        · refine goT (decide_eq_true (eb.mpr h2)) ⟨_, _, rfl, rfl, ?_⟩
          exact fin (p + 2) (if_pos h2) (by omega)
        · refine goF (decide_eq_false (fun z => h2 (eb.mp z))) ⟨_, _, rfl, rfl, ?_⟩
          exact fin (p + 1) (if_neg h2) (by omega)
    · refine goF (decide_eq_false (by omega)) ⟨_, rfl, ?_⟩
      refine k _ l s5 hl ?_
      rw [hL, ← e, List.drop_eq_nil_of_le (by omega)]
      simp [Lx.undouble]
end
end Tk
end

section
set_option maxHeartbeats 2000000
/-! Own errors whose class stands under another class of the program, which stands under Exception. -/
namespace Tk
namespace Er
open PySem PySem.W PySem.Calls PyProof.Rows
open Builtin Builtin.ObjectAttr
abbrev tailE : List Value := PySem.ESX.exTail
abbrev lineOf (C R : Addr) : List Value := .ref C :: .ref R :: tailE
section
variable {prog : Program} {w : World} {A : Around} {E : Value → Shared → Prop} {R' : Result → Shared → Prop} {hp : Heap} {g : Array GenState} {d : Drawn} {t : Nat} {os : OsState} {K : W.Frag} {name : Str} {tk : Tok} {v : Value} {x C R : Addr} {cd : ClassData}
theorem in_line {n : String} (h : tailE.contains (.type n) = true) : (lineOf C R).contains (.type n) = true := by
  show (Value.ref C :: Value.ref R :: tailE).contains (.type n) = true
  rw [List.contains_cons, List.contains_cons, h, Bool.or_true, Bool.or_true]
theorem in_mro (hcd : W.clsIn K C = some cd) (hm : cd.mro = lineOf C R) {u : Value} (hu : (lineOf C R).contains u = true) : W.mroIn K C u = some true := by
  have ne : ¬ (lineOf C R).isEmpty = true := Bool.false_ne_true
  unfold W.mroIn
  rw [hcd, Option.bind_some, hm, if_neg ne, hu]
theorem no_refusal (self : Value) : refuseLoop self "__setattr__" (lineOf C R) = pure () := by
  show refuseLoop self "__setattr__" (.ref C :: .ref R :: tailE) = pure ()
  rw [refuseLoop_ref, refuseLoop_ref]; exact F.store_Exception.passes self
/-- object.__setattr__ comes to the own dict -/
theorem to_dict {ox : Obj} {od : Option Obj} (X : K.In hp) (I : W.InstAt hp x ox C od) (hcd : W.clsIn K C = some cd) (hm : cd.mro = lineOf C R) (ha : W.findIn K (.ref C) name = some none)
    (go : wpAny (model prog w) A.in1 (storeInOwnDict (.ref x) (.ref C) (.str name tk) name v false) (fun fin s' => match fin with | .done f => R' (.ok f) s' | .again c' => c'.quiet = true ∧ codeAny (model prog w) A c' R' s') (fun e s' => R' (.error e) s') ⟨hp, g, d, t, os⟩) :
    codeAny (model prog w) A (.call (.builtin "object.__setattr__") ⟨[.ref x, .str name tk, v], []⟩) R' ⟨hp, g, d, t, os⟩ := by
  have under : W.Looks (model prog w) hp (isInstance (.ref x) (.type "object")) true := I.type.andThen (W.looks_mroIn X (in_mro hcd hm (in_line (by decide +kernel))))
  have line : W.Looks (model prog w) hp (mroOf (.ref C)) cd.mro := (W.looks_clsIn X hcd).andThen .now
  have free : W.Looks (model prog w) hp (storeTaker? none) none := .now
  have S := F.store_object
  refine codeAny_call_builtin S.slot.plain S.entry (@W.check_slot (model prog w) _ _ ⟨hp, g, d, t, os⟩ "object.__setattr__" "object" "__setattr__" (.ref x) [.str name tk, v] [] _ S.kind S.split under (S.args (.ref x) (.str name tk) v) ?_)
  rw [W.osa_eq, refuse_eq]; refine wpAny_bind (wpAny_bind (I.type.at (wpAny_bind (line.at ?_))))
  rw [hm, no_refusal]; exact wpAny_pure (wpAny_bind (I.type.at (wpAny_bind ((W.looks_findIn X ha).at (wpAny_bind (free.at go))))))
/-- the first value: a dict is made for it -/
theorem first_in {fv : Array Value} (X : K.In hp) (hx : hp.get? x = some { cls := .ref C, data := .fields fv }) (hcd : W.clsIn K C = some cd) (hm : cd.mro = lineOf C R) (hh : cd.hasDict = true) (ha : W.findIn K (.ref C) name = some none)
    (go : ∀ h' tk' dx, (∀ b o, b ≠ x → hp.get? b = some o → h'.get? b = some o) → hp.objs.size ≤ dx → dx ≠ x → h'.get? x = some { cls := .ref C, dict := some dx, data := .fields fv } → h'.Ns1 dx (fun y => if y = name then some v else none) → R' (.ok (.ret .none)) ⟨h', g, d, tk', os⟩) :
    codeAny (model prog w) A (.call (.builtin "object.__setattr__") ⟨[.ref x, .str name tk, v], []⟩) R' ⟨hp, g, d, t, os⟩ := by
  have xs : x ≠ hp.objs.size := Nat.ne_of_lt (Heap.lt_size hx)
  refine to_dict X (od := none) ⟨hx, rfl, rfl, trivial⟩ hcd hm ha ?_
  have looks : W.Looks (model prog w) hp (classData C) cd := W.looks_clsIn X hcd
  cases cd with
  | mk nm bs mro ns qn hd sn sb ab col del =>
    cases (show hd = true from hh)
    unfold storeInOwnDict ownDictForStores
    repeat (first | with_reducible refine HandSPX.store_in_new ?_ ?_ | with_reducible refine wpAny_loadPart_at hx ?_ | with_reducible refine looks.at ?_ | wp_step)
    · refine ⟨_, #[], _, (Heap.get?_update_ne _ _ _ _ xs.symm).trans (Heap.get?_push_at rfl rfl), rfl, fun e he => ?_, fun _ => rfl⟩
      exact absurd he (by simp)
    · intro h' tk' hn' sb
      have hx1 : (hp.push { cls := .type "dict", data := .dict #[] }).get? x = some { cls := .ref C, data := .fields fv } := Heap.get?_push_of_some _ hx
      refine go h' tk' hp.objs.size (fun b o hb ho => ?_) (Nat.le_refl _) xs.symm ((sb.2 x xs).trans (Heap.get?_update_self _ hx1 rfl)) hn'
      exact (sb.2 b (Nat.ne_of_lt (Heap.lt_size ho))).trans ((Heap.get?_update_ne _ _ _ _ hb).trans (Heap.get?_push_of_some _ ho))
/-- a further value -/
theorem more_in {fv : Array Value} {dx : Addr} {m0 : Str → Option Value} {nl : List Str} (X : K.In hp) (hx : hp.get? x = some { cls := .ref C, dict := some dx, data := .fields fv }) (hns : hp.Ns1 dx m0) (hw : Within m0 nl) (hz : nl.length ≤ 1000)
    (hcd : W.clsIn K C = some cd) (hm : cd.mro = lineOf C R) (hh : cd.hasDict = true) (ha : W.findIn K (.ref C) name = some none)
    (go : ∀ h' tk', (∀ b o, b ≠ dx → hp.get? b = some o → h'.get? b = some o) → h'.Ns1 dx (fun y => if y = name then some v else m0 y) → R' (.ok (.ret .none)) ⟨h', g, d, tk', os⟩) :
    codeAny (model prog w) A (.call (.builtin "object.__setattr__") ⟨[.ref x, .str name tk, v], []⟩) R' ⟨hp, g, d, t, os⟩ := by
  obtain ⟨oD, _, _, hoD, _, _⟩ := hns.count hw
  refine to_dict X (od := some oD) ⟨hx, rfl, rfl, hoD⟩ hcd hm ha ?_
  have looks : W.Looks (model prog w) hp (classData C) cd := W.looks_clsIn X hcd
  cases cd with
  | mk nm bs mro ns qn hd sn sb ab col del =>
    cases (show hd = true from hh)
    unfold storeInOwnDict ownDictForStores
    repeat (first | with_reducible refine PySem.ESX.store_in_old hns hw hz ?_ | with_reducible refine wpAny_loadPart_at hx ?_ | with_reducible refine looks.at ?_ | wp_step)
    exact fun h' tk' hn' sb => go h' tk' (fun b o hb ho => (sb.2 b hb).trans ho) hn'
end
end Er
end Tk
namespace Tk
namespace Er
open PySem PySem.Spec PyProof.Rows L2
/-- what the written part says of such a class at C, under the class at R -/
structure Own (K : PySem.W.Frag) (C R : Addr) : Prop where
  cls : ∃ nm q N bs sn sub ab col dd k0 k1 k2 k3 k5, K.lookup C = some (excClassObj nm q C N bs (.ref R :: tailE) true sn sub ab col dd k0 k1 k2 k3 k5 "Exception.__new__")
  sa : PySem.W.findIn K (.ref C) "__setattr__" = some (some (.builtin "object.__setattr__"))
  exC : PySem.W.subIn K (.ref C) (.type "BaseException") = some true
  tyC : PySem.W.typeIn K (.ref C) = some (.type "type")
  kC : PySem.W.keepIn K (.ref C) = true
section
variable {X : Cx} {pins : List (Addr × Obj)} {σ : L2.St} {H : Hp} {s : Shared} {a C R dx : Addr} {f : Str} {y : V} {u : Value} {fs : List (Str × V)} {Q : Unit → Shared → Prop} {E : Value → Shared → Prop} {A : Around}
theorem Own.data (T : Own X.K C R) : ∃ cd, PySem.W.clsIn X.K C = some cd ∧ cd.mro = lineOf C R ∧ cd.hasDict = true := by
  obtain ⟨nm, q, N, bs, sn, sub, ab, col, dd, k0, k1, k2, k3, k5, hC⟩ := T.cls
  refine ⟨{ name := nm, bases := bs, mro := lineOf C R, ns := N, qualname := q, hasDict := true, slotNames := sn, subclasses := sub, abstract := ab, collection := col, hasDel := false }, ?_, rfl, rfl⟩
  unfold PySem.W.clsIn
  rw [hC] <;> rfl
/-- self.f = y, the first one: the heap behind it -/
theorem keep_first {h' : Heap} {g : Array GenState} {d : Drawn} {t t' : Nat} {os : OsState} {hp : Heap} {t1 : Addr} (I : Inv X pins σ H ⟨hp, g, d, t, os⟩) (e : H a = some (exo a C none)) (ry : RelV y u)
    (k : ∀ b o, b ≠ a → hp.get? b = some o → h'.get? b = some o) (dn : hp.objs.size ≤ dx) (dne : dx ≠ a)
    (hx : h'.get? a = some ({ cls := .ref C, dict := some dx, data := .fields #[.ref t1, .none, .none, .none, .bool false, .none] } : Obj)) (hn : h'.Ns1 dx (fun z => if z = f then some u else none)) :
    Inv X pins σ (upd (upd H dx (exd dx [(f, y)])) a (exo a C (some dx))) ⟨h', g, d, t', os⟩ := by
  have free : H dx = none := I.hok.fresh dn
  have old : ∀ {b : Addr} {o : Obj}, hp.get? b = some o → b ≠ dx := fun {b o} q => Nat.ne_of_lt (Nat.lt_of_lt_of_le (Heap.lt_size q) dn)
  have off : ∀ {b : Addr}, H b = none → b ≠ a := fun {b} n z => by rw [z, e] at n; cases n
  have two : ∀ {b : Addr}, b ≠ a → b ≠ dx → upd (upd H dx (exd dx [(f, y)])) a (exo a C (some dx)) b = H b := fun {b} h1 h2 => by rw [upd_ne h1, upd_ne h2]
  have U : Un X.fs [] H (upd (upd H dx (exd dx [(f, y)])) a (exo a C (some dx))) hp h' :=
    ⟨fun b o q n _ _ => k b o (off n) q, fun b o q n _ _ => ⟨o.slots, k b o (off n) q⟩, fun b o q n _ => (two (off n) (old q)).trans n,
      fun b o q _ => (Decidable.em (b = a)).elim (fun hb => ⟨_, hb ▸ hx⟩) (fun hb => ⟨o, k b o hb q⟩),
      fun b xs q => (two (at_ne e q exo_tup) (ne_of_none q free)).trans q, fun b o v q => (two (at_ne e q exo_frz) (ne_of_none q free)).trans q,
      fun b ps q => ⟨#[], by rw [two (at_ne e q exo_tbl) (ne_of_none q free), q]; simp⟩⟩
  refine I.un (t' := t') U fun b o q => ?_
  by_cases hb : b = a
  · subst hb
    rw [upd_same] at q
    cases q
    exact exo_ok hx
  · rw [upd_ne hb] at q
    by_cases hd : b = dx
    · subst hd
      rw [upd_same] at q
      cases q
      exact exd_ok hn (relO_put (fs := []) ry fun g => True.intro)
    · rw [upd_ne hd] at q
      have own : ∀ {c : Addr}, H c = some (.own b) → c ≠ a := fun {c} hc => at_ne e hc exo_own
      refine (I.hok b o q).stay (fun c v hc z => k c v ?_ z) (fun c hc => (two (own hc) (ne_of_none hc free)).trans hc) (fun c xs hc => (two (at_ne e hc exo_tup) (ne_of_none hc free)).trans hc)
      rcases hc with rfl | hc
      · exact hb
      · exact own hc
theorem set_first (T : Own X.K C R) (I : Inv X pins σ H s) (e : H a = some (exo a C none)) (hno : PySem.W.findIn X.K (.ref C) f = some none) (ry : RelV y u)
    (go : ∀ dx s', H dx = none → dx ≠ a → Inv X pins σ (upd (upd H dx (exd dx [(f, y)])) a (exo a C (some dx))) s' → Q () s') : wpAny (model X.prog X.w) A (setAttr (.ref a) f u) Q E s := by
  obtain ⟨cd, h1, h2, h3⟩ := T.data
  obtain ⟨t1, ho⟩ := exo_at I.hok e
  obtain ⟨hp, g, d, t, os⟩ := s
  refine PySem.W.set_plain I.kIn (od := none) ⟨ho, rfl, rfl, trivial⟩ T.sa (first_in I.kIn ho h1 h2 h3 hno fun h' tk' dx k dn dne hx hn => ?_)
  exact go dx _ (I.hok.fresh dn) dne (keep_first I e ry k dn dne hx hn)
theorem set_more (T : Own X.K C R) (I : Inv X pins σ H s) (e : H a = some (exo a C (some dx))) (ed : H dx = some (exd dx fs)) (hl : fs.length ≤ 900) (hno : PySem.W.findIn X.K (.ref C) f = some none) (ry : RelV y u)
    (go : ∀ s', Inv X pins σ (upd H dx (exd dx ((f, y) :: fs))) s' → Q () s') : wpAny (model X.prog X.w) A (setAttr (.ref a) f u) Q E s := by
  obtain ⟨cd, h1, h2, h3⟩ := T.data
  obtain ⟨t1, ho⟩ := exo_at I.hok e
  obtain ⟨mA, hns, rel⟩ := exd_at I.hok ed
  obtain ⟨hp, g, d, t, os⟩ := s
  have hw := within_of rel
  obtain ⟨oD, _, _, hoD, _, _⟩ := hns.count hw
  refine PySem.W.set_plain I.kIn (od := some oD) ⟨ho, rfl, rfl, hoD⟩ T.sa (more_in I.kIn ho hns hw (by rw [List.length_map]; omega) h1 h2 h3 hno fun h' tk' k hn => go _ ?_)
  refine I.write (t' := tk') (x := dx) (e := dx) (o := exd dx ((f, y) :: fs)) (by rw [ed]; exact True.intro) (.inl rfl) k ?_ (exd_ok hn (relO_put ry rel))
  obtain ⟨o, _, _, e', _⟩ := hn
  exact ⟨o, e'⟩
end
/-- self.f = e in the __init__ of such a class -/
def tSet (K : PySem.W.Frag) (f : Str) (to te : TE) : TS := fun D σ H => te σ H fun y H1 => to σ H1 fun x H2 => ∃ a C R : Addr, x = .ref a ∧ Own K C R ∧ PySem.W.findIn K (.ref C) f = some none ∧
  ((H2 a = some (exo a C none) ∧ ∀ dx, H2 dx = none → dx ≠ a → D.nx σ (upd (upd H2 dx (exd dx [(f, y)])) a (exo a C (some dx)))) ∨
    ∃ (dx : Addr) (fs : List (Str × V)), H2 a = some (exo a C (some dx)) ∧ H2 dx = some (exd dx fs) ∧ fs.length ≤ 900 ∧ D.nx σ (upd H2 dx (exd dx ((f, y) :: fs))))
section
variable {X : Cx} {o e : Expr} {es : List Expr} {to te : TE} {ta : TA} {f : Str} {p p' pos : Pos}
theorem ps_eset (ho : PE X o to) (he : PE X e te) (hs : swapsWith e (some (.Attribute o f p')) pos.line X.env = pure false := by rfl) : PS X (.Assign [.Attribute o f p'] e pos) (tSet X.K f to te) := by
  refine ⟨fun pins s σ H D I h => plainObj_wpAny_Assign_Attribute (thn (he.run pins s σ H _ I h) fun v s1 ⟨y, H1, I1, r1, q1⟩ => thn (ho.run pins s1 σ H1 _ I1 q1) fun u s2 ⟨x, H2, I2, r2, a, C, R, ex, T, hno, q⟩ => ?_) hs⟩
  subst ex
  cases (show u = Value.ref a from r2)
  rcases q with ⟨ea, q⟩ | ⟨dx, fs, ea, ed, hl, q⟩
  · exact set_first T I2 ea hno r1 fun dx s' n ne J => ⟨σ, _, J, q dx n ne⟩
  · exact set_more T I2 ea ed hl hno r1 fun s' J => ⟨σ, _, J, q⟩
/-- the end of C(e, ..), where nothing is handled -/
theorem mk_endN {pins : List (Addr × Obj)} {σ : L2.St} {H1 H2 : Hp} {Q : XK} {hp hp2 h2 : Heap} {g1 g2 : Array GenState} {d1 d2 : Drawn} {t1 t2 : Nat} {os1 os2 : OsState} {a C d : Addr} {fs : List (Str × V)} (T : Raises X (.ref C)) (I1 : Inv X pins σ H1 ⟨hp, g1, d1, t1, os1⟩)
    (ha : hp.objs.size ≤ a) (k : ∀ b o, hp.get? b = some o → hp2.get? b = some o) (un : Un (frs X.stack) [] (upd H1 a (exo a C none)) H2 hp2 h2) (hok : HOk X.prog X.w H2 h2) (ho : os2 = os1) (hb : AllBare g2)
    (ea : H2 a = some (exo a C (some d))) (ed : H2 d = some (exd d fs)) (hd1 : H1 d = none) (q : Q (.ref C) (some d) (upd (del H2 a) d (.xd fs))) : L2N.MkP X pins σ Q (.ref a) ⟨h2, g2, d2, t2, os2⟩ := by
  obtain ⟨t0, G, J, kG, ge, hoe, na⟩ := mk_end0 (d2 := d2) (t2 := t2) I1 ha k un hok ho hb ea ed hd1
  exact ⟨a, _, _, ⟨G, g2, d2, t2, os2⟩, _, .ref C, some d, rfl, J, kG, ge, hoe, ⟨rfl, rfl, fun vs e => by cases e; rfl⟩, rfl, rfl, na, rfl, hb, T, q⟩
/-- C(e, ..) makes an error: C's __init__ keeps sp -/
theorem pmk_err {CX : CXT} {x : Str} {C R fI : Addr} {k : Nat} {fd : FuncData} {ps : List Str} {sp : Sp} (T : Own X.K C R) (iC : PySem.W.findIn X.K (.ref C) "__init__" = some (some (.ref fI))) (tI : PySem.W.typeIn X.K (.ref fI) = some (.type "function"))
    (F1 : FnOk X.prog X.w X.K X.mg X.base CX k fI fd ps sp) (hr : Room (k + 1) X.A) (hb : Binds X.K fd ps []) (hx : Passes CX X (fun _ _ _ => False)) (hg : Gl X x) (hm : X.mg x = some (.ref C)) (ha : PA X (e :: es) ta)
    (hdb : (x == ("__debug__" : Str)) = false := by decide) (he : starEach (e :: es) X.env = (false, eval e X.env) :: starEach es X.env := by rfl) (hpl : (backTo pos (starEach es X.env)).any (·.1) = false := by rfl) :
    L2N.PMk X (.Call (.Name x p) (e :: es) [] pos) (tMkO C sp [] ta) := by
  intro pins s σ H Q I h
  obtain ⟨nm, q, N, bs, sn, sub, ab, col, dd, k0, k1, k2, k3, k5, hC⟩ := T.cls
  have tails : ∀ n : String, (Value.ref R :: tailE).contains (.type n) = tailE.contains (.type n) := fun n => by rw [List.contains_cons]; rfl
  refine wpAny_Call_Name_kw (ld_glob I hg hm (PySem.W.callWith_K (h₀ := X.base) I.ok.mod.kin T.kC (thn (ha.run pos pins s σ H _ I h) fun us s1 ⟨vs, H1, I1, r1, hz, q1⟩ => ⟨I1.kIn, ?_⟩) he hpl) hdb)
  show wpAny _ _ (call (.ref C) us) _ _ _
  obtain ⟨hp, g, dr, tk, os⟩ := s1
  generalize hA : hp.objs.size + 1 = new
  have above : hp.objs.size ≤ new := by omega
  have hq := q1 new (I1.hok.fresh above)
  have kept : ∀ b o, hp.get? b = some o → ((hp.push (PySem.W.kdv_tup us)).push (PySem.HandSPX.excO C hp.objs.size)).get? b = some o := fun b o z => Heap.get?_push_of_some _ (Heap.get?_push_of_some _ z)
  have there : ((hp.push (PySem.W.kdv_tup us)).push (PySem.HandSPX.excO C hp.objs.size)).get? new = some (PySem.HandSPX.excO C hp.objs.size) := by subst hA; heap_get
  have I2 := I1.laid (t' := tk) kept above (exo_ok (P := X.prog) (w := X.w) (H := upd H1 new (exo new C none)) there)
  have r2 : Vals (V.ref new :: vs) (Value.ref new :: us) := .cons rfl r1
  have hl : (Value.ref new :: us).length = ps.length := by
    have z := F1.len _ _ _ _ hq
    rw [List.append_nil] at z
    rw [← z]; exact r2.length.symm
  have hus : us.length ≤ sizeLine := by
    have z : vs.length = us.length := Paired.length r1
    rw [sizeLine_eq]
    omega
  have bound := hb _ (Value.ref new :: us) I2.kIn (by rw [List.append_nil]; exact hl)
  rw [List.append_nil] at bound hq
  refine wpAny_call (PySem.HandSPX.call_own F.excBase_Exception tails (I1.kIn _ _ hC) (PySem.W.looks_findIn I1.kIn iC) (fun self => PySem.W.bind_fn I1.kIn self tI) hus ?_)
  rw [hA]
  refine codeAny_mono (F1.run _ X.stack _ _ ⟨Value.ref new :: us, []⟩ (Value.ref new :: us) _ _ (fun _ _ _ => False) (hr.make C us []) (I2.env0.make C us []) bound r2 hq) fun r s' hq' => ?_
  cases r with
  | error er => exact hx pins σ _ _ er s' I2 hq'
  | ok fl =>
    cases fl with
    | ret u =>
      obtain ⟨v, H2, os2, bare2, un2, hok2, rv, ev, d, fs, ea, ed, hd1, q2⟩ := hq'
      subst ev
      obtain ⟨h2, g2, d2, t2, os'⟩ := s'
      exact ⟨rv, mk_endN (raises_own T.exC T.tyC) I1 above kept un2 hok2 os2 bare2 ea ed hd1 q2⟩
    | next => exact False.elim hq'
    | brk => exact False.elim hq'
    | cont => exact False.elim hq'
/-- C.m(e, ..), m a def of the class at C, called with all its arguments -/
theorem pe_ofcls {CX : CXT} {k : Nat} {g C : Addr} {fd : FuncData} {ps : List Str} {sp : Sp} {Ex : XK} {x m : Str} {mc : Value} {apos : Pos} {pl : Sem Bool} (hg : Gl X x) (hm : X.mg x = some (.ref C)) (r : ClX.CRead X.K C mc) (kv : ClX.CVal X.K C mc m (.ref g) (.ref g)) (hk : PySem.W.keepIn X.K (.ref g) = true)
    (F1 : FnOk X.prog X.w X.K X.mg X.base CX k g fd ps sp) (hr : Room k X.A) (hb : Binds X.K fd ps []) (hx : Passes CX X Ex) (ha : PA X (e :: es) ta)
    (hdb : (x == ("__debug__" : Str)) = false := by decide) (hst : starEach (e :: es) X.env = (false, eval e X.env) :: starEach es X.env := by rfl) (hpl : (backTo pos (starEach es X.env)).any (·.1) = false := by rfl)
    (ht : eval (.Call (.Attribute (.Name x p) m apos) (e :: es) [] pos) X.env = (do
      let ov ← eval (.Name x p) X.env
      standAt apos.atName
      let (f, first) ← holding [ov] (getMethod ov m pl)
      callWith pos f first (backTo pos (starEach (e :: es) X.env)) (backToKw pos (keywordEach [] X.env))) := by rfl) :
    PE X (.Call (.Attribute (.Name x p) m apos) (e :: es) [] pos) (tCall sp [] Ex ta) := by
  refine ⟨fun pins s σ H Q I h => PySem.W.methodCall_KW (pl := pl) (ld_glob I hg hm ?_ hdb) ht⟩
  refine PySem.W.method_cls I.kIn r.ga (ClX.getcval_ok I r kv fun s' I' => ?_)
  exact PySem.W.callWith_K (first := []) (h₀ := X.base) I'.ok.mod.kin hk (thn (ha.run pos pins s' σ H _ I' h) fun us s2 ⟨vs, H2, I2, rv, q2⟩ => ⟨I2.kIn, run_fn F1 hr hb .nil hx I2 rv q2⟩) hst hpl
end
end Er
end Tk
namespace Tk
open PySem PySem.Spec PyProof.Rows L2
section
variable {P : Program} {w : World} {K : PySem.W.Frag} {mg : Str → Option Value} {base : Heap}
/-- a def that may raise where nothing is handled -/
theorem Fun.okN {x qual : Str} {st : Stmt} {f : Addr} {fd : FuncData} {N ps : List Str} {k : Nat} {sp : Sp} (F : Fun K x qual st f fd) (S : FnScope N ps (defScope st)) (len : ∀ vs H Q E, sp vs H Q E → vs.length = ps.length)
    (hbody : ∀ (cdv : Value) (A : Around) (outer : List Env) (s : Shared) (H : Hp) (vs : List V) (Q : VK) (E : XK), Room k (A.deeper (envOfC qual (defScope st) s.heap.objs.size f cdv)) → sp vs H Q E →
      ∃ t, PSs (cxOf (L2N.CX P w) P w K mg base N qual (defScope st) f cdv A outer s H E) (defBody st) t ∧ t { nx := fun _ H' => Q .non H', rt := Q } (L2.start N vs) H) : FnOk P w K mg base (L2N.CX P w) (k + 1) f fd ps sp := by
  obtain ⟨oc, od, kV, doc, pm, an, cdv, ct, osl, rfl, lk, hcd⟩ := F.ex
  exact fn_of lk hcd S len fun A outer s H vs Q E hr hsp => hbody cdv A outer s H vs Q E hr hsp
/-- a def called where an exception is handled -/
theorem Fun.okH {CX : CXT} {x qual : Str} {st : Stmt} {f : Addr} {fd : FuncData} {N ps : List Str} {k : Nat} {sp : Sp} (F : Fun K x qual st f fd) (S : FnScope N ps (defScope st)) (len : ∀ vs H Q E, sp vs H Q E → vs.length = ps.length)
    (hbody : ∀ (cdv : Value) (A : Around) (outer : List Env) (s : Shared) (H : Hp) (vs : List V) (Q : VK) (E : XK) (p : Addr × Obj), L2H.Hot1 A p → L2H.RoomH k (A.deeper (envOfC qual (defScope st) s.heap.objs.size f cdv)) → sp vs H Q E →
      ∃ t, PSs (L2H.cxH CX P w K mg base N qual (defScope st) f cdv A outer s H E p) (defBody st) t ∧ t { nx := fun _ H' => Q .non H', rt := Q } (L2.start N vs) H) : L2H.FnH P w K mg base CX (k + 1) f fd ps sp := by
  obtain ⟨oc, od, kV, doc, pm, an, cdv, ct, osl, rfl, lk, hcd⟩ := F.ex
  exact L2H.fn_ofH lk hcd S len fun A outer s H vs Q E p hot hr hsp => hbody cdv A outer s H vs Q E p hot hr hsp
/-- such a def's context bears the exception -/
theorem hot_in {CX : CXT} {N : List Str} {qual : Str} {sc : Scope} {f : Addr} {cdv : Value} {A : Around} {outer : List Env} {s : Shared} {H : Hp} {E : XK} {p : Addr × Obj} (h : L2H.Hot1 A p) : L2H.HotC (L2H.cxH CX P w K mg base N qual sc f cdv A outer s H E p) :=
  ⟨p, ⟨h.1, h.2⟩, List.mem_singleton.mpr rfl⟩
end
/-- an except suite's context bears it -/
theorem hot_suite {X : Cx} {a : Addr} {oe : Obj} {cls : Value} {d : Option Addr} {pn : List (Addr × Obj)} (hz : L2N.Zn cls d oe) (hf : ∃ vs, oe.data = .fields vs) : L2H.HotC (X.suite a ((a, oe) :: pn)) := by
  obtain ⟨vs, e⟩ := hf
  exact ⟨(a, oe), ⟨rfl, vs, e, hz.2.2 vs e⟩, List.mem_cons_self⟩
theorem takesN0 {X : Cx} : L2N.Takes X (fun _ _ _ _ => False) := fun _ _ x => by
  obtain ⟨_, _, _, _, _, _, _, _, _, _, _, _, _, _, _, _, z⟩ := x
  exact z.elim
end Tk
end

section
set_option maxHeartbeats 2000000
namespace Tk
open PySem PySem.Spec PyProof.Rows L2
open Dbm (Bytes)
/-! ### the error NoToken -/
abbrev s_refusal_init : Stmt := inClass (topS 12) 0
abbrev s_notoken_init : Stmt := inClass (topS 13) 0
/-- what the error carries -/
def fsE (p : Nat) : List (Str × V) := [("word", .str ""), ("place", .int (p : Int)), ("number", .int 1)]
structure ErrTxt (K : PySem.W.Frag) (mg : Str → Option Value) (C R fN fR : Addr) (fdN fdR : FuncData) (mc : Value) : Prop where
  own : Er.Own K C R
  gC : mg "NoToken" = some (.ref C)
  iC : PySem.W.findIn K (.ref C) "__init__" = some (some (.ref fN))
  tN : PySem.W.typeIn K (.ref fN) = some (.type "function")
  FN : Fun K "__init__" "NoToken.__init__" s_notoken_init fN fdN
  bN : Binds K fdN ["self", "place"] []
  gR : mg "Refusal" = some (.ref R)
  rR : ClX.CRead K R mc
  vR : ClX.CVal K R mc "__init__" (.ref fR) (.ref fR)
  FR : Fun K "__init__" "Refusal.__init__" s_refusal_init fR fdR
  bR : Binds K fdR ["self", "number", "place", "word"] []
  n1 : PySem.W.findIn K (.ref C) "number" = some none
  n2 : PySem.W.findIn K (.ref C) "place" = some none
  n3 : PySem.W.findIn K (.ref C) "word" = some none
section
variable {P : Program} {w : World} {K : PySem.W.Frag} {mg : Str → Option Value} {base : Heap} {C R fN fR : Addr} {fdN fdR : FuncData} {mc : Value}
/-- all but two places as before -/
def But2 (a d : Addr) (H H' : Hp) : Prop := ∀ b, b ≠ a → b ≠ d → H' b = H b
def spRefInit (C : Addr) : Sp := fun vs H Q _ => ∃ (a : Addr) (x y z : V), vs = [.ref a, x, y, z] ∧ H a = some (exo a C none) ∧
  ∀ d H', H d = none → d ≠ a → H' a = some (exo a C (some d)) → H' d = some (exd d [("word", z), ("place", y), ("number", x)]) → But2 a d H H' → Q .non H'
theorem sc_refusal_init : FnScope ["self", "number", "place", "word"] ["self", "number", "place", "word"] (defScope s_refusal_init) := ⟨rfl, rfl, rfl, by decide +kernel, rfl, by decide +kernel, by decide +kernel⟩
theorem ok_refusal_init (T : ErrTxt K mg C R fN fR fdN fdR mc) : FnOk P w K mg base CX0 1 fR fdR ["self", "number", "place", "word"] (spRefInit C) := by
  refine T.FR.ok sc_refusal_init (fun vs H Q E h => ?_) (fun cdv A outer s H vs Q E hr h => ?_)
  · obtain ⟨a, x, y, z, rfl, _⟩ := h
    rfl
  · obtain ⟨a, x, y, z, rfl, ha, k⟩ := h
    refine ⟨_, pss_cons (Er.ps_eset (pv 0) (pv 1)) (pss_cons (Er.ps_eset (pv 0) (pv 2)) (pss_one (Er.ps_eset (pv 0) (pv 3)))), ?_⟩
    refine ⟨_, rfl, _, rfl, a, C, R, rfl, T.own, T.n1, .inl ⟨ha, fun d hd hda => ?_⟩⟩
    have e1 : ∀ o : HO, upd (upd H d o) a (exo a C (some d)) d = some o := fun o => by rw [upd_ne hda, upd_same]
    refine ⟨_, rfl, _, rfl, a, C, R, rfl, T.own, T.n2, .inr ⟨d, _, upd_same, e1 _, by show 1 ≤ 900; decide, ?_⟩⟩
    refine ⟨_, rfl, _, rfl, a, C, R, rfl, T.own, T.n3, .inr ⟨d, _, (by rw [upd_ne (Ne.symm hda), upd_same]), upd_same, by show 2 ≤ 900; decide, ?_⟩⟩
    refine k d _ hd hda ?_ upd_same fun b h1 h2 => ?_
    · rw [upd_ne (Ne.symm hda), upd_ne (Ne.symm hda), upd_same]
    · rw [upd_ne h2, upd_ne h2, upd_ne h1, upd_ne h2]
def spTokInit (C : Addr) : Sp := fun vs H Q _ => ∃ (a : Addr) (p : Nat), vs = [.ref a, .int (p : Int)] ∧ H a = some (exo a C none) ∧
  ∀ d H', H d = none → d ≠ a → H' a = some (exo a C (some d)) → H' d = some (exd d (fsE p)) → But2 a d H H' → Q .non H'
theorem sc_notoken_init : FnScope ["self", "place"] ["self", "place"] (defScope s_notoken_init) := ⟨rfl, rfl, rfl, by decide +kernel, rfl, by decide +kernel, by decide +kernel⟩
theorem ok_notoken_init (T : ErrTxt K mg C R fN fR fdN fdR mc) : FnOk P w K mg base CX0 2 fN fdN ["self", "place"] (spTokInit C) := by
  refine T.FN.ok sc_notoken_init (fun vs H Q E h => ?_) (fun cdv A outer s H vs Q E hr h => ?_)
  · obtain ⟨a, p, rfl, _⟩ := h
    rfl
  · obtain ⟨a, p, rfl, ha, k⟩ := h
    refine ⟨_, pss_one (ps_expr (Er.pe_ofcls rfl T.gR T.rR T.vR T.FR.kp (ok_refusal_init T) hr T.bR pass0 (pa_cons (pv 0) (pa_cons pe_int (pa_cons (pv 1) (pa_cons pe_str pa_nil)))))), ?_⟩
    refine ⟨_, rfl, _, rfl, a, _, _, _, rfl, ha, fun d H' h1 h2 h3 h4 h5 => ?_⟩
    exact k d H' h1 h2 h3 h4 h5
end
end Tk
end

section
set_option maxHeartbeats 2000000
namespace Tk
open PySem PySem.Spec PyProof.Rows L2
open Dbm (Bytes)
/-! ### raising it -/
/-- what is wished for where no token can be at p -/
def Wish (C : Addr) (H : Hp) (p : Nat) (E : XK) : Prop := ∀ d H', Same H H' → H' d = some (.xd (fsE p)) → E (.ref C) (some d) H'
theorem Wish.same {C : Addr} {H H1 : Hp} {p : Nat} {E : XK} (h : Wish C H p E) (s : Same H H1) : Wish C H1 p E := fun d H' s' e => h d H' (s.trans s') e
theorem raise_ok {C : Addr} {σ : L2.St} {H : Hp} {E : XK} {i p : Nat} (h : Wish C H p E) (hσ : σ[i]? = some (some (.int (p : Int)))) : tMkO C (spTokInit C) [] (tCons (tVar i) tNil) σ H (fun cls d H' => E cls d H') := by
  refine ⟨_, hσ, by show 1 ≤ 1000; decide, fun a ha => ?_⟩
  refine ⟨a, p, rfl, upd_same, fun d H2 hd hda e1 e2 b2 => ⟨rfl, d, _, e1, e2, ?_, ?_⟩⟩
  · rw [upd_ne hda] at hd
    exact hd
  · rw [upd_ne hda] at hd
    refine h d _ (fun b o z => ?_) upd_same
    have hba : b ≠ a := ne_of_none z ha
    have hbd : b ≠ d := ne_of_none z hd
    rw [upd_ne hbd, del_ne hba, b2 b hba hbd, upd_ne hba]
    exact z
/-! ### quoted_end -/
theorem qlen_in {b : Bytes} {e : Nat} {q : UInt8} (h : e < b.length) : Lx.qlen q (b.drop e) = if bAt b e = (q.toNat : Int) then (if bAt b (e + 1) = (q.toNat : Int) then (Lx.qlen q (b.drop (e + 2))).map (· + 2) else some 1) else (Lx.qlen q (b.drop (e + 1))).map (· + 1) := by
  rw [List.drop_eq_getElem_cons h]
  have e1 : bAt b e = (q.toNat : Int) ↔ b[e] = q := by
    rw [bAt_iff, List.getElem?_eq_getElem h, Option.some.injEq]
  by_cases h2 : e + 1 < b.length
  · have e2 : bAt b (e + 1) = (q.toNat : Int) ↔ b[e + 1] = q := by
      rw [bAt_iff, List.getElem?_eq_getElem h2, Option.some.injEq]
    rw [List.drop_eq_getElem_cons h2, Lx.qlen.eq_3]
    by_cases c1 : b[e] = q
    · rw [if_pos c1, if_pos (e1.mpr c1)]
      by_cases c2 : b[e + 1] = q
      · rw [if_pos c2, if_pos (e2.mpr c2)]
      · rw [if_neg c2, if_neg (fun z => c2 (e2.mp z))]
    · rw [if_neg c1, if_neg (fun z => c1 (e1.mp z))]
  · have e3 : b.drop (e + 1) = [] := List.drop_eq_nil_of_le (by omega)
    have e4 : ¬ (bAt b (e + 1) = (q.toNat : Int)) := by rw [bAt_none (by omega)]; omega
    rw [e3, if_neg e4]
    unfold Lx.qlen
    by_cases c1 : b[e] = q
    · rw [if_pos c1, if_pos (e1.mpr c1)]
    · rw [if_neg c1, if_neg (fun z => c1 (e1.mp z))]; rfl
theorem qlen_out {b : Bytes} {e : Nat} {q : UInt8} (h : b.length ≤ e) : Lx.qlen q (b.drop e) = none := by
  rw [List.drop_eq_nil_of_le h]; rfl
section
variable {P : Program} {w : World} {K : PySem.W.Frag} {mg : Str → Option Value} {base : Heap} {C R fN fR : Addr} {fdN fdR : FuncData} {mc : Value}
def spQuotedEnd (K : PySem.W.Frag) (C : Addr) : Sp := fun vs H Q E => ∃ (a : Addr) (b : Bytes) (o p : Nat) (q : UInt8), vs = [.ref a, .int (o : Int), .int (p : Int)] ∧ SqL K H a (tx b) ∧ b[o]? = some q ∧
  (∀ n, Lx.qlen q (b.drop (o + 1)) = some n → Q (.int ((o + 1 + n : Nat) : Int)) H) ∧ (Lx.qlen q (b.drop (o + 1)) = none → Wish C H p E)
theorem sc_quoted_end : FnScope ["text", "opening", "place", "sign", "end"] ["text", "opening", "place"] (defScope s_quoted_end) := ⟨rfl, rfl, rfl, by decide +kernel, rfl, by decide +kernel, by decide +kernel⟩
theorem ok_quoted_end {f f1 : Addr} {fd fd1 : FuncData} (F : Fun K "quoted_end" "quoted_end" s_quoted_end f fd) (len : mg "len" = none) (A1 : At K mg "byte_at" s_byte_at ["text", "place"] f1 fd1) (T : ErrTxt K mg C R fN fR fdN fdR mc) : FnOk P w K mg base (L2N.CX P w) 4 f fd ["text", "opening", "place"] (spQuotedEnd K C) := by
  refine Fun.okN F sc_quoted_end (fun vs H Q E h => ?_) (fun cdv A outer s H vs Q E hr h => ?_)
  · obtain ⟨a, b, o, p, q, rfl, _⟩ := h
    rfl
  · obtain ⟨a, b, o, p, q, rfl, hS, hq, kok, kno⟩ := h
    have ho : o < b.length := (List.getElem?_eq_some_iff.mp hq).1
    have hq' : bAt b o = (q.toNat : Int) := (bAt_iff q).mpr hq
    have hr1 := hr.mono (show 1 ≤ 3 by decide)
    refine ⟨_, pss_cons (ps_set (i := 3) sc_quoted_end.nd rfl (.inl rfl) (pe_ix ix_list (pv 0) (pv 1) (fun _ _ => rfl)))
      (pss_cons (ps_set (i := 4) sc_quoted_end.nd rfl (.inl rfl) (pe_op op_add (pv 1) pe_int))
      (pss_cons (ps_while (passes_of rfl) (pt_cmpR op_lt (pv 4) (pe_callB call_len_seq (by rfl) len PySem.boot_len (pa_cons (pv 0) pa_nil)) (nomark _))
        (pss_one (ps_if (pt_cmpR op_ne (pe_ix ix_list (pv 0) (pv 4) (fun _ _ => rfl)) (pv 3) (nomark _)) (pss_one (ps_aug (i := 4) sc_quoted_end.nd rfl (.inl rfl) pe_int ip_add))
          (pss_one (ps_if (pt_cmpR op_eq (pe_call (ok_byte_at A1.F len) hr1 rfl A1.g A1.F.kp A1.b .nil pass0 (pa_cons (pv 0) (pa_cons (pe_op op_add (pv 4) pe_int) pa_nil))) (pv 3) (nomark _)) (pss_one (ps_aug (i := 4) sc_quoted_end.nd rfl (.inl rfl) pe_int ip_add))
            (pss_one (ps_ret (pe_op op_add (pv 4) pe_int))))))))
      (pss_one (L2N.ps_raise rfl (L2N.takes_of rfl rfl rfl rfl) (Er.pmk_err T.own T.iC T.tN (ok_notoken_init T) hr T.bN pass0 rfl T.gC (by exact (pa_cons (pv 2) pa_nil))))))), ?_⟩
    refine ⟨_, rfl, _, rfl, a, tx b, _, _, rfl, rfl, hS, atI_nat (tx_get ho), ?_⟩
    refine ⟨_, rfl, _, _, rfl, rfl, ?_⟩
    rw [hq']
    refine ⟨fun m σ H' => H' = H ∧ ∃ e : Nat, σ = [some (.ref a), some (.int (o : Int)), some (.int (p : Int)), some (.int (q.toNat : Int)), some (.int (e : Int))] ∧ m = b.length - e ∧ (Lx.qlen q (b.drop e)).map (e + ·) = (Lx.qlen q (b.drop (o + 1))).map (o + 1 + ·), ⟨_, rfl, o + 1, rfl, rfl, rfl⟩, ?_⟩
    rintro m σ H' ⟨rfl, e, rfl, rfl, inv⟩
    refine ⟨_, rfl, _, rfl, a, tx b, rfl, .inl hS, _, _, rfl, rfl, _, rfl, ?_⟩
    rw [tx_len]
    by_cases h1 : e < b.length
    · refine goT (decide_eq_true (by omega)) ?_
      have hl := qlen_in (q := q) h1
      refine ⟨fun σ' H2 => H2 = H' ∧ ∃ e' : Nat, σ' = [some (.ref a), some (.int (o : Int)), some (.int (p : Int)), some (.int (q.toNat : Int)), some (.int (e' : Int))] ∧ e < e' ∧ (Lx.qlen q (b.drop e')).map (e' + ·) = (Lx.qlen q (b.drop (o + 1))).map (o + 1 + ·), ?_, ?_⟩
      · rintro σ' H2 ⟨rfl, e', rfl, hlt, inv'⟩
        exact ⟨b.length - e', by omega, rfl, e', rfl, rfl, inv'⟩
      · refine ⟨_, rfl, _, rfl, a, tx b, _, _, rfl, rfl, hS, atI_nat (tx_get h1), _, rfl, rfl, _, rfl, ?_⟩
        rw [decV]
        by_cases c1 : bAt b e = (q.toNat : Int)
        · rw [if_pos c1] at hl
          refine goF (by rw [decide_eq_true c1]; rfl) ?_
          refine ⟨_, rfl, _, rfl, _, _, rfl, rfl, a, b, e + 1, rfl, hS, _, rfl, rfl, _, rfl, ?_⟩
          rw [decV]
          by_cases c2 : bAt b (e + 1) = (q.toNat : Int)
          · rw [if_pos c2] at hl
            refine goT (decide_eq_true c2) ⟨_, rfl, _, _, rfl, rfl, rfl, e + 2, rfl, by omega, ?_⟩
            rw [← inv, hl, Option.map_map]
            congr 1
            funext n
            show e + 2 + n = e + (n + 2)
            omega
          · rw [if_neg c2] at hl
            refine goF (decide_eq_false c2) ⟨_, rfl, _, _, rfl, rfl, ?_⟩
            rw [hl] at inv
            cases hx : Lx.qlen q (b.drop (o + 1)) with
            | none => rw [hx] at inv; cases inv
            | some n =>
              rw [hx] at inv
              have z : e + 1 = o + 1 + n := Option.some.inj inv
              have := kok n hx
              rw [← z] at this
              exact this
        · rw [if_neg c1] at hl
          refine goT (by rw [decide_eq_false c1]; rfl) ⟨_, rfl, _, _, rfl, rfl, rfl, e + 1, rfl, by omega, ?_⟩
          rw [← inv, hl, Option.map_map]
          congr 1
          funext n
          show e + 1 + n = e + (n + 1)
          omega
    · refine goF (decide_eq_false (by omega)) ?_
      rw [qlen_out (by omega)] at inv
      refine raise_ok (kno ?_) rfl
      cases hx : Lx.qlen q (b.drop (o + 1)) with
      | none => rfl
      | some n => rw [hx] at inv; cases inv
end
end Tk
end

section
set_option maxHeartbeats 2000000
namespace Tk
open PySem PySem.Spec PyProof.Rows L2
open Dbm (Bytes)
/-! ### slices -/
theorem cut_tx {b : Bytes} {p e : Nat} (h1 : p ≤ b.length) (h2 : e ≤ b.length) : cutV (tx b) (some (p : Int)) (some (e : Int)) = tx ((b.drop p).take (e - p)) := by
  unfold cutV
  rw [HT.sIx_nat, HT.sIx_nat, tx_len, Nat.min_eq_left h1, Nat.min_eq_left h2]
  unfold tx
  rw [List.map_take, List.map_drop]
/-! ### spelled -/
def SP : Str := PySem.Str.ofString "+,-./0123456789:;<=>?@abcdefghijklmnopqrstuvwxyz[\\]^_`abcdefghijklmnopqrstuvwxyz"
theorem SP_len : SP.cps.toList.length = 80 := by decide +kernel
theorem SP_line : SP.length ≤ sizeLine := by decide +kernel
def spC (c : UInt8) : Nat := SP.cps.toList.getD (c.toNat - 43) 0
def okC (c : UInt8) : Bool := decide (43 ≤ c.toNat) && decide (c.toNat ≤ 122)
theorem spC_at {c : UInt8} (h : okC c = true) : atI SP.cps.toList ((c.toNat : Int) - 43) = some (spC c) := by
  unfold okC at h
  simp only [Bool.and_eq_true, decide_eq_true_eq] at h
  have e : ((c.toNat : Int) - 43) = ((c.toNat - 43 : Nat) : Int) := by omega
  rw [e]
  refine atI_nat ?_
  unfold spC
  have hl : c.toNat - 43 < SP.cps.toList.length := by rw [SP_len]; omega
  rw [List.getD_eq_getElem?_getD, List.getElem?_eq_getElem hl]
  rfl
def ysOf (seg : Bytes) : List Str := seg.map fun c => (⟨#[spC c]⟩ : Str)
def spl (seg : Bytes) : Str := Txt.join "" (ysOf seg)
theorem ys_sum : ∀ seg : Bytes, ((ysOf seg).map (·.length)).sum = seg.length
  | [] => rfl
  | c :: r => by
    show (1 : Nat) + ((ysOf r).map (·.length)).sum = r.length + 1
    rw [ys_sum r, Nat.add_comm]
section
variable {P : Program} {w : World} {K : PySem.W.Frag} {mg : Str → Option Value} {base : Heap}
def spSpelled (K : PySem.W.Frag) : Sp := fun vs H Q _ => ∃ (a : Addr) (b : Bytes) (p e : Nat), vs = [.ref a, .int (p : Int), .int (e : Int)] ∧ SqL K H a (tx b) ∧ p ≤ e ∧ e ≤ b.length ∧ b.length ≤ 65536 ∧ ((b.drop p).take (e - p)).all okC = true ∧
  ∀ H', Same H H' → Q (.str (spl ((b.drop p).take (e - p)))) H'
theorem sc_spelled : FnScope ["text", "place", "end", "byte"] ["text", "place", "end"] (defScope s_spelled) := ⟨rfl, rfl, rfl, by decide +kernel, rfl, by decide +kernel, by decide +kernel⟩
theorem ok_spelled {f : Addr} {fd : FuncData} {t : Tok} (F : Fun K "spelled" "spelled" s_spelled f fd) (sp : mg "SPELLING" = some (.str SP t)) : FnOk P w K mg base CX0 1 f fd ["text", "place", "end"] (spSpelled K) := by
  refine F.ok sc_spelled (fun vs H Q E h => ?_) (fun cdv A outer s H vs Q E hr h => ?_)
  · obtain ⟨a, b, p, e, rfl, _⟩ := h
    rfl
  · obtain ⟨a, b, p, e, rfl, hS, h1, h2, h3, hok, k⟩ := h
    refine ⟨_, pss_one (ps_ret (pe_join pe_str (pe_lc (own := [("byte", 3)]) (g := gName 3) (tt := tYes) rfl sc_spelled.nd (pi_list (pe_slice sl_list (pv 0) (po_some (pv 1)) (po_some (pv 2)))) (blkOk_by (own := [("byte", 3)]) (N := ["text", "place", "end", "byte"]) (sc := defScope s_spelled) (by decide +kernel))
      (fun _ _ _ _ _ => pg_name (i := 3) sc_spelled.nd rfl (Or.inl rfl)) (fun _ _ _ _ _ => pts_nil) (fun _ _ _ _ _ => pe_ix ix_str (pe_glob (v := .str SP) rfl sp ⟨_, rfl⟩) (pe_op op_sub (pv 3) pe_int) (fun _ _ => rfl))))), ?_⟩
    generalize hseg : (b.drop p).take (e - p) = seg at hok k
    have hlen : seg.length ≤ 65536 := by
      rw [← hseg, List.length_take, List.length_drop]; omega
    refine ⟨⟨_, rfl⟩, ?_⟩
    refine ⟨_, rfl, _, rfl, _, rfl, _, rfl, _, rfl, a, tx b, rfl, hS, fun q hq => ?_⟩
    rw [cut_tx (by omega) h2, hseg]
    have s1 : Same H (upd H q (.lst (tx seg))) := same_up (Same.refl H) hq
    refine ⟨q, rfl, ⟨_, SqL.of upd_same⟩, fun D hD => ?_⟩
    have hDq : D ≠ q := fun z => by rw [z, upd_same] at hD; cases hD
    have hD0 : H D = none := s1.free hD
    refine lc_list (K := K) (a := q) (xs := tx seg) (fun i H' => Same H H' ∧ H' q = some (.lst (tx seg)) ∧ H' D = some (.lst ((ysOf (seg.take i)).map V.str))) ⟨same_up s1 hD, by rw [upd_ne (Ne.symm hDq), upd_same], upd_same⟩ (fun i H' _ ⟨_, z, _⟩ => SqL.of z) ?_ ?_
    · rintro i x H' hi ⟨s2, hq2, hD2⟩
      obtain ⟨c, hc, rfl⟩ : ∃ c, seg[i]? = some c ∧ x = .int (c.toNat : Int) := by
        unfold tx at hi
        rw [List.getElem?_map] at hi
        cases z : seg[i]? with
        | none => rw [z] at hi; cases hi
        | some c => rw [z] at hi; exact ⟨c, rfl, (Option.some.inj hi).symm⟩
      have hin : c ∈ seg := List.mem_of_getElem? hc
      have hi' : i < seg.length := (List.getElem?_eq_some_iff.mp hc).1
      have htk : seg.take (i + 1) = seg.take i ++ [c] := by
        rw [List.take_succ, hc]; rfl
      have hys : (ysOf (seg.take i)).map V.str ++ [V.str ⟨#[spC c]⟩] = (ysOf (seg.take (i + 1))).map V.str := by
        rw [htk]
        unfold ysOf
        rw [List.map_append, List.map_append]
        rfl
      refine ⟨rfl, ?_⟩
      unfold tYes
      refine goT rfl ?_
      refine ⟨_, rfl, _, _, rfl, rfl, SP, _, _, rfl, rfl, SP_line, spC_at (List.all_eq_true.mp hok c hin), _, hD2, ?_, same_upd s2 hD0, ?_, ?_⟩
      · refine line_ok ?_
        unfold ysOf
        rw [List.length_map, List.length_map, List.length_take]
        omega
      · rw [upd_ne (Ne.symm hDq)]
        exact hq2
      · rw [upd_same, hys]
    · rintro H' ⟨s2, hq2, hD2⟩
      rw [tx_len, List.take_length] at hD2
      refine ⟨_, D, ysOf seg, rfl, rfl, .inl (SqL.of hD2), ?_, k _ s2⟩
      rw [ys_sum]
      show seg.length + (ysOf seg).length * 0 ≤ 16777216
      omega
end
end Tk
end

section
set_option maxHeartbeats 2000000
namespace Tk
open PySem PySem.Spec PyProof.Rows L2
open Dbm (Bytes)
/-! ### Token -/
abbrev s_token_init : Stmt := inClass (topS 10) 0
def fsT (k p e w : V) : List (Str × V) := [("kind", k), ("place", p), ("end", e), ("worth", w)]
structure TokTxt (K : PySem.W.Frag) (mg : Str → Option Value) (CT fT : Addr) (fdT : FuncData) : Prop where
  cl : Cls K CT
  n1 : NoAttr K CT "kind"
  n2 : NoAttr K CT "place"
  n3 : NoAttr K CT "end"
  n4 : NoAttr K CT "worth"
  gT : mg "Token" = some (.ref CT)
  mkT : Mk K CT fT
  FT : Fun K "__init__" "Token.__init__" s_token_init fT fdT
  bT : Binds K fdT ["self", "kind", "place", "end", "worth"] []
/-- a token stands at x -/
def TokAt (CT : Addr) (H : Hp) (x : Addr) (k p e : Nat) : Prop := ∃ dx w, H x = some (.ins CT dx (fsT (.int (k : Int)) (.int (p : Int)) (.int (e : Int)) w))
theorem TokAt.same {CT : Addr} {H H' : Hp} {x : Addr} {k p e : Nat} (h : TokAt CT H x k p e) (s : Same H H') : TokAt CT H' x k p e := by
  obtain ⟨dx, w, h⟩ := h
  exact ⟨dx, w, s _ _ h⟩
theorem putF_past {f g : Str} {v x : V} {r : List (Str × V)} (h : ¬ g = f) : putF f v ((g, x) :: r) = (g, x) :: putF f v r := if_neg h
section
variable {P : Program} {w : World} {K : PySem.W.Frag} {mg : Str → Option Value} {base : Heap} {CT fT : Addr} {fdT : FuncData}
def spTokenInit (CT : Addr) : Sp := fun vs H Q _ => ∃ (x dx : Addr) (k p e o : V), vs = [.ref x, k, p, e, o] ∧ H x = some (.ins CT dx []) ∧
  ∀ H', H' x = some (.ins CT dx (fsT k p e o)) → (∀ b, b ≠ x → H' b = H b) → Q .non H'
theorem sc_token_init : FnScope ["self", "kind", "place", "end", "worth"] ["self", "kind", "place", "end", "worth"] (defScope s_token_init) := ⟨rfl, rfl, rfl, by decide +kernel, rfl, by decide +kernel, by decide +kernel⟩
theorem fs_eq (k p e o : V) : putF "worth" o (putF "end" e (putF "place" p (putF "kind" k []))) = fsT k p e o := by
  have a : putF "kind" k [] = [(("kind" : Str), k)] := rfl
  have b : putF "place" p [(("kind" : Str), k)] = [(("kind" : Str), k), ("place", p)] := putF_past (by decide +kernel)
  have c : putF "end" e [(("kind" : Str), k), ("place", p)] = [(("kind" : Str), k), ("place", p), ("end", e)] := (putF_past (by decide +kernel)).trans (congrArg _ (putF_past (by decide +kernel)))
  have d : putF "worth" o [(("kind" : Str), k), ("place", p), ("end", e)] = [(("kind" : Str), k), ("place", p), ("end", e), ("worth", o)] :=
    (putF_past (by decide +kernel)).trans (congrArg _ ((putF_past (by decide +kernel)).trans (congrArg _ (putF_past (by decide +kernel)))))
  rw [a, b, c, d]
  rfl
theorem ok_token_init (T : TokTxt K mg CT fT fdT) : FnOk P w K mg base CX0 1 fT fdT ["self", "kind", "place", "end", "worth"] (spTokenInit CT) := by
  refine T.FT.ok sc_token_init (fun vs H Q E h => ?_) (fun cdv A outer s H vs Q E hr h => ?_)
  · obtain ⟨x, dx, k, p, e, o, rfl, _⟩ := h
    rfl
  · obtain ⟨x, dx, k, p, e, o, rfl, hx, kk⟩ := h
    refine ⟨_, pss_cons (ps_fld (pv 0) (pv 1) rfl) (pss_cons (ps_fld (pv 0) (pv 2) rfl) (pss_cons (ps_fld (pv 0) (pv 3) rfl) (pss_one (ps_fld (pv 0) (pv 4) rfl)))), ?_⟩
    have small : ∀ l : List (Str × V), l.length ≤ 3 → l.length < 1000 := fun l h => by omega
    refine ⟨_, rfl, _, rfl, x, CT, dx, [], rfl, hx, T.cl, T.n1, small _ (by show 0 ≤ 3; decide), ?_⟩
    refine ⟨_, rfl, _, rfl, x, CT, dx, _, rfl, upd_same, T.cl, T.n2, small _ (by show 1 ≤ 3; decide), ?_⟩
    refine ⟨_, rfl, _, rfl, x, CT, dx, _, rfl, upd_same, T.cl, T.n3, small _ (Nat.le_trans (length_putF _ _ _) (by show 1 + 1 ≤ 3; decide)), ?_⟩
    refine ⟨_, rfl, _, rfl, x, CT, dx, _, rfl, upd_same, T.cl, T.n4, small _ (Nat.le_trans (length_putF _ _ _) (Nat.succ_le_succ (Nat.le_trans (length_putF _ _ _) (by show 1 + 1 ≤ 2; decide)))), ?_⟩
    refine kk _ ?_ fun b hb => ?_
    · rw [upd_same, fs_eq]
    · rw [upd_ne hb, upd_ne hb, upd_ne hb, upd_ne hb]
/-- Token(..) is made: what follows may use it -/
theorem made_tok {H H1 : Hp} {Q : VK} {E : XK} {k p e : Nat} {o : V} (s1 : Same H H1) (go : ∀ H' x, Same H H' → H x = none → TokAt CT H' x k p e → Q (.ref x) H') :
    ∀ x dx, H1 x = none → H1 dx = none → dx ≠ x → spTokenInit CT [.ref x, .int (k : Int), .int (p : Int), .int (e : Int), o] (upd (upd H1 dx (.own x)) x (.ins CT dx [])) (fun v H2 => v = .non ∧ Q (.ref x) H2) E := by
  intro x dx hx hdx hne
  refine ⟨x, dx, _, _, _, _, rfl, upd_same, fun H' e1 e2 => ⟨rfl, ?_⟩⟩
  refine go H' x (fun b u z => ?_) (s1.free hx) ⟨dx, o, e1⟩
  have hz := s1 b u z
  have hbx : b ≠ x := ne_of_none hz hx
  have hbd : b ≠ dx := ne_of_none hz hdx
  rw [e2 b hbx, upd_ne hbx, upd_ne hbd]
  exact hz
end
end Tk
end

section
set_option maxHeartbeats 2000000
namespace Tk
open PySem PySem.Spec PyProof.Rows L2
open Dbm (Bytes)
/-! ### the promise of a def that makes a token -/
def spTok (K : PySem.W.Frag) (C CT : Addr) (kind : Nat) (pre : Bytes → Nat → Prop) (r : Bytes → Nat → Option Nat) : Sp := fun vs H Q E => ∃ (a : Addr) (b : Bytes) (p : Nat), vs = [.ref a, .int (p : Int)] ∧ SqL K H a (tx b) ∧ b.length ≤ 65536 ∧ p < b.length ∧ pre b p ∧
  (∀ n, r b p = some n → ∀ H' x, Same H H' → H x = none → TokAt CT H' x kind p (p + n) → Q (.ref x) H') ∧ (r b p = none → Wish C H p E)
theorem spTok_len {K : PySem.W.Frag} {C CT : Addr} {kind : Nat} {pre : Bytes → Nat → Prop} {r : Bytes → Nat → Option Nat} : ∀ vs H Q E, spTok K C CT kind pre r vs H Q E → vs.length = (["text", "place"] : List Str).length := fun vs H Q E h => by
  obtain ⟨a, b, p, rfl, _⟩ := h
  rfl
/-! ### word_token -/
theorem inwI_lt {b : Bytes} {n : Nat} (h : inwI (bAt b n) = true) : n < b.length := by
  unfold bAt at h
  cases e : b[n]? with
  | none => rw [e] at h; cases h
  | some c => exact (List.getElem?_eq_some_iff.mp e).1
theorem wordLen_in {b : Bytes} {n : Nat} : Lx.wordLen (b.drop n) = if inwI (bAt b n) = true then Lx.wordLen (b.drop (n + 1)) + 1 else 0 := by
  rw [inwI_bAt]
  unfold Lx.wordLen
  by_cases h : n < b.length
  · rw [List.drop_eq_getElem_cons h]
    unfold Lx.isHead
    simp only [List.head?_cons, Option.map_some, Option.getD_some, List.takeWhile_cons]
    by_cases hd : Si22.isWordByte b[n] = true
    · simp [hd]
    · simp [hd]
  · rw [List.drop_eq_nil_of_le (by omega)]
    rfl
theorem okC_word {c : UInt8} (h : Si22.isWordByte c = true) : okC c = true := by
  unfold Si22.isWordByte Si22.isLetter Dbm.isDigit at h
  unfold okC
  simp only [byte_eq, Bool.or_eq_true, Bool.and_eq_true, decide_eq_true_eq] at h ⊢
  have e : (95 : UInt8).toNat = 95 := rfl
  rw [e] at h
  omega
theorem take_word (b : Bytes) (p : Nat) : ((b.drop p).take (Lx.wordLen (b.drop p))).all okC = true := by
  unfold Lx.wordLen
  rw [Lx.take_len_takeWhile]
  exact List.all_eq_true.mpr fun c hc => okC_word (Lx.takeWhile_all _ _ c hc)
section
variable {P : Program} {w : World} {K : PySem.W.Frag} {mg : Str → Option Value} {base : Heap} {C R fN fR CT fT : Addr} {fdN fdR fdT : FuncData} {mc : Value}
theorem sc_word_token : FnScope ["text", "place", "end"] ["text", "place"] (defScope s_word_token) := ⟨rfl, rfl, rfl, by decide +kernel, rfl, by decide +kernel, by decide +kernel⟩
theorem ok_word_token {f f1 f2 f3 f4 f5 : Addr} {fd fd1 fd2 fd3 fd4 fd5 : FuncData} {t t2 : Tok} (F : Fun K "word_token" "word_token" s_word_token f fd) (len : mg "len" = none) (sp : mg "SPELLING" = some (.str SP t)) (gW : mg "WORD" = some (.int 0 t2))
    (A1 : At K mg "byte_at" s_byte_at ["text", "place"] f1 fd1) (A2 : At K mg "in_word" s_in_word ["byte"] f2 fd2) (A3 : At K mg "begins_word" s_begins_word ["byte"] f3 fd3) (A4 : At K mg "is_digit" s_is_digit ["byte"] f4 fd4) (A5 : At K mg "spelled" s_spelled ["text", "place", "end"] f5 fd5)
    (T : ErrTxt K mg C R fN fR fdN fdR mc) (TT : TokTxt K mg CT fT fdT) : FnOk P w K mg base (L2N.CX P w) 4 f fd ["text", "place"] (spTok K C CT 0 (fun _ _ => True) (fun b p => if 64 < Lx.wordLen (b.drop p) then none else some (Lx.wordLen (b.drop p)))) := by
  refine Fun.okN F sc_word_token spTok_len (fun cdv A outer s H vs Q E hr h => ?_)
  obtain ⟨a, b, p, rfl, hS, hb, hp, _, kok, kno⟩ := h
  have hr1 := hr.mono (show 1 ≤ 3 by decide)
  have hr2 := hr.mono (show 2 ≤ 3 by decide)
  refine ⟨_, pss_cons (ps_set (i := 2) sc_word_token.nd rfl (.inl rfl) (pv 1))
    (pss_cons (ps_while (passes_of rfl) (pt_val (pe_call (ok_in_word A2.F A3 A4) hr2 rfl A2.g A2.F.kp A2.b .nil pass0 (pa_cons (pe_call (ok_byte_at A1.F len) hr1 rfl A1.g A1.F.kp A1.b .nil pass0 (pa_cons (pv 0) (pa_cons (pv 2) pa_nil))) pa_nil)))
      (pss_one (ps_aug (i := 2) sc_word_token.nd rfl (.inl rfl) pe_int ip_add)))
    (pss_cons (ps_if (pt_cmpR op_gt (pe_op op_sub (pv 2) (pv 1)) pe_int (nomark _)) (pss_one (L2N.ps_raise rfl (L2N.takes_of rfl rfl rfl rfl) (Er.pmk_err T.own T.iC T.tN (ok_notoken_init T) hr T.bN pass0 rfl T.gC (by exact (pa_cons (pv 1) pa_nil))))) pss_nil)
    (pss_one (ps_ret (pe_make TT.mkT (ok_token_init TT) hr2 (by rfl) TT.gT TT.bT .nil pass0 (pa_cons (pe_glob (v := .int 0) rfl gW ⟨_, rfl⟩) (pa_cons (pv 1) (pa_cons (pv 2) (pa_cons (pe_call (ok_spelled A5.F sp) hr1 rfl A5.g A5.F.kp A5.b .nil pass0 (pa_cons (pv 0) (pa_cons (pv 1) (pa_cons (pv 2) pa_nil)))) pa_nil))))))))), ?_⟩
  refine ⟨_, rfl, ?_⟩
  refine ⟨fun m σ H' => H' = H ∧ ∃ e : Nat, σ = [some (.ref a), some (.int (p : Int)), some (.int (e : Int))] ∧ m = b.length - e ∧ e + Lx.wordLen (b.drop e) = p + Lx.wordLen (b.drop p), ⟨_, rfl, p, rfl, rfl, rfl⟩, ?_⟩
  rintro m σ H' ⟨rfl, e, rfl, rfl, inv⟩
  refine ⟨_, rfl, _, rfl, a, b, e, rfl, hS, _, rfl, _, rfl, ?_⟩
  have hl := wordLen_in (b := b) (n := e)
  cases hd : inwI (bAt b e) with
  | true =>
    rw [hd, if_pos rfl] at hl
    have h1 := inwI_lt hd
    refine iteT ⟨fun σ' H2 => H2 = H' ∧ σ' = [some (.ref a), some (.int (p : Int)), some (.int ((e + 1 : Nat) : Int))], ?_, _, rfl, _, _, rfl, rfl, rfl, rfl⟩
    rintro σ' H2 ⟨rfl, rfl⟩
    exact ⟨b.length - (e + 1), by omega, rfl, e + 1, rfl, rfl, by omega⟩
  | false =>
    rw [hd, if_neg Bool.false_ne_true] at hl
    have he : e = p + Lx.wordLen (b.drop p) := by omega
    refine iteF ⟨_, rfl, _, rfl, _, _, rfl, rfl, _, _, rfl, rfl, _, rfl, ?_⟩
    by_cases c : 64 < Lx.wordLen (b.drop p)
    · refine goT (decide_eq_true (by omega)) ?_
      exact raise_ok (kno (if_pos c)) rfl
    · refine goF (decide_eq_false (by omega)) ?_
      have hw := Lx.wordLen_le (b.drop p)
      rw [List.length_drop] at hw
      refine ⟨_, rfl, _, rfl, _, rfl, _, rfl, _, rfl, a, b, p, e, rfl, hS, by omega, by omega, hb, ?_, fun H2 s2 => ?_⟩
      · rw [show e - p = Lx.wordLen (b.drop p) by omega]
        exact take_word b p
      · refine made_tok s2 fun H3 x s3 hx ht => kok _ (if_neg c) H3 x s3 hx ?_
        rw [he] at ht
        exact ht
end
end Tk
end

section
set_option maxHeartbeats 2000000
namespace Tk
open PySem PySem.Spec PyProof.Rows L2
open Dbm (Bytes)
/-! ### UTF-8 -/
section
variable {P : Program} {w : World} {K : PySem.W.Frag} {mg : Str → Option Value} {base : Heap}
def spSignLength : Sp := fun vs H Q _ => ∃ c : UInt8, vs = [.int (c.toNat : Int)] ∧ Q (.int (Lx.signLength c : Int)) H
theorem sc_sign_length : FnScope ["first"] ["first"] (defScope s_sign_length) := ⟨rfl, rfl, rfl, by decide +kernel, rfl, by decide +kernel, by decide +kernel⟩
theorem ok_sign_length {f : Addr} {fd : FuncData} (F : Fun K "sign_length" "sign_length" s_sign_length f fd) : FnOk P w K mg base CX0 1 f fd ["first"] spSignLength := by
  refine F.ok sc_sign_length (fun vs H Q E h => ?_) (fun cdv A outer s H vs Q E hr h => ?_)
  · obtain ⟨c, rfl, _⟩ := h
    rfl
  · obtain ⟨c, rfl, k⟩ := h
    refine ⟨_, pss_cons (ps_if (pt_cmpR op_lt (pv 0) pe_int (nomark _)) (pss_one (ps_ret pe_int)) pss_nil)
      (pss_cons (ps_if (pt_chain op_le op_lt pe_int (pv 0) pe_int) (pss_one (ps_ret pe_int)) pss_nil)
      (pss_cons (ps_if (pt_chain op_le op_lt pe_int (pv 0) pe_int) (pss_one (ps_ret pe_int)) pss_nil)
      (pss_cons (ps_if (pt_chain op_le op_lt pe_int (pv 0) pe_int) (pss_one (ps_ret pe_int)) pss_nil)
      (pss_one (ps_ret pe_int))))), ?_⟩
    unfold Lx.signLength at k
    have h4 : ¬ c.toNat < 128 → ¬ (192 ≤ c.toNat ∧ c.toNat < 224) → ¬ (224 ≤ c.toNat ∧ c.toNat < 240) → tIfS (tTest (tChain (rI0 fun i j => .bl (decide (i ≤ j))) (rI0 fun i j => .bl (decide (i < j))) (tC (.int 240)) (tVar 0) (tC (.int 248)))) (tRet (tC (.int 4))) tNext { nx := tRet (tC (.int 0)) { nx := fun _ H' => Q .non H', rt := Q }, rt := Q } (L2.start ["first"] [V.int (c.toNat : Int)]) H := by
      intro g1 g2 g3
      rw [if_neg g1, if_neg g2, if_neg g3] at k
      refine ⟨_, rfl, _, _, rfl, rfl, _, rfl, ?_⟩
      by_cases c1 : 240 ≤ c.toNat
      · refine goT (decide_eq_true (by omega)) ⟨_, _, rfl, rfl, _, rfl, ?_⟩
        by_cases c2 : c.toNat < 248
        · rw [if_pos ⟨c1, c2⟩] at k
          exact goT (decide_eq_true (by omega)) k
        · rw [if_neg (fun z => c2 z.2)] at k
          exact goF (decide_eq_false (by omega)) k
      · rw [if_neg (fun z => c1 z.1)] at k
        exact goF (decide_eq_false (by omega)) ⟨_, rfl, goF rfl k⟩
    have h3 : ¬ c.toNat < 128 → ¬ (192 ≤ c.toNat ∧ c.toNat < 224) → tIfS (tTest (tChain (rI0 fun i j => .bl (decide (i ≤ j))) (rI0 fun i j => .bl (decide (i < j))) (tC (.int 224)) (tVar 0) (tC (.int 240)))) (tRet (tC (.int 3))) tNext { nx := tIfS (tTest (tChain (rI0 fun i j => .bl (decide (i ≤ j))) (rI0 fun i j => .bl (decide (i < j))) (tC (.int 240)) (tVar 0) (tC (.int 248)))) (tRet (tC (.int 4))) tNext { nx := tRet (tC (.int 0)) { nx := fun _ H' => Q .non H', rt := Q }, rt := Q }, rt := Q } (L2.start ["first"] [V.int (c.toNat : Int)]) H := by
      intro g1 g2
      refine ⟨_, rfl, _, _, rfl, rfl, _, rfl, ?_⟩
      by_cases c1 : 224 ≤ c.toNat
      · refine goT (decide_eq_true (by omega)) ⟨_, _, rfl, rfl, _, rfl, ?_⟩
        by_cases c2 : c.toNat < 240
        · rw [if_neg g1, if_neg g2, if_pos ⟨c1, c2⟩] at k
          exact goT (decide_eq_true (by omega)) k
        · exact goF (decide_eq_false (by omega)) (h4 g1 g2 (fun z => c2 z.2))
      · exact goF (decide_eq_false (by omega)) ⟨_, rfl, goF rfl (h4 g1 g2 (fun z => c1 z.1))⟩
    refine ⟨_, rfl, _, _, rfl, rfl, _, rfl, ?_⟩
    by_cases c0 : c.toNat < 128
    · rw [if_pos c0] at k
      exact goT (decide_eq_true (by omega)) k
    · refine goF (decide_eq_false (by omega)) ⟨_, rfl, _, _, rfl, rfl, _, rfl, ?_⟩
      by_cases c1 : 192 ≤ c.toNat
      · refine goT (decide_eq_true (by omega)) ⟨_, _, rfl, rfl, _, rfl, ?_⟩
        by_cases c2 : c.toNat < 224
        · rw [if_neg c0, if_pos ⟨c1, c2⟩] at k
          exact goT (decide_eq_true (by omega)) k
        · exact goF (decide_eq_false (by omega)) (h3 c0 (fun z => c2 z.2))
      · exact goF (decide_eq_false (by omega)) ⟨_, rfl, goF rfl (h3 c0 (fun z => c1 z.1))⟩
/-! ### in_shortest_form -/
def spShortest : Sp := fun vs H Q _ => ∃ code n : Nat, vs = [.int (code : Int), .int (n : Int)] ∧ n ≤ 4 ∧ ∀ H', Same H H' → Q (.bl (decide (Lx.leastOf n ≤ code))) H'
theorem sc_in_shortest_form : FnScope ["code", "length", "least"] ["code", "length"] (defScope s_in_shortest_form) := ⟨rfl, rfl, rfl, by decide +kernel, rfl, by decide +kernel, by decide +kernel⟩
theorem ok_in_shortest_form {f : Addr} {fd : FuncData} (F : Fun K "in_shortest_form" "in_shortest_form" s_in_shortest_form f fd) : FnOk P w K mg base CX0 1 f fd ["code", "length"] spShortest := by
  refine F.ok sc_in_shortest_form (fun vs H Q E h => ?_) (fun cdv A outer s H vs Q E hr h => ?_)
  · obtain ⟨c, n, rfl, _⟩ := h
    rfl
  · obtain ⟨c, n, rfl, hn, k⟩ := h
    refine ⟨_, pss_cons (ps_set (i := 2) sc_in_shortest_form.nd rfl (.inl rfl) (pe_tup (pa_cons pe_int (pa_cons pe_int (pa_cons pe_int (pa_cons pe_int (pa_cons pe_int pa_nil)))))))
      (pss_one (ps_ret (pe_cmpR op_ge (pv 0) (pe_ix ix_tup (pv 2) (pv 1) (fun _ _ => rfl)) (nomark _)))), ?_⟩
    refine ⟨by show 5 ≤ sizeLine; decide, fun p hp => ?_⟩
    have key : ∃ z : Nat, ([V.int 0, .int 0, .int 128, .int 2048, .int 65536] : List V)[n]? = some (.int (z : Int)) ∧ z = Lx.leastOf n := by
      match n, hn with
      | 0, _ => exact ⟨0, rfl, rfl⟩
      | 1, _ => exact ⟨0, rfl, rfl⟩
      | 2, _ => exact ⟨128, rfl, rfl⟩
      | 3, _ => exact ⟨2048, rfl, rfl⟩
      | 4, _ => exact ⟨65536, rfl, rfl⟩
    obtain ⟨z, hz, ez⟩ := key
    refine ⟨_, rfl, _, rfl, _, rfl, p, _, _, _, rfl, rfl, SqT.of upd_same, atI_nat hz, _, _, rfl, rfl, ?_⟩
    have := k _ (same_up (o := .tup [.int 0, .int 0, .int 128, .int 2048, .int 65536]) (Same.refl H) hp)
    rw [← ez] at this
    have e : decide ((z : Int) ≤ (c : Int)) = decide (z ≤ c) := by
      by_cases y : z ≤ c
      · rw [decide_eq_true y, decide_eq_true (by omega)]
      · rw [decide_eq_false y, decide_eq_false (by omega)]
    rw [← e] at this
    exact this
/-! ### whole_sign -/
theorem codeOf_lt : ∀ (l : Bytes) (acc code m : Nat), Lx.codeOf acc l = some code → acc < m → code < m * 64 ^ l.length
  | [], acc, code, m, h, hm => by
    simp only [Lx.codeOf, Option.some.injEq] at h
    simp only [List.length_nil, Nat.pow_zero]
    omega
  | c :: r, acc, code, m, h, hm => by
    simp only [Lx.codeOf] at h
    by_cases y : 128 ≤ c.toNat ∧ c.toNat < 192
    · rw [if_pos y] at h
      have := codeOf_lt r _ code (m * 64) h (by omega)
      rw [List.length_cons, Nat.pow_succ, Nat.mul_comm (64 ^ r.length), ← Nat.mul_assoc]
      exact this
    · rw [if_neg y] at h
      cases h
def spWholeSign (K : PySem.W.Frag) : Sp := fun vs H Q _ => ∃ (a : Addr) (sg : Bytes) (n : Nat), vs = [.ref a, .int (n : Int)] ∧ SqL K H a (tx sg) ∧ 1 ≤ n ∧ n ≤ 4 ∧ sg.length ≤ 4 ∧ ∀ H', Same H H' → Q (.bl (Lx.wholeSign sg n)) H'
theorem sc_whole_sign : FnScope ["sign", "length", "code", "byte"] ["sign", "length"] (defScope s_whole_sign) := ⟨rfl, rfl, rfl, by decide +kernel, rfl, by decide +kernel, by decide +kernel⟩
theorem ok_whole_sign {f f1 : Addr} {fd fd1 : FuncData} (F : Fun K "whole_sign" "whole_sign" s_whole_sign f fd) (len : mg "len" = none) (A1 : At K mg "in_shortest_form" s_in_shortest_form ["code", "length"] f1 fd1) : FnOk P w K mg base CX0 2 f fd ["sign", "length"] (spWholeSign K) := by
  refine F.ok sc_whole_sign (fun vs H Q E h => ?_) (fun cdv A outer s H vs Q E hr h => ?_)
  · obtain ⟨a, sg, n, rfl, _⟩ := h
    rfl
  · obtain ⟨a, sg, n, rfl, hS, n1, n4, hl, k⟩ := h
    refine ⟨_, pss_cons (ps_if (pt_cmpR op_eq (pv 1) pe_int (nomark _)) (pss_one (ps_ret pe_bl)) pss_nil)
      (pss_cons (ps_if (pt_cmpR op_lt (pe_callB call_len_seq (by rfl) len PySem.boot_len (pa_cons (pv 0) pa_nil)) (pv 1) (nomark _)) (pss_one (ps_ret pe_bl)) pss_nil)
      (pss_cons (ps_set (i := 2) sc_whole_sign.nd rfl (.inl rfl) (pe_op op_and (pe_ix ix_list (pv 0) pe_int (fun _ _ => rfl)) (pe_op op_sub (pe_op op_shl pe_int (pe_op op_sub pe_int (pv 1))) pe_int)))
      (pss_cons (ps_for PassesOwn.never rfl (pi_list (pe_slice sl_list (pv 0) (po_some pe_int) po_none)) (pg_name (i := 3) sc_whole_sign.nd rfl (Or.inl rfl))
        (pss_cons (ps_if (pt_not (pt_chain op_le op_lt pe_int (pv 3) pe_int)) (pss_one (ps_ret pe_bl)) pss_nil)
        (pss_one (ps_set (i := 2) sc_whole_sign.nd rfl (.inl rfl) (pe_op op_sub (pe_op op_add (pe_op op_mul (pv 2) pe_int) (pv 3)) pe_int)))))
      (pss_one (ps_ret (pe_and (pe_call (ok_in_shortest_form A1.F) hr rfl A1.g A1.F.kp A1.b .nil pass0 (pa_cons (pv 2) (pa_cons (pv 1) pa_nil)))
        (pe_and (pe_not (pe_chain op_le op_le pe_int (pv 2) pe_int)) (pe_one (pe_cmpR op_le (pv 2) pe_int (nomark _)))))))))), ?_⟩
    refine ⟨_, rfl, rfl, _, rfl, ?_⟩
    rw [decV]
    by_cases e1 : n = 1
    · subst e1
      exact goT rfl (k H (Same.refl H))
    · refine goF (decide_eq_false (by omega)) ?_
      refine ⟨_, rfl, a, tx sg, rfl, .inl hS, _, rfl, _, _, rfl, rfl, _, rfl, ?_⟩
      rw [tx_len]
      by_cases e2 : sg.length < n
      · have kk := k H (Same.refl H)
        unfold Lx.wholeSign at kk
        rw [if_neg e1, if_pos e2] at kk
        exact goT (decide_eq_true (by omega)) kk
      · refine goF (decide_eq_false (by omega)) ?_
        cases sg with
        | nil => simp at e2; omega
        | cons c r =>
          have kk : ∀ H', Same H H' → Q (.bl (match Lx.codeOf (c.toNat % 2 ^ (7 - n)) r with
              | none => false
              | some code => Lx.codeGood code n)) H' := fun H' s' => by
            have := k H' s'
            unfold Lx.wholeSign at this
            rw [if_neg e1, if_neg e2] at this
            exact this
          have at0 : atI (tx (c :: r)) 0 = some (.int (c.toNat : Int)) := atI_nat (j := 0) rfl
          refine ⟨_, rfl, a, tx (c :: r), _, _, rfl, rfl, hS, at0, _, rfl, _, _, rfl, rfl, _, _, rfl, rfl, ⟨by omega, by omega, by decide⟩, _, _, rfl, rfl, _, _, rfl, rfl, ?_⟩
          have code0 : Builtin.bitAnd (c.toNat : Int) (1 * 2 ^ ((7 : Int) - (n : Int)).toNat - 1) = ((c.toNat % 2 ^ (7 - n) : Nat) : Int) := by
            rw [show ((7 : Int) - (n : Int)).toNat = 7 - n by omega, Int.one_mul, Bits.bitAnd_mask _ (by omega)]
            rfl
          show tSeq _ _ _ (List.set _ 2 (some (V.int (Builtin.bitAnd (c.toNat : Int) (1 * 2 ^ ((7 : Int) - (n : Int)).toNat - 1))))) H
          rw [code0]
          generalize hc0 : c.toNat % 2 ^ (7 - n) = code at kk
          have hb0 : code < 64 := by
            rw [← hc0]
            refine Nat.lt_of_lt_of_le (Nat.mod_lt _ (Nat.pow_pos (by decide))) ?_
            exact Nat.le_trans (Nat.pow_le_pow_right (by decide) (show 7 - n ≤ 6 by omega)) (by decide)
          have hr3 : r.length ≤ 3 := by simp at hl; omega
          have cut1 : cutV (tx (c :: r)) (some 1) none = tx r := by
            unfold cutV
            rw [show (1 : Int) = ((1 : Nat) : Int) from rfl, HT.sIx_nat, HT.sIx_none, tx_len, List.length_cons, Nat.min_eq_left (by omega)]
            show ((tx r).take (r.length + 1 - 1)) = tx r
            rw [List.take_of_length_le (by rw [tx_len]; omega)]
          refine ⟨_, rfl, _, rfl, a, tx (c :: r), rfl, hS, fun p hp => ?_⟩
          rw [cut1]
          have s1 : Same H (upd H p (.lst (tx r))) := same_up (Same.refl H) hp
          refine ⟨p, rfl, ⟨_, SqL.of upd_same⟩, for_list (K := K) (a := p) (xs := tx r) (fun i σ H' => ∃ (acc : Nat) (v : Option V), σ = [some (.ref a), some (.int (n : Int)), some (.int (acc : Int)), v] ∧ Same H H' ∧ H' p = some (.lst (tx r)) ∧ Lx.codeOf code r = Lx.codeOf acc (r.drop i) ∧ acc < 64 ^ (i + 1))
            ⟨code, none, rfl, s1, upd_same, rfl, hb0⟩ (fun i σ H' _ ⟨_, _, _, _, z, _⟩ => SqL.of z) ?_ ?_⟩
          · rintro i x σ H' hi ⟨acc, v, rfl, s2, hp2, hco, hacc⟩
            obtain ⟨d, hd, rfl⟩ : ∃ d, r[i]? = some d ∧ x = .int (d.toNat : Int) := by
              unfold tx at hi
              rw [List.getElem?_map] at hi
              cases z : r[i]? with
              | none => rw [z] at hi; cases hi
              | some d => rw [z] at hi; exact ⟨d, rfl, (Option.some.inj hi).symm⟩
            have hi' : i < r.length := (List.getElem?_eq_some_iff.mp hd).1
            have hdr : r.drop i = d :: r.drop (i + 1) := by
              rw [List.drop_eq_getElem_cons hi']
              congr 1
              exact (List.getElem?_eq_some_iff.mp hd).2
            rw [hdr] at hco
            simp only [Lx.codeOf] at hco
            have bad : ¬ (128 ≤ d.toNat ∧ d.toNat < 192) → Q (.bl false) H' := fun z => by
              rw [if_neg z] at hco
              have := kk H' s2
              rw [hco] at this
              exact this
            refine ⟨_, rfl, _, _, rfl, rfl, _, rfl, ?_⟩
            by_cases c1 : 128 ≤ d.toNat
            · refine goT (decide_eq_true (by omega)) ⟨_, _, rfl, rfl, _, rfl, ?_⟩
              by_cases c2 : d.toNat < 192
              · rw [if_pos ⟨c1, c2⟩] at hco
                refine goF (by rw [decide_eq_true (by omega)]; rfl) ?_
                have big : 64 ^ (i + 1) ≤ 64 ^ 4 := Nat.pow_le_pow_right (by decide) (by omega)
                have e64 : (64 : Nat) ^ 4 = 16777216 := by decide
                have acc_lt : (acc : Int) < 2 ^ 64 := by
                  have : acc < 16777216 := by omega
                  omega
                have acc_ge : -(2 ^ 64) < (acc : Int) := by omega
                refine ⟨_, rfl, _, _, rfl, rfl, .inl ⟨acc_ge, acc_lt⟩, _, rfl, _, _, rfl, rfl, _, _, rfl, rfl, ?_⟩
                have e : (acc : Int) * 64 + (d.toNat : Int) - 128 = ((acc * 64 + (d.toNat - 128) : Nat) : Int) := by omega
                refine ⟨acc * 64 + (d.toNat - 128), some (.int (d.toNat : Int)), by rw [← e]; rfl, s2, hp2, hco, ?_⟩
                rw [Nat.pow_succ]
                omega
              · refine goT (by rw [decide_eq_false (by omega)]; rfl) ?_
                exact bad (fun z => c2 z.2)
            · refine goF (decide_eq_false (by omega)) ⟨_, rfl, goT rfl ?_⟩
              exact bad (fun z => c1 z.1)
          · rintro σ H' ⟨acc, v, rfl, s2, hp2, hco, hacc⟩
            rw [tx_len, List.drop_length] at hco
            have hcode : Lx.codeOf code r = some acc := hco
            have k2 := kk
            rw [hcode] at k2
            have k2 : ∀ H3, Same H H3 → Q (.bl (decide (Lx.leastOf n ≤ acc) && (!(decide (55296 ≤ acc) && decide (acc ≤ 57343)) && decide (acc ≤ 1114111)))) H3 := k2
            refine ⟨_, rfl, _, rfl, acc, n, rfl, n4, fun H3 s3 => ⟨_, rfl, ?_⟩⟩
            have k3 := k2 H3 (s2.trans s3)
            have dn : ∀ x : Nat, decide ((x : Int) ≤ (acc : Int)) = decide (x ≤ acc) := fun x => by
              by_cases y : x ≤ acc
              · rw [decide_eq_true y, decide_eq_true (by omega)]
              · rw [decide_eq_false y, decide_eq_false (by omega)]
            have up : ∀ x : Nat, decide ((acc : Int) ≤ (x : Int)) = decide (acc ≤ x) := fun x => by
              by_cases y : acc ≤ x
              · rw [decide_eq_true y, decide_eq_true (by omega)]
              · rw [decide_eq_false y, decide_eq_false (by omega)]
            cases c1 : decide (Lx.leastOf n ≤ acc) with
            | false =>
              rw [c1] at k3
              exact iteF k3
            | true =>
              rw [c1] at k3
              refine iteT ⟨_, rfl, _, _, rfl, rfl, _, rfl, ?_⟩
              have d1 := dn 55296
              have d2 := up 57343
              have d3 := up 1114111
              have last : (!(decide (55296 ≤ acc) && decide (acc ≤ 57343))) = true → ∀ b : Bool, b = true → (if b = true then tOp (rI0 fun i j => .bl (decide (i ≤ j))) (tVar 2) (tC (.int 1114111)) [some (.ref a), some (.int (n : Int)), some (.int (acc : Int)), v] H3 Q else Q (.bl false) H3) := fun z b hb => by
                rw [z] at k3
                refine goT hb ⟨_, rfl, _, _, rfl, rfl, ?_⟩
                have k4 : Q (.bl (decide (acc ≤ 1114111))) H3 := k3
                rw [← d3] at k4
                exact k4
              cases c2 : decide (55296 ≤ acc) with
              | false =>
                refine goF (d1.trans c2) ⟨_, rfl, _, rfl, ?_⟩
                exact last (by rw [c2]; rfl) _ rfl
              | true =>
                refine goT (d1.trans c2) ⟨_, _, rfl, rfl, _, rfl, _, rfl, ?_⟩
                cases c3 : decide (acc ≤ 57343) with
                | true =>
                  rw [c2, c3] at k3
                  refine goF ?_ k3
                  show (!decide ((acc : Int) ≤ ((57343 : Nat) : Int))) = false
                  rw [d2, c3]; rfl
                | false =>
                  refine last (by rw [c2, c3]; rfl) _ ?_
                  show (!decide ((acc : Int) ≤ ((57343 : Nat) : Int))) = true
                  rw [d2, c3]; rfl
end
end Tk
end

section
set_option maxHeartbeats 2000000
namespace Tk
open PySem PySem.Spec PyProof.Rows L2
open Dbm (Bytes)
/-! ### well_made -/
theorem wm_in {b : Bytes} {p : Nat} (h : p < b.length) : Lx.wm (b.drop p) = (if Lx.signLength b[p] = 0 then false else if Lx.wholeSign ((b.drop p).take (Lx.signLength b[p])) (Lx.signLength b[p]) = false then false else Lx.wm (b.drop (p + Lx.signLength b[p]))) := by
  rw [← List.drop_drop]
  have e := List.drop_eq_getElem_cons h
  generalize b.drop p = s at e ⊢
  subst e
  exact Lx.wm_cons _ _
theorem cut_any {b : Bytes} {p l : Nat} (h1 : p ≤ b.length) : cutV (tx b) (some (p : Int)) (some ((p : Int) + (l : Int))) = tx ((b.drop p).take l) := by
  unfold cutV
  rw [show (p : Int) + (l : Int) = ((p + l : Nat) : Int) by omega, HT.sIx_nat, HT.sIx_nat, tx_len, Nat.min_eq_left h1]
  unfold tx
  rw [List.map_take, List.map_drop]
  by_cases h : p + l ≤ b.length
  · rw [Nat.min_eq_left h, show p + l - p = l by omega]
  · rw [Nat.min_eq_right (by omega)]
    rw [List.take_of_length_le (by rw [List.length_drop, List.length_map]; omega), List.take_of_length_le (by rw [List.length_drop, List.length_map]; omega)]
section
variable {P : Program} {w : World} {K : PySem.W.Frag} {mg : Str → Option Value} {base : Heap}
def spWellMade (K : PySem.W.Frag) : Sp := fun vs H Q _ => ∃ (a : Addr) (b : Bytes), vs = [.ref a] ∧ SqL K H a (tx b) ∧ ∀ H', Same H H' → Q (.bl (Dbm.utf8 b)) H'
theorem sc_well_made : FnScope ["content", "place", "length"] ["content"] (defScope s_well_made) := ⟨rfl, rfl, rfl, by decide +kernel, rfl, by decide +kernel, by decide +kernel⟩
theorem ok_well_made {f f1 f2 f3 : Addr} {fd fd1 fd2 fd3 : FuncData} (F : Fun K "well_made" "well_made" s_well_made f fd) (len : mg "len" = none) (A1 : At K mg "sign_length" s_sign_length ["first"] f1 fd1) (A2 : At K mg "whole_sign" s_whole_sign ["sign", "length"] f2 fd2)
    (A3 : At K mg "in_shortest_form" s_in_shortest_form ["code", "length"] f3 fd3) : FnOk P w K mg base CX0 3 f fd ["content"] (spWellMade K) := by
  refine F.ok sc_well_made (fun vs H Q E h => ?_) (fun cdv A outer s H vs Q E hr h => ?_)
  · obtain ⟨a, b, rfl, _⟩ := h
    rfl
  · obtain ⟨a, b, rfl, hS, k⟩ := h
    rw [Lx.utf8_is] at k
    have hr1 := hr.mono (show 1 ≤ 2 by decide)
    refine ⟨_, pss_cons (ps_set (i := 1) sc_well_made.nd rfl (.inl rfl) pe_int)
      (pss_cons (ps_while PassesOwn.never (pt_cmpR op_lt (pv 1) (pe_callB call_len_seq (by rfl) len PySem.boot_len (pa_cons (pv 0) pa_nil)) (nomark _))
        (pss_cons (ps_set (i := 2) sc_well_made.nd rfl (.inl rfl) (pe_call (ok_sign_length A1.F) hr1 rfl A1.g A1.F.kp A1.b .nil pass0 (pa_cons (pe_ix ix_list (pv 0) (pv 1) (fun _ _ => rfl)) pa_nil)))
        (pss_cons (ps_if (PW.pt (pw_or (pt_cmpR op_eq (pv 2) pe_int (nomark _)) (pw_or1 (pt_not (pt_val (pe_call (ok_whole_sign A2.F len A3) hr rfl A2.g A2.F.kp A2.b .nil pass0 (pa_cons (pe_slice sl_list (pv 0) (po_some (pv 1)) (po_some (pe_op op_add (pv 1) (pv 2)))) (pa_cons (pv 2) pa_nil)))))))) (pss_one (ps_ret pe_bl)) pss_nil)
        (pss_one (ps_aug (i := 1) sc_well_made.nd rfl (.inl rfl) (pv 2) ip_add)))))
      (pss_one (ps_ret pe_bl))), ?_⟩
    refine ⟨fun m σ H' => ∃ (p : Nat) (v : Option V), σ = [some (.ref a), some (.int (p : Int)), v] ∧ m = b.length - p ∧ Same H H' ∧ Lx.wm (b.drop p) = Lx.wm b, ⟨_, 0, none, rfl, rfl, Same.refl H, rfl⟩, ?_⟩
    rintro m σ H' ⟨p, v, rfl, rfl, s5, e⟩
    refine ⟨_, rfl, _, rfl, a, tx b, rfl, .inl (s5.seq hS), _, _, rfl, rfl, _, rfl, ?_⟩
    rw [tx_len]
    by_cases h1 : p < b.length
    · refine goT (decide_eq_true (by omega)) ?_
      have hw := wm_in h1
      rw [e] at hw
      have l4 := Lx.signLength_le b[p]
      generalize hL : Lx.signLength b[p] = L at hw l4
      have at1 : atI (tx b) (p : Int) = some (.int (b[p].toNat : Int)) := by rw [atI_nat (tx_get h1), bAt_lt h1]
      refine ⟨fun σ' H2 => ∃ (p' : Nat) (v : Option V), σ' = [some (.ref a), some (.int (p' : Int)), v] ∧ p < p' ∧ Same H H2 ∧ Lx.wm (b.drop p') = Lx.wm b, ?_, ?_⟩
      · rintro σ' H2 ⟨p', v, rfl, hlt, z1, z2⟩
        exact ⟨b.length - p', by omega, p', v, rfl, rfl, z1, z2⟩
      · refine ⟨_, rfl, _, rfl, a, tx b, _, _, rfl, rfl, s5.seq hS, at1, b[p], rfl, ?_⟩
        rw [hL]
        refine ⟨_, rfl, rfl, _, rfl, ?_⟩
        rw [decV]
        by_cases c1 : L = 0
        · rw [if_pos c1] at hw
          refine goT (decide_eq_true (by omega)) (goT rfl ?_)
          have := k H' s5
          rw [hw] at this
          exact this
        · rw [if_neg c1] at hw
          refine goF (decide_eq_false (by omega)) ?_
          refine ⟨_, rfl, _, rfl, _, rfl, _, rfl, _, rfl, _, _, rfl, rfl, _, rfl, a, tx b, rfl, s5.seq hS, fun q hq => ?_⟩
          rw [cut_any (by omega)]
          have s6 := same_up (o := .lst (tx ((b.drop p).take L))) s5 hq
          refine ⟨_, rfl, q, (b.drop p).take L, L, rfl, SqL.of upd_same, by omega, l4, ?_, fun H3 s7 => ⟨_, rfl, ?_⟩⟩
          · rw [List.length_take]; omega
          · have s8 := s6.trans s7
            cases c2 : Lx.wholeSign ((b.drop p).take L) L with
            | false =>
              rw [c2, if_pos rfl] at hw
              refine goT rfl ?_
              have := k H3 s8
              rw [hw] at this
              exact this
            | true =>
              rw [c2, if_neg (by decide)] at hw
              refine goF rfl ⟨_, rfl, _, rfl, _, _, rfl, rfl, p + L, _, rfl, by omega, s8, hw.symm⟩
    · refine goF (decide_eq_false (by omega)) ?_
      rw [List.drop_eq_nil_of_le (by omega), Lx.wm_nil] at e
      have := k H' s5
      rw [← e] at this
      exact this
end
end Tk
end

section
set_option maxHeartbeats 2000000
namespace Tk
open PySem PySem.Spec PyProof.Rows L2
open Dbm (Bytes)
section
variable {P : Program} {w : World} {K : PySem.W.Frag} {mg : Str → Option Value} {base : Heap} {C R fN fR CT fT : Addr} {fdN fdR fdT : FuncData} {mc : Value}
/-! ### text_token -/
theorem sc_text_token : FnScope ["text", "place", "end", "content"] ["text", "place"] (defScope s_text_token) := ⟨rfl, rfl, rfl, by decide +kernel, rfl, by decide +kernel, by decide +kernel⟩
theorem cut_between {b : Bytes} {p n : Nat} (h0 : 1 ≤ n) (h1 : p + 1 + n ≤ b.length) : cutV (tx b) (some ((p : Int) + 1)) (some (((p + 1 + n : Nat) : Int) - 1)) = tx ((b.drop (p + 1)).take (n - 1)) := by
  rw [show (p : Int) + 1 = ((p + 1 : Nat) : Int) by omega, show ((p + 1 + n : Nat) : Int) - 1 = ((p + n : Nat) : Int) by omega, cut_tx (by omega) (by omega), show p + n - (p + 1) = n - 1 by omega]
theorem undouble_le (q : UInt8) : ∀ (m : Nat) (l : Bytes), l.length ≤ m → (Lx.undouble q l).length ≤ l.length := by
  intro m
  induction m with
  | zero =>
    intro l h
    have : l = [] := List.length_eq_zero_iff.mp (by omega)
    subst this
    simp [Lx.undouble]
  | succ m ih =>
    intro l h
    match l, h with
    | [], _ => simp [Lx.undouble]
    | [c], _ => simp [Lx.undouble]
    | c :: d :: r, h =>
      rw [Lx.undouble.eq_3]
      simp only [List.length_cons] at h
      split
      · have := ih r (by omega)
        simp only [List.length_cons]; omega
      · have := ih (d :: r) (by simp only [List.length_cons]; omega)
        simp only [List.length_cons] at this ⊢; omega
theorem ok_text_token {f f1 f2 f3 f4 f5 f6 f7 : Addr} {fd fd1 fd2 fd3 fd4 fd5 fd6 fd7 : FuncData} {t t2 : Tok} (F : Fun K "text_token" "text_token" s_text_token f fd) (len : mg "len" = none) (gQ : mg "QUOTE" = some (.int 39 t)) (gT : mg "TEXT" = some (.int 3 t2))
    (A1 : At K mg "byte_at" s_byte_at ["text", "place"] f1 fd1) (A2 : At K mg "quoted_end" s_quoted_end ["text", "opening", "place"] f2 fd2) (A3 : At K mg "undoubled" s_undoubled ["content", "sign"] f3 fd3) (A4 : At K mg "well_made" s_well_made ["content"] f4 fd4)
    (A5 : At K mg "sign_length" s_sign_length ["first"] f5 fd5) (A6 : At K mg "whole_sign" s_whole_sign ["sign", "length"] f6 fd6) (A7 : At K mg "in_shortest_form" s_in_shortest_form ["code", "length"] f7 fd7)
    (T : ErrTxt K mg C R fN fR fdN fdR mc) (TT : TokTxt K mg CT fT fdT) : FnOk P w K mg base (L2N.CX P w) 5 f fd ["text", "place"] (spTok K C CT 3 (fun b p => b[p]? = some 39) (fun b p => Lx.textLen (b.drop (p + 1)))) := by
  refine Fun.okN F sc_text_token spTok_len (fun cdv A outer s H vs Q E hr h => ?_)
  obtain ⟨a, b, p, rfl, hS, hb, hp, hq, kok, kno⟩ := h
  have kno : Lx.textLen (b.drop (p + 1)) = none → Wish C H p E := kno
  have hr1 := hr.mono (show 1 ≤ 4 by decide)
  have hr2 := hr.mono (show 2 ≤ 4 by decide)
  have hr3 := hr.mono (show 3 ≤ 4 by decide)
  refine ⟨_, pss_cons (ps_set (i := 2) sc_text_token.nd rfl (.inl rfl) (pe_call (ok_quoted_end A2.F len A1 T) hr rfl A2.g A2.F.kp A2.b .nil (L2N.passes_call (L2N.takes_of rfl rfl rfl rfl) (fun _ _ _ _ h => h)) (by exact (pa_cons (pv 0) (pa_cons (pv 1) (pa_cons (pv 1) pa_nil))))))
    (pss_cons (ps_set (i := 3) sc_text_token.nd rfl (.inl rfl) (pe_call (ok_undoubled A3.F len) hr1 rfl A3.g A3.F.kp A3.b .nil pass0 (pa_cons (pe_slice sl_list (pv 0) (po_some (pe_op op_add (pv 1) pe_int)) (po_some (pe_op op_sub (pv 2) pe_int))) (pa_cons (pe_glob (v := .int 39) rfl gQ ⟨_, rfl⟩) pa_nil))))
    (pss_cons (ps_if (PW.pt (pw_or (pt_cmpR op_gt (pe_callB call_len_seq (by rfl) len PySem.boot_len (pa_cons (pv 3) pa_nil)) pe_int (nomark _)) (pw_or1 (pt_not (pt_val (pe_call (ok_well_made A4.F len A5 A6 A7) hr3 rfl A4.g A4.F.kp A4.b .nil pass0 (pa_cons (pv 3) pa_nil)))))))
      (pss_one (L2N.ps_raise rfl (L2N.takes_of rfl rfl rfl rfl) (Er.pmk_err T.own T.iC T.tN (ok_notoken_init T) hr3 T.bN pass0 rfl T.gC (by exact (pa_cons (pv 1) pa_nil))))) pss_nil)
    (pss_one (ps_ret (pe_make TT.mkT (ok_token_init TT) hr2 (by rfl) TT.gT TT.bT .nil pass0 (pa_cons (pe_glob (v := .int 3) rfl gT ⟨_, rfl⟩) (pa_cons (pv 1) (pa_cons (pv 2) (pa_cons (pv 3) pa_nil))))))))), ?_⟩
  refine ⟨_, rfl, _, rfl, _, rfl, a, b, p, p, 39, rfl, hS, hq, fun n hn => ?_, fun hn => kno (by unfold Lx.textLen; rw [hn])⟩
  have hpos := Lx.qlen_pos hn
  rw [List.length_drop] at hpos
  have r1 : Lx.textLen (b.drop (p + 1)) = if 4096 < (Lx.undouble 39 ((b.drop (p + 1)).take (n - 1))).length ∨ Dbm.utf8 (Lx.undouble 39 ((b.drop (p + 1)).take (n - 1))) = false then none else some (n + 1) := by
    unfold Lx.textLen; rw [hn]
  have hle := undouble_le 39 _ ((b.drop (p + 1)).take (n - 1)) (Nat.le_refl _)
  refine ⟨_, rfl, _, rfl, _, _, rfl, rfl, _, rfl, _, rfl, _, _, rfl, rfl, _, rfl, a, tx b, rfl, hS, fun q hq => ?_⟩
  rw [cut_between hpos.1 (by omega)]
  have s1 := same_up (o := .lst (tx ((b.drop (p + 1)).take (n - 1)))) (Same.refl H) hq
  refine ⟨q, (b.drop (p + 1)).take (n - 1), 39, rfl, SqL.of upd_same, ?_, fun H2 u s2 hu hH2 => ?_⟩
  · rw [List.length_take, List.length_drop]; omega
  generalize Lx.undouble 39 ((b.drop (p + 1)).take (n - 1)) = ct at r1 hle hH2
  have s3 := s1.trans s2
  refine ⟨_, rfl, u, tx ct, rfl, .inl (SqL.of hH2), _, _, rfl, rfl, _, rfl, ?_⟩
  rw [tx_len]
  by_cases c1 : 4096 < ct.length
  · rw [if_pos (.inl c1)] at r1
    refine goT (decide_eq_true (by omega)) (goT rfl ?_)
    exact raise_ok ((kno r1).same s3) rfl
  · refine goF (decide_eq_false (by omega)) ⟨_, rfl, u, ct, rfl, SqL.of hH2, fun H3 s4 => ⟨_, rfl, ?_⟩⟩
    have s5 := s3.trans s4
    cases c2 : Dbm.utf8 ct with
    | false =>
      rw [if_pos (.inr c2)] at r1
      exact goT rfl (raise_ok ((kno r1).same s5) rfl)
    | true =>
      rw [if_neg (by rintro (z | z); exact c1 z; rw [c2] at z; cases z)] at r1
      refine goF rfl ⟨_, rfl, _, rfl, _, rfl, ?_⟩
      refine made_tok s5 fun H4 x s6 hx ht => kok _ r1 H4 x s6 hx ?_
      rw [show p + (n + 1) = p + 1 + n by omega]
      exact ht
/-! ### quoted_token -/
def nums (b : Bytes) : List Int := b.map fun c => (c.toNat : Int)
theorem tx_nums (b : Bytes) : tx b = (nums b).map V.int := by
  unfold tx nums
  rw [List.map_map]
  rfl
theorem min_all {u : Bytes} {m : Int} (h1 : m ∈ nums u) (h2 : ∀ x ∈ nums u, m ≤ x) : (u.all fun x => decide (32 ≤ x.toNat)) = !decide (m < 32) := by
  unfold nums at h1 h2
  obtain ⟨c, hc, rfl⟩ := List.mem_map.mp h1
  by_cases h : (c.toNat : Int) < 32
  · rw [decide_eq_true h]
    cases e : u.all fun x => decide (32 ≤ x.toNat) with
    | false => rfl
    | true =>
      have := List.all_eq_true.mp e c hc
      simp only [decide_eq_true_eq] at this
      omega
  · rw [decide_eq_false h]
    refine List.all_eq_true.mpr fun x hx => ?_
    have := h2 (x.toNat : Int) (List.mem_map.mpr ⟨x, hx, rfl⟩)
    simp only [decide_eq_true_eq]
    omega
theorem sc_quoted_token : FnScope ["text", "place", "end", "content"] ["text", "place"] (defScope s_quoted_token) := ⟨rfl, rfl, rfl, by decide +kernel, rfl, by decide +kernel, by decide +kernel⟩
theorem ok_quoted_token {f f1 f2 f3 f4 f5 f6 f7 : Addr} {fd fd1 fd2 fd3 fd4 fd5 fd6 fd7 : FuncData} {t t2 : Tok} (F : Fun K "quoted_token" "quoted_token" s_quoted_token f fd) (len : mg "len" = none) (mn : mg "min" = none) (gQ : mg "DOUBLE_QUOTE" = some (.int 34 t)) (gT : mg "QUOTED" = some (.int 1 t2))
    (A1 : At K mg "byte_at" s_byte_at ["text", "place"] f1 fd1) (A2 : At K mg "quoted_end" s_quoted_end ["text", "opening", "place"] f2 fd2) (A3 : At K mg "undoubled" s_undoubled ["content", "sign"] f3 fd3) (A4 : At K mg "well_made" s_well_made ["content"] f4 fd4)
    (A5 : At K mg "sign_length" s_sign_length ["first"] f5 fd5) (A6 : At K mg "whole_sign" s_whole_sign ["sign", "length"] f6 fd6) (A7 : At K mg "in_shortest_form" s_in_shortest_form ["code", "length"] f7 fd7)
    (T : ErrTxt K mg C R fN fR fdN fdR mc) (TT : TokTxt K mg CT fT fdT) : FnOk P w K mg base (L2N.CX P w) 5 f fd ["text", "place"] (spTok K C CT 1 (fun b p => b[p]? = some 34) (fun b p => Lx.quotedLen (b.drop (p + 1)))) := by
  refine Fun.okN F sc_quoted_token spTok_len (fun cdv A outer s H vs Q E hr h => ?_)
  obtain ⟨a, b, p, rfl, hS, hb, hp, hq, kok, kno⟩ := h
  have kno : Lx.quotedLen (b.drop (p + 1)) = none → Wish C H p E := kno
  have hr1 := hr.mono (show 1 ≤ 4 by decide)
  have hr2 := hr.mono (show 2 ≤ 4 by decide)
  have hr3 := hr.mono (show 3 ≤ 4 by decide)
  refine ⟨_, pss_cons (ps_set (i := 2) sc_quoted_token.nd rfl (.inl rfl) (pe_call (ok_quoted_end A2.F len A1 T) hr rfl A2.g A2.F.kp A2.b .nil (L2N.passes_call (L2N.takes_of rfl rfl rfl rfl) (fun _ _ _ _ h => h)) (by exact (pa_cons (pv 0) (pa_cons (pv 1) (pa_cons (pv 1) pa_nil))))))
    (pss_cons (ps_set (i := 3) sc_quoted_token.nd rfl (.inl rfl) (pe_call (ok_undoubled A3.F len) hr1 rfl A3.g A3.F.kp A3.b .nil pass0 (pa_cons (pe_slice sl_list (pv 0) (po_some (pe_op op_add (pv 1) pe_int)) (po_some (pe_op op_sub (pv 2) pe_int))) (pa_cons (pe_glob (v := .int 34) rfl gQ ⟨_, rfl⟩) pa_nil))))
    (pss_cons (ps_if (PW.pt (pw_or (pt_not (pt_chain op_le op_le pe_int (pe_callB call_len_seq (by rfl) len PySem.boot_len (pa_cons (pv 3) pa_nil)) pe_int)) (pw_or (pt_cmpR op_lt (pe_callB (cr_min rfl) (by rfl) mn (by decide +kernel) (pa_cons (pv 3) pa_nil)) pe_int (nomark _)) (pw_or1 (pt_not (pt_val (pe_call (ok_well_made A4.F len A5 A6 A7) hr3 rfl A4.g A4.F.kp A4.b .nil pass0 (pa_cons (pv 3) pa_nil))))))))
      (pss_one (L2N.ps_raise rfl (L2N.takes_of rfl rfl rfl rfl) (Er.pmk_err T.own T.iC T.tN (ok_notoken_init T) hr3 T.bN pass0 rfl T.gC (by exact (pa_cons (pv 1) pa_nil))))) pss_nil)
    (pss_one (ps_ret (pe_make TT.mkT (ok_token_init TT) hr2 (by rfl) TT.gT TT.bT .nil pass0 (pa_cons (pe_glob (v := .int 1) rfl gT ⟨_, rfl⟩) (pa_cons (pv 1) (pa_cons (pv 2) (pa_cons (pv 3) pa_nil))))))))), ?_⟩
  refine ⟨_, rfl, _, rfl, _, rfl, a, b, p, p, 34, rfl, hS, hq, fun n hn => ?_, fun hn => kno (by unfold Lx.quotedLen; rw [hn])⟩
  have hpos := Lx.qlen_pos hn
  rw [List.length_drop] at hpos
  have r1 : Lx.quotedLen (b.drop (p + 1)) = if (Lx.undouble 34 ((b.drop (p + 1)).take (n - 1))).length = 0 ∨ 64 < (Lx.undouble 34 ((b.drop (p + 1)).take (n - 1))).length ∨ ((Lx.undouble 34 ((b.drop (p + 1)).take (n - 1))).all fun x => decide (32 ≤ x.toNat)) = false ∨ Dbm.utf8 (Lx.undouble 34 ((b.drop (p + 1)).take (n - 1))) = false then none else some (n + 1) := by
    unfold Lx.quotedLen; rw [hn]
  refine ⟨_, rfl, _, rfl, _, _, rfl, rfl, _, rfl, _, rfl, _, _, rfl, rfl, _, rfl, a, tx b, rfl, hS, fun q hq => ?_⟩
  rw [cut_between hpos.1 (by omega)]
  have s1 := same_up (o := .lst (tx ((b.drop (p + 1)).take (n - 1)))) (Same.refl H) hq
  refine ⟨q, (b.drop (p + 1)).take (n - 1), 34, rfl, SqL.of upd_same, ?_, fun H2 u s2 hu hH2 => ?_⟩
  · rw [List.length_take, List.length_drop]; omega
  generalize Lx.undouble 34 ((b.drop (p + 1)).take (n - 1)) = ct at r1 hH2
  have s3 := s1.trans s2
  refine ⟨_, rfl, u, tx ct, rfl, .inl (SqL.of hH2), _, _, rfl, rfl, _, rfl, ?_⟩
  rw [tx_len]
  by_cases c0 : ct.length = 0
  · rw [if_pos (.inl c0)] at r1
    refine goF (decide_eq_false (by omega)) ⟨_, rfl, goT rfl (goT rfl ?_)⟩
    exact raise_ok ((kno r1).same s3) rfl
  · refine goT (decide_eq_true (by omega)) ⟨_, _, rfl, rfl, _, rfl, ?_⟩
    by_cases c1 : 64 < ct.length
    · rw [if_pos (.inr (.inl c1))] at r1
      refine goT (by rw [decide_eq_false (by omega)]; rfl) (goT rfl ?_)
      exact raise_ok ((kno r1).same s3) rfl
    · refine goF (by rw [decide_eq_true (by omega)]; rfl) ?_
      refine ⟨_, rfl, u, nums ct, rfl, (by rw [← tx_nums]; exact SqL.of hH2), (by unfold nums; rw [List.length_map]; omega), fun m hm hle => ⟨_, _, rfl, rfl, _, rfl, ?_⟩⟩
      have ma := min_all hm hle
      by_cases c2 : m < 32
      · rw [decide_eq_true c2] at ma
        rw [if_pos (.inr (.inr (.inl ma)))] at r1
        refine goT (decide_eq_true c2) (goT rfl ?_)
        exact raise_ok ((kno r1).same s3) rfl
      · rw [decide_eq_false c2] at ma
        refine goF (decide_eq_false c2) ⟨_, rfl, u, ct, rfl, SqL.of hH2, fun H3 s4 => ⟨_, rfl, ?_⟩⟩
        have s5 := s3.trans s4
        cases c3 : Dbm.utf8 ct with
        | false =>
          rw [if_pos (.inr (.inr (.inr c3)))] at r1
          exact goT rfl (raise_ok ((kno r1).same s5) rfl)
        | true =>
          rw [if_neg (by rintro (z | z | z | z); exact c0 z; exact c1 z; rw [ma] at z; cases z; rw [c3] at z; cases z)] at r1
          refine goF rfl ⟨_, rfl, _, rfl, _, rfl, ?_⟩
          refine made_tok s5 fun H4 x s6 hx ht => kok _ r1 H4 x s6 hx ?_
          rw [show p + (n + 1) = p + 1 + n by omega]
          exact ht
end
end Tk
end

section
set_option maxHeartbeats 2000000
namespace Tk
open PySem PySem.Spec PyProof.Rows L2
open Dbm (Bytes)
/-! ### pairs of digits -/
theorem size_two (m : Nat) (h : m ≤ 4096) : RgC 0 ((2 * m : Nat) : Int) 2 m := by
  have e : Builtin.Range.rangeSize 0 ((2 * m : Nat) : Int) 2 = (m : Int) := by
    unfold Builtin.Range.rangeSize
    rw [if_pos (by decide)]
    split <;> omega
  refine ⟨by decide, by decide, ?_, e⟩
  have fits : ∀ i : Int, 0 ≤ i → i ≤ 100000 → Builtin.Range.rangeFitsLong i = true := fun i h0 h1 => by
    unfold Builtin.Range.rangeFitsLong
    rw [Bool.and_eq_true, decide_eq_true_eq, decide_eq_true_eq]
    constructor
    · exact Int.le_trans (by decide) h0
    · exact Int.lt_of_le_of_lt h1 (by decide)
  unfold Builtin.Range.small
  rw [e, fits 0 (by omega) (by omega), fits _ (by omega) (by omega), fits 2 (by omega) (by omega), fits (m : Int) (by omega) (by omega), if_pos (by decide), fits _ (by omega) (by omega)]
  simp
/-- a comprehension over a range with a step: Pv by the turn and the heap -/
theorem lc_step {lo c : Int} {n : Nat} {g : TG} {tt : TT} {te : TE} {vs : List Nat} {σ : L2.St} {H1 : Hp} {D : Addr} {Qd : Hp → Prop} (Pv : Nat → Hp → Prop) (h0 : Pv 0 (upd H1 D (.lst [])))
    (turn : ∀ i H, i < n → Pv i H → g (.int (lo + (i : Nat) * c)) (wipe σ vs) H fun σ2 H2 => wipe σ2 vs = wipe σ vs ∧ tt σ2 H2 fun b H3 =>
      if b = true then te σ2 H3 fun y H4 => ∃ acc, H4 D = some (.lst acc) ∧ acc.length < sizeLine ∧ Pv (i + 1) (upd H4 D (.lst (acc ++ [y]))) else Pv (i + 1) H3) (done : ∀ H, Pv n H → Qd H) :
    ∃ W : Nat → Nat → Hp → Prop, (∃ m, W 0 m (upd H1 D (.lst []))) ∧ ∀ i m H, W i m H →
      ((Itc lo c n).stop i H ∧ Qd H) ∨ ((Itc lo c n).go i H ∧ ∃ Nx : Hp → Prop, (∀ H', Nx H' → ∃ m', m' < m ∧ W (i + 1) m' H') ∧ ∀ x H', (Itc lo c n).yld i H x H' → g x (wipe σ vs) H' fun σ2 H2 => wipe σ2 vs = wipe σ vs ∧ tt σ2 H2 fun b H3 =>
        if b = true then te σ2 H3 fun y H4 => ∃ acc, H4 D = some (.lst acc) ∧ acc.length < sizeLine ∧ Nx (upd H4 D (.lst (acc ++ [y]))) else Nx H3) := by
  refine ⟨fun i m H => m + i = n ∧ Pv i H, ⟨n, rfl, h0⟩, fun i m H w => ?_⟩
  obtain ⟨e, q⟩ := w
  cases m with
  | zero =>
    have e : i = n := by omega
    subst e
    exact .inl ⟨Nat.le_refl _, done H q⟩
  | succ m =>
    have lt : i < n := by omega
    refine .inr ⟨lt, Pv (i + 1), fun H' q' => ⟨m, Nat.lt_succ_self m, by omega, q'⟩, fun x H' y => ?_⟩
    obtain ⟨e1, e2⟩ := y
    subst e1 e2
    exact turn i _ lt q
def halfs (seg : Bytes) : List V := seg.map fun c => V.int (halfI (c.toNat : Int))
theorem half_hex (c : UInt8) : (eqV (.int (halfI (c.toNat : Int))) (.int (-1))) = !Dbm.isHex c := by
  rw [eqV_ii]
  unfold halfI digI Dbm.isHex Dbm.isDigit
  by_cases h1 : 48 ≤ c.toNat ∧ c.toNat ≤ 57
  · have a1 : (decide (48 ≤ (c.toNat : Int)) && decide ((c.toNat : Int) ≤ 57)) = true := by simp only [Bool.and_eq_true, decide_eq_true_eq]; omega
    have a2 : (decide (48 ≤ c.toNat) && decide (c.toNat ≤ 57)) = true := by simp only [Bool.and_eq_true, decide_eq_true_eq]; omega
    rw [a1, a2, if_pos rfl]
    simp only [Bool.true_or, Bool.not_true, beq_eq_false_iff_ne]
    omega
  · have a1 : (decide (48 ≤ (c.toNat : Int)) && decide ((c.toNat : Int) ≤ 57)) = false := by
      rw [Bool.and_eq_false_iff, decide_eq_false_iff_not, decide_eq_false_iff_not]; omega
    have a2 : (decide (48 ≤ c.toNat) && decide (c.toNat ≤ 57)) = false := by
      rw [Bool.and_eq_false_iff, decide_eq_false_iff_not, decide_eq_false_iff_not]; omega
    rw [a1, a2, if_neg Bool.false_ne_true, Bool.false_or]
    by_cases h2 : 97 ≤ c.toNat ∧ c.toNat ≤ 102
    · have a3 : (decide (97 ≤ (c.toNat : Int)) && decide ((c.toNat : Int) ≤ 102)) = true := by simp only [Bool.and_eq_true, decide_eq_true_eq]; omega
      have a4 : (decide (97 ≤ c.toNat) && decide (c.toNat ≤ 102)) = true := by simp only [Bool.and_eq_true, decide_eq_true_eq]; omega
      rw [a3, a4, if_pos rfl]
      simp only [Bool.not_true, beq_eq_false_iff_ne]
      omega
    · have a3 : (decide (97 ≤ (c.toNat : Int)) && decide ((c.toNat : Int) ≤ 102)) = false := by
        rw [Bool.and_eq_false_iff, decide_eq_false_iff_not, decide_eq_false_iff_not]; omega
      have a4 : (decide (97 ≤ c.toNat) && decide (c.toNat ≤ 102)) = false := by
        rw [Bool.and_eq_false_iff, decide_eq_false_iff_not, decide_eq_false_iff_not]; omega
      rw [a3, a4, if_neg Bool.false_ne_true]
      rfl
theorem in_halfs : ∀ seg : Bytes, inV (.int (-1)) (halfs seg) = !seg.all Dbm.isHex
  | [] => rfl
  | c :: r => by
    have ih := in_halfs r
    unfold inV halfs at ih ⊢
    rw [List.map_cons, List.any_cons, half_hex, ih, List.all_cons, Bool.not_and]
theorem flat_halfs (seg : Bytes) : (halfs seg).all flatV = true := by
  unfold halfs
  rw [List.all_map]
  exact List.all_eq_true.mpr fun c _ => rfl
theorem half_small (c : UInt8) : -(2 ^ 64) < halfI (c.toNat : Int) ∧ halfI (c.toNat : Int) < 2 ^ 64 := by
  have := c.toNat_lt
  unfold halfI
  split
  · omega
  · split <;> omega
section
variable {P : Program} {w : World} {K : PySem.W.Frag} {mg : Str → Option Value} {base : Heap} {C R fN fR CT fT : Addr} {fdN fdR fdT : FuncData} {mc : Value}
abbrev nmB : List Str := ["text", "place", "end", "digits", "halves", "content", "digit", "at"]
theorem sc_bytes_token : FnScope nmB ["text", "place"] (defScope s_bytes_token) := ⟨rfl, rfl, rfl, by decide +kernel, rfl, by decide +kernel, by decide +kernel⟩
theorem ok_bytes_token {f f1 f2 f3 f4 : Addr} {fd fd1 fd2 fd3 fd4 : FuncData} {t2 : Tok} (F : Fun K "bytes_token" "bytes_token" s_bytes_token f fd) (len : mg "len" = none) (rg : mg "range" = none) (gT : mg "BYTES" = some (.int 4 t2))
    (A1 : At K mg "byte_at" s_byte_at ["text", "place"] f1 fd1) (A2 : At K mg "quoted_end" s_quoted_end ["text", "opening", "place"] f2 fd2) (A3 : At K mg "half_byte" s_half_byte ["digit"] f3 fd3) (A4 : At K mg "is_digit" s_is_digit ["byte"] f4 fd4)
    (T : ErrTxt K mg C R fN fR fdN fdR mc) (TT : TokTxt K mg CT fT fdT) : FnOk P w K mg base (L2N.CX P w) 5 f fd ["text", "place"] (spTok K C CT 4 (fun b p => b[p + 1]? = some 39) (fun b p => Lx.bytesLen (b.drop (p + 2)))) := by
  refine Fun.okN F sc_bytes_token spTok_len (fun cdv A outer s H vs Q E hr h => ?_)
  obtain ⟨a, b, p, rfl, hS, hb, hp, hq, kok, kno⟩ := h
  have kno : Lx.bytesLen (b.drop (p + 2)) = none → Wish C H p E := kno
  have hr2 := hr.mono (show 2 ≤ 4 by decide)
  have hr3 := hr.mono (show 3 ≤ 4 by decide)
  refine ⟨_, pss_cons (ps_set (i := 2) sc_bytes_token.nd rfl (.inl rfl) (pe_call (ok_quoted_end A2.F len A1 T) hr rfl A2.g A2.F.kp A2.b .nil (L2N.passes_call (L2N.takes_of rfl rfl rfl rfl) (fun _ _ _ _ h => h)) (by exact (pa_cons (pv 0) (pa_cons (pe_op op_add (pv 1) pe_int) (pa_cons (pv 1) pa_nil))))))
    (pss_cons (ps_set (i := 3) sc_bytes_token.nd rfl (.inl rfl) (pe_slice sl_list (pv 0) (po_some (pe_op op_add (pv 1) pe_int)) (po_some (pe_op op_sub (pv 2) pe_int))))
    (pss_cons (ps_if (PW.pt (pw_or (pt_cmpR op_eq (pe_op op_mod (pe_callB call_len_seq (by rfl) len PySem.boot_len (pa_cons (pv 3) pa_nil)) pe_int) pe_int (nomark _)) (pw_or1 (pt_cmpR op_gt (pe_callB call_len_seq (by rfl) len PySem.boot_len (pa_cons (pv 3) pa_nil)) pe_int (nomark _)))))
      (pss_one (L2N.ps_raise rfl (L2N.takes_of rfl rfl rfl rfl) (Er.pmk_err T.own T.iC T.tN (ok_notoken_init T) hr3 T.bN pass0 rfl T.gC (by exact (pa_cons (pv 1) pa_nil))))) pss_nil)
    (pss_cons (ps_set (i := 4) sc_bytes_token.nd rfl (.inr rfl) (pe_lc (own := [("digit", 6)]) (g := gName 6) (tt := tYes) rfl sc_bytes_token.nd (pi_list (pv 3)) (blkOk_by (own := [("digit", 6)]) (N := nmB) (sc := defScope s_bytes_token) (by decide +kernel))
      (fun _ _ _ _ _ => pg_name (i := 6) sc_bytes_token.nd rfl (Or.inl rfl)) (fun _ _ _ _ _ => pts_nil) (fun _ _ _ _ _ => pe_call (ok_half_byte A3.F A4) hr2 rfl A3.g A3.F.kp A3.b .nil pass0 (pa_cons (pv 6) pa_nil))))
    (pss_cons (ps_if (pt_cmpR op_in_seq (pe_un un_neg pe_int) (pv 4) (by rfl)) (pss_one (L2N.ps_raise rfl (L2N.takes_of rfl rfl rfl rfl) (Er.pmk_err T.own T.iC T.tN (ok_notoken_init T) hr3 T.bN pass0 rfl T.gC (by exact (pa_cons (pv 1) pa_nil))))) pss_nil)
    (pss_cons (ps_setLc (i := 5) (own := [("at", 7)]) (g := gName 7) (tt := tYes) rfl sc_bytes_token.nd rfl rfl (sw_true rfl rfl rfl (by decide +kernel)) (pi_range3 rfl rg (pa_cons pe_int (pa_cons (pe_callB call_len_seq (by rfl) len PySem.boot_len (pa_cons (pv 4) pa_nil)) (pa_cons pe_int pa_nil)))) (blkOk_by (own := [("at", 7)]) (N := nmB) (sc := defScope s_bytes_token) (by decide +kernel))
      (fun _ _ _ _ _ => pg_name (i := 7) sc_bytes_token.nd rfl (Or.inl rfl)) (fun _ _ _ _ _ => pts_nil) (fun _ _ _ _ _ => pe_op op_add (pe_op op_mul (pe_ix (r := rIxL K) ix_list (pv 4) (pv 7) (fun _ _ => rfl)) pe_int) (pe_ix (r := rIxL K) ix_list (pv 4) (pe_op op_add (pv 7) pe_int) (fun _ _ => rfl))))
    (pss_one (ps_ret (pe_make TT.mkT (ok_token_init TT) hr2 (by rfl) TT.gT TT.bT .nil pass0 (pa_cons (pe_glob (v := .int 4) rfl gT ⟨_, rfl⟩) (pa_cons (pv 1) (pa_cons (pv 2) (pa_cons (pv 5) pa_nil)))))))))))), ?_⟩
  refine ⟨_, rfl, _, rfl, _, _, rfl, rfl, _, rfl, a, b, p + 1, p, 39, rfl, hS, hq, fun n hn => ?_, fun hn => kno (by unfold Lx.bytesLen; rw [show p + 2 = p + 1 + 1 from rfl, hn])⟩
  have hn2 : Lx.qlen 39 (b.drop (p + 2)) = some n := hn
  have hpos := Lx.qlen_pos hn2
  rw [List.length_drop] at hpos
  have r1 : Lx.bytesLen (b.drop (p + 2)) = if (n - 1) % 2 = 1 ∨ 8192 < n - 1 then none else if ((b.drop (p + 2)).take (n - 1)).all Dbm.isHex = true then some (n + 2) else none := by
    unfold Lx.bytesLen; rw [hn2]
  have cut : cutV (tx b) (some ((p : Int) + 2)) (some (((p + 1 + 1 + n : Nat) : Int) - 1)) = tx ((b.drop (p + 2)).take (n - 1)) := by
    rw [show (p : Int) + 2 = ((p + 2 : Nat) : Int) by omega, show ((p + 1 + 1 + n : Nat) : Int) - 1 = ((p + 1 + n : Nat) : Int) by omega, cut_tx (by omega) (by omega), show p + 1 + n - (p + 2) = n - 1 by omega]
  have hsl : ((b.drop (p + 2)).take (n - 1)).length = n - 1 := by
    rw [List.length_take, List.length_drop]; omega
  refine ⟨_, rfl, _, rfl, _, _, rfl, rfl, _, rfl, _, rfl, _, _, rfl, rfl, _, rfl, a, tx b, rfl, hS, fun q hq => ?_⟩
  rw [cut]
  generalize (b.drop (p + 2)).take (n - 1) = seg at r1 hsl
  have s1 := same_up (o := .lst (tx seg)) (Same.refl H) hq
  have hq1 : upd H q (.lst (tx seg)) q = some (.lst (tx seg)) := upd_same
  generalize upd H q (.lst (tx seg)) = H1 at s1 hq1
  have bad : (n - 1) % 2 = 1 ∨ 8192 < n - 1 → Wish C H1 p E := fun z => by
    rw [if_pos z] at r1
    exact (kno r1).same s1
  refine ⟨_, rfl, q, tx seg, rfl, .inl (SqL.of hq1), _, _, rfl, rfl, (by show (0 : Int) < 2; decide), rfl, _, rfl, ?_⟩
  rw [tx_len, decV]
  by_cases c1 : (n - 1) % 2 = 1
  · refine goT (decide_eq_true (by omega)) (goT rfl ?_)
    exact raise_ok (bad (.inl c1)) rfl
  · refine goF (decide_eq_false (by omega)) ?_
    refine ⟨_, rfl, q, tx seg, rfl, .inl (SqL.of hq1), _, _, rfl, rfl, _, rfl, ?_⟩
    rw [tx_len]
    by_cases c2 : 8192 < n - 1
    · refine goT (decide_eq_true (by omega)) ?_
      exact raise_ok (bad (.inr c2)) rfl
    · rw [if_neg (by rintro (z | z); exact c1 z; exact c2 z)] at r1
      refine goF (decide_eq_false (by omega)) ?_
      refine ⟨_, rfl, q, rfl, ⟨_, SqL.of hq1⟩, fun D hD => ?_⟩
      have hDq : D ≠ q := fun z => by rw [z, hq1] at hD; cases hD
      have hD0 : H D = none := s1.free hD
      refine lc_list (K := K) (a := q) (xs := tx seg) (fun i H' => Same H H' ∧ H' q = some (.lst (tx seg)) ∧ H' D = some (.lst (halfs (seg.take i)))) ⟨same_up s1 hD, by rw [upd_ne (Ne.symm hDq)]; exact hq1, upd_same⟩ (fun i H' _ ⟨_, z, _⟩ => SqL.of z) ?_ ?_
      · rintro i x H' hi ⟨s2, hq2, hD2⟩
        obtain ⟨c, hc, rfl⟩ : ∃ c, seg[i]? = some c ∧ x = .int (c.toNat : Int) := by
          unfold tx at hi
          rw [List.getElem?_map] at hi
          cases z : seg[i]? with
          | none => rw [z] at hi; cases hi
          | some c => rw [z] at hi; exact ⟨c, rfl, (Option.some.inj hi).symm⟩
        have hi' : i < seg.length := (List.getElem?_eq_some_iff.mp hc).1
        have htk : seg.take (i + 1) = seg.take i ++ [c] := by rw [List.take_succ, hc]; rfl
        refine ⟨rfl, ?_⟩
        unfold tYes
        refine goT rfl ?_
        refine ⟨_, rfl, _, rfl, _, hD2, ?_, same_upd s2 hD0, ?_, ?_⟩
        · refine line_ok ?_
          unfold halfs
          rw [List.length_map, List.length_take]
          omega
        · rw [upd_ne (Ne.symm hDq)]; exact hq2
        · rw [upd_same, htk]
          unfold halfs
          rw [List.map_append]
          rfl
      · rintro H2 ⟨s2, hq2, hD2⟩
        rw [tx_len, List.take_length] at hD2
        refine ⟨_, rfl, _, rfl, D, halfs seg, rfl, .inl (SqL.of hD2), rfl, flat_halfs seg, _, rfl, ?_⟩
        simp only [Bool.false_eq_true, if_false]
        rw [in_halfs]
        cases c3 : seg.all Dbm.isHex with
        | false =>
          rw [c3, if_neg Bool.false_ne_true] at r1
          refine goT rfl ?_
          exact raise_ok ((kno r1).same s2) rfl
        | true =>
          rw [c3, if_pos rfl] at r1
          refine goF rfl ?_
          have hlen : (halfs seg).length = 2 * ((n - 1) / 2) := by
            unfold halfs
            rw [List.length_map, hsl]
            omega
          have hat : ∀ j, j < n - 1 → ∃ c : UInt8, (halfs seg)[j]? = some (.int (halfI (c.toNat : Int))) := fun j hj => by
            have hj' : j < seg.length := by omega
            refine ⟨seg[j], ?_⟩
            unfold halfs
            rw [List.getElem?_map, List.getElem?_eq_getElem hj']
            rfl
          refine ⟨_, rfl, D, halfs seg, rfl, .inl (SqL.of hD2), 0, _, 2, (n - 1) / 2, rfl, (by rw [hlen]; exact size_two _ (by omega)), fun D2 hn2 => ?_⟩
          have hDD : D ≠ D2 := fun z => by rw [← z, hD2] at hn2; cases hn2
          have hD20 : H D2 = none := s2.free hn2
          refine lc_step (fun i H' => Same H H' ∧ H' D = some (.lst (halfs seg)) ∧ ∃ acc, H' D2 = some (.lst acc) ∧ acc.length = i) ⟨same_up s2 hn2, by rw [upd_ne hDD]; exact hD2, _, upd_same, rfl⟩ ?_ ?_
          · rintro i H' hi ⟨s3, hD3, acc, hacc, hal⟩
            obtain ⟨d1, hd1⟩ := hat (2 * i) (by omega)
            obtain ⟨d2, hd2⟩ := hat (2 * i + 1) (by omega)
            have e1 : (0 : Int) + (i : Int) * 2 = ((2 * i : Nat) : Int) := by omega
            have e2 : (0 : Int) + (i : Int) * 2 + 1 = ((2 * i + 1 : Nat) : Int) := by omega
            refine ⟨rfl, ?_⟩
            unfold tYes
            refine goT rfl ?_
            refine ⟨_, rfl, _, rfl, D, halfs seg, _, _, rfl, rfl, SqL.of hD3, (by rw [e1]; exact atI_nat hd1), _, _, rfl, rfl, .inl (half_small d1), _, rfl, _, rfl, _, _, rfl, rfl, D, halfs seg, _, _, rfl, rfl, SqL.of hD3, (by rw [e2]; exact atI_nat hd2), _, _, rfl, rfl, acc, hacc, line_ok (by omega), same_upd s3 hD20, (by rw [upd_ne hDD]; exact hD3), _, upd_same, ?_⟩
            rw [List.length_append, hal]
            rfl
          · rintro H3 ⟨s3, hD3, acc, hacc, hal⟩
            refine ⟨_, rfl, _, rfl, _, rfl, ?_⟩
            refine made_tok s3 fun H4 x s6 hx ht => kok _ r1 H4 x s6 hx ?_
            rw [show p + (n + 2) = p + 1 + 1 + n by omega]
            exact ht
end
end Tk
end

section
set_option maxHeartbeats 2000000
namespace Tk
open PySem PySem.Spec PyProof.Rows L2
open Dbm (Bytes)
/-! ### signs: two dicts of the module -/
def twoB (i j : Int) : Bool := (i == 60 && j == 62) || ((i == 60 && j == 61) || ((i == 62 && j == 61) || (i == 124 && j == 124)))
def oneL : List Int := [37, 40, 41, 42, 43, 44, 45, 46, 47, 60, 61, 62]
def oneB (i : Int) : Bool := oneL.contains i
structure OneMap (P : Program) (w : World) (K : PySem.W.Frag) (d : Addr) (f : Key → Option Value) : Prop where
  low : (d == sysModules) = false
  at_ : ∀ h : Heap, K.In h → h.MapOf (mixKind P w) d f
  some_ : ∀ i : Int, (f (.inl i)).isSome = oneB i
  str_ : ∀ (i : Int) u, f (.inl i) = some u → ∃ z t, u = .str z t
structure TwoMap (P : Program) (w : World) (K : PySem.W.Frag) (d : Addr) (xs : List (List Key × Addr × Value)) : Prop where
  low : (d == sysModules) = false
  at_ : ∀ h : Heap, K.In h → h.DictOfH (tupleKind (mixKind P w)) d xs
  some_ : ∀ i j : Int, (atKey xs [.inl i, .inl j]).isSome = twoB i j
  str_ : ∀ (i j : Int) p, atKey xs [.inl i, .inl j] = some p → ∃ z t, p.2 = .str z t
section
variable {X : Cx} {d : Addr} {f : Key → Option Value} {xs : List (List Key × Addr × Value)}
theorem op_in_one (M : OneMap X.prog X.w X.K d f) : OpR X (compareOp .In) (fun x y H Q => ∃ i : Int, x = .int i ∧ y = .ref d ∧ Q (.bl (oneB i)) H) := by
  intro pins s σ H x y v u Q I rx ry h
  obtain ⟨i, rfl, rfl, q⟩ := h
  obtain ⟨t, rfl⟩ := rx
  cases ry
  refine wpAny_in_of (mixKind_int X.prog X.w i t) M.low (M.at_ _ I.kIn) ?_
  rw [M.some_]
  exact ⟨.bl _, H, I.tok _, rfl, q⟩
theorem ix_one (M : OneMap X.prog X.w X.K d f) : IxR X (fun x y H Q => ∃ i : Int, x = .ref d ∧ y = .int i ∧ oneB i = true ∧ ∀ z, Q (.str z) H) := by
  intro value slice pins s σ H x y v u Q I rx ry h hs
  obtain ⟨i, rfl, rfl, e, q⟩ := h
  obtain rfl : v = Value.ref d := rx
  obtain ⟨t, rfl⟩ := ry
  have hm := M.at_ _ I.kIn
  have is := M.some_ i
  rw [e] at is
  obtain ⟨u0, hu⟩ := Option.isSome_iff_exists.mp is
  obtain ⟨z, t', rfl⟩ := M.str_ i u0 hu
  exact tail_any hm.typeIs PySem.F.slot_dict_getitem.lookup (wpAny_getItem_of (mixKind_int X.prog X.w i t) hm hu ⟨.str z, H, I.tok _, ⟨_, rfl⟩, q z⟩) hs
theorem op_in_two (hu : X.A.units + 1 < cLine) (M : TwoMap X.prog X.w X.K d xs) : OpR X (compareOp .In) (fun x y H Q => ∃ (i j : Int) (b : Addr), x = .ref b ∧ y = .ref d ∧ H b = some (.tup [.int i, .int j]) ∧ Q (.bl (twoB i j)) H) := by
  intro pins s σ H x y v u Q I rx ry h
  obtain ⟨i, j, b, rfl, rfl, eb, q⟩ := h
  cases (show v = Value.ref b from rx)
  cases ry
  refine wpAny_in_heap (tupleKind_room_in1 hu) (key_of (ks := [.inl i, .inl j]) I.hok eb) M.low (M.at_ _ I.kIn) ?_
  rw [M.some_]
  exact ⟨.bl _, H, I.tok _, rfl, q⟩
theorem ix_two (hu : X.A.units + 1 < cLine) (M : TwoMap X.prog X.w X.K d xs) : IxR X (fun x y H Q => ∃ (i j : Int) (b : Addr), x = .ref d ∧ y = .ref b ∧ H b = some (.tup [.int i, .int j]) ∧ twoB i j = true ∧ ∀ z, Q (.str z) H) := by
  intro value slice pins s σ H x y v u Q I rx ry h hs
  obtain ⟨i, j, b, rfl, rfl, eb, e, q⟩ := h
  obtain rfl : v = Value.ref d := rx
  cases (show u = Value.ref b from ry)
  have dd := M.at_ _ I.kIn
  have is := M.some_ i j
  rw [e] at is
  obtain ⟨p, hp⟩ := Option.isSome_iff_exists.mp is
  obtain ⟨z, t', hz⟩ := M.str_ i j p hp
  refine tail_any dd.typeIs PySem.F.slot_dict_getitem.lookup (wpAny_getItem_heap (tupleKind_room_in1 hu) (key_of (ks := [.inl i, .inl j]) I.hok eb) dd hp ?_) hs
  rw [hz]
  exact ⟨.str z, H, I.tok _, ⟨_, rfl⟩, q z⟩
end
theorem two_is {b : Bytes} {p : Nat} (h : p < b.length) : Si22.twoSigns.contains ((b.drop p).take 2) = twoB (bAt b p) (bAt b (p + 1)) := by
  rw [List.drop_eq_getElem_cons h, bAt_lt h]
  have e : Si22.twoSigns = [[60, 62], [60, 61], [62, 61], [124, 124]] := by decide +kernel
  rw [e]
  by_cases h2 : p + 1 < b.length
  · rw [List.drop_eq_getElem_cons h2, bAt_lt h2]
    show List.contains [[60, 62], [60, 61], [62, 61], [124, 124]] [b[p], b[p + 1]] = _
    generalize b[p] = c
    generalize b[p + 1] = d
    unfold twoB
    rw [Bool.eq_iff_iff]
    simp only [List.contains_iff_mem, List.mem_cons, List.not_mem_nil, or_false, List.cons.injEq, and_true, Bool.or_eq_true, Bool.and_eq_true, beq_iff_eq]
    have cc : ∀ (x : UInt8) (n : UInt8), (x = n) ↔ ((x.toNat : Int) = (n.toNat : Int)) := fun x n => by
      rw [← UInt8.toNat_inj]
      omega
    rw [cc c 60, cc c 62, cc c 124, cc d 62, cc d 61, cc d 124]
    exact Iff.rfl
  · rw [List.drop_eq_nil_of_le (by omega), bAt_none (by omega)]
    show List.contains [[60, 62], [60, 61], [62, 61], [124, 124]] [b[p]] = _
    generalize b[p] = c
    unfold twoB
    rw [Bool.eq_iff_iff]
    simp only [List.contains_iff_mem, List.mem_cons, List.not_mem_nil, or_false, List.cons.injEq, Bool.or_eq_true, Bool.and_eq_true, beq_iff_eq]
    simp
theorem one_is {b : Bytes} {p : Nat} (h : p < b.length) : Si22.oneSigns.contains b[p] = oneB (bAt b p) := by
  rw [bAt_lt h]
  have e : Si22.oneSigns = [40, 41, 44, 46, 42, 43, 45, 47, 37, 61, 60, 62] := by decide +kernel
  rw [e]
  generalize b[p] = c
  unfold oneB oneL
  rw [Bool.eq_iff_iff]
  simp only [List.contains_iff_mem, List.mem_cons, List.not_mem_nil, or_false]
  have cc : ∀ (n : UInt8), (c = n) ↔ ((c.toNat : Int) = (n.toNat : Int)) := fun n => by
    rw [← UInt8.toNat_inj]
    omega
  rw [cc 40, cc 41, cc 44, cc 46, cc 42, cc 43, cc 45, cc 47, cc 37, cc 61, cc 60, cc 62]
  show (c.toNat : Int) = 40 ∨ (c.toNat : Int) = 41 ∨ (c.toNat : Int) = 44 ∨ (c.toNat : Int) = 46 ∨ (c.toNat : Int) = 42 ∨ (c.toNat : Int) = 43 ∨ (c.toNat : Int) = 45 ∨ (c.toNat : Int) = 47 ∨ (c.toNat : Int) = 37 ∨ (c.toNat : Int) = 61 ∨ (c.toNat : Int) = 60 ∨ (c.toNat : Int) = 62 ↔ _
  omega
section
variable {P : Program} {w : World} {K : PySem.W.Frag} {mg : Str → Option Value} {base : Heap} {C R fN fR CT fT : Addr} {fdN fdR fdT : FuncData} {mc : Value}
theorem sc_sign_token : FnScope ["text", "place", "first", "pair"] ["text", "place"] (defScope s_sign_token) := ⟨rfl, rfl, rfl, by decide +kernel, rfl, by decide +kernel, by decide +kernel⟩
theorem ok_sign_token {f f1 aO aT : Addr} {fd fd1 : FuncData} {t2 : Tok} {fO : Key → Option Value} {xT : List (List Key × Addr × Value)} (F : Fun K "sign_token" "sign_token" s_sign_token f fd) (len : mg "len" = none) (gS : mg "SIGN" = some (.int 6 t2))
    (gO : mg "ONE_BYTE_SIGNS" = some (.ref aO)) (gT2 : mg "TWO_BYTE_SIGNS" = some (.ref aT)) (MO : OneMap P w K aO fO) (MT : TwoMap P w K aT xT)
    (A1 : At K mg "byte_at" s_byte_at ["text", "place"] f1 fd1) (T : ErrTxt K mg C R fN fR fdN fdR mc) (TT : TokTxt K mg CT fT fdT) : FnOk P w K mg base (L2N.CX P w) 4 f fd ["text", "place"] (spTok K C CT 6 (fun _ _ => True) (fun b p => Lx.signLen (b.drop p))) := by
  refine Fun.okN F sc_sign_token spTok_len (fun cdv A outer s H vs Q E hr h => ?_)
  obtain ⟨a, b, p, rfl, hS, hb, hp, _, kok, kno⟩ := h
  have kno : Lx.signLen (b.drop p) = none → Wish C H p E := kno
  have hu := hu_of hr
  have hr1 := hr.mono (show 1 ≤ 3 by decide)
  have hr2 := hr.mono (show 2 ≤ 3 by decide)
  refine ⟨_, pss_cons (ps_set (i := 2) sc_sign_token.nd rfl (.inl rfl) (pe_ix ix_list (pv 0) (pv 1) (fun _ _ => rfl)))
    (pss_cons (ps_set (i := 3) sc_sign_token.nd rfl (.inl rfl) (pe_tup (pa_cons (pv 2) (pa_cons (pe_call (ok_byte_at A1.F len) hr1 rfl A1.g A1.F.kp A1.b .nil pass0 (pa_cons (pv 0) (pa_cons (pe_op op_add (pv 1) pe_int) pa_nil))) pa_nil))))
    (pss_cons (ps_if (pt_cmpR (op_in_two hu MT) (pv 3) (pe_glob (v := .ref aT) rfl gT2 rfl) (by rfl))
      (pss_one (ps_ret (pe_make TT.mkT (ok_token_init TT) hr2 (by rfl) TT.gT TT.bT .nil pass0 (pa_cons (pe_glob (v := .int 6) rfl gS ⟨_, rfl⟩) (pa_cons (pv 1) (pa_cons (pe_op op_add (pv 1) pe_int) (pa_cons (pe_ix (ix_two hu MT) (pe_glob (v := .ref aT) rfl gT2 rfl) (pv 3) (fun _ _ => rfl)) pa_nil))))))) pss_nil)
    (pss_cons (ps_if (pt_cmpR (op_in_one MO) (pv 2) (pe_glob (v := .ref aO) rfl gO rfl) (by rfl))
      (pss_one (ps_ret (pe_make TT.mkT (ok_token_init TT) hr2 (by rfl) TT.gT TT.bT .nil pass0 (pa_cons (pe_glob (v := .int 6) rfl gS ⟨_, rfl⟩) (pa_cons (pv 1) (pa_cons (pe_op op_add (pv 1) pe_int) (pa_cons (pe_ix (ix_one MO) (pe_glob (v := .ref aO) rfl gO rfl) (pv 2) (fun _ _ => rfl)) pa_nil))))))) pss_nil)
    (pss_one (L2N.ps_raise rfl (L2N.takes_of rfl rfl rfl rfl) (Er.pmk_err T.own T.iC T.tN (ok_notoken_init T) hr T.bN pass0 rfl T.gC (by exact (pa_cons (pv 1) pa_nil)))))))), ?_⟩
  have r1 : Lx.signLen (b.drop p) = if twoB (bAt b p) (bAt b (p + 1)) = true then some 2 else if oneB (bAt b p) = true then some 1 else none := by
    rw [← two_is hp, ← one_is hp]
    have e := List.drop_eq_getElem_cons hp
    generalize b.drop p = s at e ⊢
    subst e
    rfl
  refine ⟨_, rfl, _, rfl, a, tx b, _, _, rfl, rfl, hS, atI_nat (tx_get hp), ?_⟩
  refine ⟨_, rfl, _, rfl, _, rfl, _, _, rfl, rfl, a, b, p + 1, rfl, hS, by show 2 ≤ sizeLine; decide, fun q hq => ?_⟩
  have s1 := same_up (o := .tup [.int (bAt b p), .int (bAt b (p + 1))]) (Same.refl H) hq
  refine ⟨_, rfl, _, _, q, rfl, rfl, upd_same, _, rfl, ?_⟩
  cases c1 : twoB (bAt b p) (bAt b (p + 1)) with
  | true =>
    rw [c1, if_pos rfl] at r1
    refine iteT ⟨_, rfl, _, rfl, _, _, rfl, rfl, _, rfl, _, _, q, rfl, rfl, upd_same, c1, fun z => ?_⟩
    exact made_tok (e := p + 2) s1 fun H4 x s6 hx ht => kok _ r1 H4 x s6 hx ht
  | false =>
    rw [c1, if_neg Bool.false_ne_true] at r1
    refine iteF ⟨_, rfl, _, rfl, rfl, _, rfl, ?_⟩
    cases c2 : oneB (bAt b p) with
    | true =>
      rw [c2, if_pos rfl] at r1
      refine iteT ⟨_, rfl, _, rfl, _, _, rfl, rfl, _, rfl, _, rfl, rfl, c2, fun z => ?_⟩
      exact made_tok (e := p + 1) s1 fun H4 x s6 hx ht => kok _ r1 H4 x s6 hx ht
    | false =>
      rw [c2, if_neg Bool.false_ne_true] at r1
      refine iteF ?_
      exact raise_ok ((kno r1).same s1) rfl
end
end Tk
end

section
set_option maxHeartbeats 2000000
namespace Tk
open PySem PySem.Spec PyProof.Rows L2
open Dbm (Bytes)
/-! ### numbers -/
theorem okC_digit {c : UInt8} (h : Dbm.isDigit c = true) : okC c = true := by
  unfold Dbm.isDigit at h
  unfold okC
  simp only [Bool.and_eq_true, decide_eq_true_eq] at h ⊢
  omega
theorem digits_ok (s : Bytes) : (s.take (Lx.digitsLen s)).all okC = true := by
  unfold Lx.digitsLen
  rw [Lx.take_len_takeWhile]
  exact List.all_eq_true.mpr fun c hc => okC_digit (Lx.takeWhile_all _ _ c hc)
theorem take_two (s : Bytes) (x y : Nat) (h1 : (s.take x).all okC = true) (h2 : ((s.drop x).take y).all okC = true) : (s.take (x + y)).all okC = true := by
  rw [List.take_add, List.all_append, h1, h2]
  rfl
theorem one_ok {s : Bytes} (h : ∀ c, s.head? = some c → okC c = true) : (s.take 1).all okC = true := by
  cases s with
  | nil => rfl
  | cons c r =>
    simp only [List.take_succ_cons, List.take_zero, List.all_cons, List.all_nil, Bool.and_true]
    exact h c rfl
theorem exp_ok (s : Bytes) : (s.take (Lx.expLen s)).all okC = true := by
  cases s with
  | nil => rfl
  | cons c q =>
    simp only [Lx.expLen]
    by_cases h : c = 69 ∨ c = 101
    · rw [if_pos h]
      have hc : okC c = true := by
        rcases h with rfl | rfl <;> decide
      have h1 : ((c :: q).take 1).all okC = true := one_ok fun d e => by
        simp only [List.head?_cons, Option.some.injEq] at e
        rw [← e]; exact hc
      have key : ∀ n : Nat, (q.take n).all okC = true → ((c :: q).take (if Lx.digitsLen (q.drop n) = 0 then 0 else 1 + n + Lx.digitsLen (q.drop n))).all okC = true := by
        intro n hn
        split
        · rfl
        · refine take_two _ _ _ (take_two _ _ _ h1 ?_) ?_
          · exact hn
          · have : (c :: q).drop (1 + n) = q.drop n := by rw [Nat.add_comm]; rfl
            rw [this]
            exact digits_ok _
      by_cases h2 : q.head? = some 43 ∨ q.head? = some 45
      · rw [if_pos h2]
        refine key 1 (one_ok fun d e => ?_)
        rw [e] at h2
        rcases h2 with h2 | h2 <;> (cases h2; decide)
      · rw [if_neg h2]
        exact key 0 rfl
    · rw [if_neg h]
      rfl
theorem mant_ok (s : Bytes) : (s.take (Lx.mantLen s)).all okC = true := by
  unfold Lx.mantLen
  simp only []
  have h1 := digits_ok s
  cases e : s.drop (Lx.digitsLen s) with
  | nil => exact h1
  | cons c q =>
    simp only []
    by_cases h : c = 46 ∧ Lx.digitsLen q ≠ 0
    · rw [if_pos h]
      refine take_two _ _ _ (take_two _ _ _ h1 ?_) ?_
      · rw [e]
        refine one_ok fun d z => ?_
        simp only [List.head?_cons, Option.some.injEq] at z
        rw [← z, h.1]; decide
      · rw [← List.drop_drop, e]
        exact digits_ok q
    · rw [if_neg h]
      exact h1
theorem num_ok (s : Bytes) : (s.take (Lx.numLen s)).all okC = true := take_two _ _ _ (mant_ok s) (exp_ok _)
theorem mant_at (b : Bytes) (p : Nat) : Lx.mantLen (b.drop p) = if (decide (bAt b (p + Lx.digitsLen (b.drop p)) = 46) && digI (bAt b (p + Lx.digitsLen (b.drop p) + 1))) = true then Lx.digitsLen (b.drop p) + 1 + Lx.digitsLen (b.drop (p + Lx.digitsLen (b.drop p) + 1)) else Lx.digitsLen (b.drop p) := by
  unfold Lx.mantLen
  simp only []
  generalize hd : Lx.digitsLen (b.drop p) = d
  rw [List.drop_drop]
  have a1 : bAt b (p + d) = (46 : UInt8).toNat ↔ b[p + d]? = some 46 := bAt_iff 46
  have a1 : bAt b (p + d) = 46 ↔ b[p + d]? = some 46 := a1
  have dg := digits_pos (b := b) (n := p + d + 1)
  by_cases h : p + d < b.length
  · rw [List.drop_eq_getElem_cons h]
    simp only []
    rw [List.getElem?_eq_getElem h, Option.some.injEq] at a1
    by_cases c1 : b[p + d] = 46
    · rw [decide_eq_true (a1.mpr c1), Bool.true_and]
      by_cases c2 : digI (bAt b (p + d + 1)) = true
      · rw [if_pos ⟨c1, dg.mp c2⟩, if_pos c2]
      · rw [if_neg (fun z => c2 (dg.mpr z.2)), if_neg c2]
    · rw [if_neg (fun z => c1 z.1), decide_eq_false (fun z => c1 (a1.mp z))]
      rfl
  · rw [List.drop_eq_nil_of_le (by omega)]
    have : bAt b (p + d) = -1 := bAt_none (by omega)
    rw [decide_eq_false (by rw [this]; decide)]
    rfl
section
variable {P : Program} {w : World} {K : PySem.W.Frag} {mg : Str → Option Value} {base : Heap} {C R fN fR CT fT : Addr} {fdN fdR fdT : FuncData} {mc : Value}
theorem sc_number_token : FnScope ["text", "place", "end"] ["text", "place"] (defScope s_number_token) := ⟨rfl, rfl, rfl, by decide +kernel, rfl, by decide +kernel, by decide +kernel⟩
theorem ok_number_token {f f1 f2 f3 f4 f5 f6 f7 : Addr} {fd fd1 fd2 fd3 fd4 fd5 fd6 fd7 : FuncData} {t t2 t3 : Tok} (F : Fun K "number_token" "number_token" s_number_token f fd) (len : mg "len" = none) (sp : mg "SPELLING" = some (.str SP t)) (gN : mg "NUMBER" = some (.int 2 t2)) (gP : mg "POINT" = some (.int 46 t3))
    (A1 : At K mg "byte_at" s_byte_at ["text", "place"] f1 fd1) (A2 : At K mg "in_word" s_in_word ["byte"] f2 fd2) (A3 : At K mg "begins_word" s_begins_word ["byte"] f3 fd3) (A4 : At K mg "is_digit" s_is_digit ["byte"] f4 fd4) (A5 : At K mg "spelled" s_spelled ["text", "place", "end"] f5 fd5)
    (A6 : At K mg "digits_end" s_digits_end ["text", "place"] f6 fd6) (A7 : At K mg "exponent_end" s_exponent_end ["text", "place"] f7 fd7)
    (T : ErrTxt K mg C R fN fR fdN fdR mc) (TT : TokTxt K mg CT fT fdT) : FnOk P w K mg base (L2N.CX P w) 4 f fd ["text", "place"] (spTok K C CT 2 (fun _ _ => True) (fun b p => Lx.numberLen (b.drop p))) := by
  refine Fun.okN F sc_number_token spTok_len (fun cdv A outer s H vs Q E hr h => ?_)
  obtain ⟨a, b, p, rfl, hS, hb, hp, _, kok, kno⟩ := h
  have kno : Lx.numberLen (b.drop p) = none → Wish C H p E := kno
  have hr1 := hr.mono (show 1 ≤ 3 by decide)
  have hr2 := hr.mono (show 2 ≤ 3 by decide)
  refine ⟨_, pss_cons (ps_set (i := 2) sc_number_token.nd rfl (.inl rfl) (pe_call (ok_digits_end A6.F len A1 A4) hr2 rfl A6.g A6.F.kp A6.b .nil pass0 (pa_cons (pv 0) (pa_cons (pv 1) pa_nil))))
    (pss_cons (ps_if (PW.pt (pw_and (pt_cmpR op_eq (pe_call (ok_byte_at A1.F len) hr1 rfl A1.g A1.F.kp A1.b .nil pass0 (pa_cons (pv 0) (pa_cons (pv 2) pa_nil))) (pe_glob (v := .int 46) rfl gP ⟨_, rfl⟩) (nomark _))
        (pw_and1 (pt_val (pe_call (ok_is_digit A4.F) hr1 rfl A4.g A4.F.kp A4.b .nil pass0 (pa_cons (pe_call (ok_byte_at A1.F len) hr1 rfl A1.g A1.F.kp A1.b .nil pass0 (pa_cons (pv 0) (pa_cons (pe_op op_add (pv 2) pe_int) pa_nil))) pa_nil))))))
      (pss_one (ps_set (i := 2) sc_number_token.nd rfl (.inl rfl) (pe_call (ok_digits_end A6.F len A1 A4) hr2 rfl A6.g A6.F.kp A6.b .nil pass0 (pa_cons (pv 0) (pa_cons (pe_op op_add (pv 2) pe_int) pa_nil))))) pss_nil)
    (pss_cons (ps_set (i := 2) sc_number_token.nd rfl (.inl rfl) (pe_call (ok_exponent_end A7.F len A1 A4 A6) hr rfl A7.g A7.F.kp A7.b .nil pass0 (pa_cons (pv 0) (pa_cons (pv 2) pa_nil))))
    (pss_cons (ps_if (pt_val (pe_call (ok_in_word A2.F A3 A4) hr2 rfl A2.g A2.F.kp A2.b .nil pass0 (pa_cons (pe_call (ok_byte_at A1.F len) hr1 rfl A1.g A1.F.kp A1.b .nil pass0 (pa_cons (pv 0) (pa_cons (pv 2) pa_nil))) pa_nil)))
      (pss_one (L2N.ps_raise rfl (L2N.takes_of rfl rfl rfl rfl) (Er.pmk_err T.own T.iC T.tN (ok_notoken_init T) hr T.bN pass0 rfl T.gC (by exact (pa_cons (pv 1) pa_nil))))) pss_nil)
    (pss_one (ps_ret (pe_make TT.mkT (ok_token_init TT) hr2 (by rfl) TT.gT TT.bT .nil pass0 (pa_cons (pe_glob (v := .int 2) rfl gN ⟨_, rfl⟩) (pa_cons (pv 1) (pa_cons (pv 2) (pa_cons (pe_call (ok_spelled A5.F sp) hr1 rfl A5.g A5.F.kp A5.b .nil pass0 (pa_cons (pv 0) (pa_cons (pv 1) (pa_cons (pv 2) pa_nil)))) pa_nil)))))))))), ?_⟩
  have hm := mant_at b p
  have hml := Lx.numLen_le (b.drop p)
  rw [List.length_drop] at hml
  have r1 : Lx.numberLen (b.drop p) = if inwI (bAt b (p + Lx.numLen (b.drop p))) = true then none else some (Lx.numLen (b.drop p)) := by
    unfold Lx.numberLen
    rw [inwI_bAt, List.drop_drop]
  have hn : Lx.numLen (b.drop p) = Lx.mantLen (b.drop p) + Lx.expLen (b.drop (p + Lx.mantLen (b.drop p))) := by
    unfold Lx.numLen
    simp only []
    rw [List.drop_drop]
  have rest : ∀ e : Nat, e = p + Lx.mantLen (b.drop p) → tSeq (tAsg (tCall (spExpEnd K) [] E0 (tCons (tVar 0) (tCons (tVar 2) tNil))) (gName 2))
      (tSeq (tIfS (tB (tCall (spBool inwI) [] E0 (tCons (tCall (spByteAt K) [] E0 (tCons (tVar 0) (tCons (tVar 2) tNil))) tNil))) (fun _ σ H => tMkO C (spTokInit C) [] (tCons (tVar 1) tNil) σ H fun cls d H' => E cls d H') tNext)
        (tRet (tMake CT (spTokenInit CT) [] E0 (tCons (tC (.int 2)) (tCons (tVar 1) (tCons (tVar 2) (tCons (tCall (spSpelled K) [] E0 (tCons (tVar 0) (tCons (tVar 1) (tCons (tVar 2) tNil)))) tNil)))))))
      { nx := fun _ H' => Q .non H', rt := Q } [some (.ref a), some (.int (p : Int)), some (.int (e : Int))] H := by
    intro e he
    refine ⟨_, rfl, _, rfl, a, b, e, rfl, hS, fun H2 s2 => ?_⟩
    have he2 : e + Lx.expLen (b.drop e) = p + Lx.numLen (b.drop p) := by
      rw [hn, he]; omega
    rw [he2]
    refine ⟨_, rfl, _, rfl, a, b, _, rfl, s2.seq hS, _, rfl, _, rfl, ?_⟩
    cases c : inwI (bAt b (p + Lx.numLen (b.drop p))) with
    | true =>
      rw [c, if_pos rfl] at r1
      exact iteT (raise_ok ((kno r1).same s2) rfl)
    | false =>
      rw [c, if_neg Bool.false_ne_true] at r1
      refine iteF ⟨_, rfl, _, rfl, _, rfl, _, rfl, _, rfl, a, b, p, _, rfl, s2.seq hS, by omega, by omega, hb, ?_, fun H3 s3 => ?_⟩
      · rw [show p + Lx.numLen (b.drop p) - p = Lx.numLen (b.drop p) by omega]
        exact num_ok _
      · exact made_tok (s2.trans s3) fun H4 x s6 hx ht => kok _ r1 H4 x s6 hx ht
  refine ⟨_, rfl, _, rfl, a, b, p, rfl, hS, ?_⟩
  refine ⟨_, rfl, _, rfl, a, b, _, rfl, hS, rfl, _, rfl, ?_⟩
  rw [decV]
  by_cases c1 : bAt b (p + Lx.digitsLen (b.drop p)) = 46
  · refine goT (decide_eq_true c1) ⟨_, rfl, _, rfl, _, _, rfl, rfl, a, b, p + Lx.digitsLen (b.drop p) + 1, rfl, hS, _, rfl, _, rfl, ?_⟩
    rw [decide_eq_true c1, Bool.true_and] at hm
    cases c2 : digI (bAt b (p + Lx.digitsLen (b.drop p) + 1)) with
    | true =>
      rw [c2, if_pos rfl] at hm
      refine iteT ⟨_, rfl, _, rfl, _, _, rfl, rfl, a, b, p + Lx.digitsLen (b.drop p) + 1, rfl, hS, ?_⟩
      exact rest _ (by rw [hm]; omega)
    | false =>
      rw [c2, if_neg Bool.false_ne_true] at hm
      exact iteF (rest _ (by rw [hm]))
  · rw [decide_eq_false c1, Bool.false_and, if_neg Bool.false_ne_true] at hm
    exact goF (decide_eq_false c1) (goF rfl (rest _ (by rw [hm])))
end
end Tk
end

section
set_option maxHeartbeats 2000000
namespace Tk
open PySem PySem.Spec PyProof.Rows L2
open Dbm (Bytes)
/-! ### given values -/
theorem int_one : ∀ i : Fin 10, PySem.intText? (spl [UInt8.ofNat (48 + i.val)]) = some (i.val : Int) ∧ (spl [UInt8.ofNat (48 + i.val)]).length ≤ 640 := by decide +kernel
theorem int_two : ∀ i j : Fin 10, PySem.intText? (spl [UInt8.ofNat (48 + i.val), UInt8.ofNat (48 + j.val)]) = some ((10 * i.val + j.val : Nat) : Int) ∧ (spl [UInt8.ofNat (48 + i.val), UInt8.ofNat (48 + j.val)]).length ≤ 640 := by decide +kernel
theorem digit_fin {c : UInt8} (h : Dbm.isDigit c = true) : ∃ i : Fin 10, c = UInt8.ofNat (48 + i.val) ∧ c.toNat - 48 = i.val := by
  unfold Dbm.isDigit at h
  simp only [Bool.and_eq_true, decide_eq_true_eq] at h
  have e : c.toNat - 48 < 10 := by omega
  refine ⟨⟨c.toNat - 48, e⟩, ?_, rfl⟩
  show c = UInt8.ofNat (48 + (c.toNat - 48))
  rw [show 48 + (c.toNat - 48) = c.toNat by omega]
  exact UInt8.ofNat_toNat.symm
theorem int_digits : ∀ seg : Bytes, (∀ x ∈ seg, Dbm.isDigit x = true) → 1 ≤ seg.length → seg.length ≤ 2 → PySem.intText? (spl seg) = some ((Si22.digitsOf seg : Nat) : Int) ∧ (spl seg).length ≤ 640
  | [], _, h, _ => by simp at h
  | [c], hd, _, _ => by
    obtain ⟨i, e, ei⟩ := digit_fin (hd c (by simp))
    have := int_one i
    rw [← e] at this
    unfold Si22.digitsOf
    simp only [List.foldl_cons, List.foldl_nil]
    rw [ei]
    refine ⟨this.1.trans ?_, this.2⟩
    congr 1
    omega
  | [c, d], hd, _, _ => by
    obtain ⟨i, e, ei⟩ := digit_fin (hd c (by simp))
    obtain ⟨j, e2, ej⟩ := digit_fin (hd d (by simp))
    have := int_two i j
    rw [← e, ← e2] at this
    unfold Si22.digitsOf
    simp only [List.foldl_cons, List.foldl_nil]
    rw [ei, ej]
    refine ⟨this.1.trans ?_, this.2⟩
    congr 1
    omega
  | _ :: _ :: _ :: _, _, _, h => by simp at h
section
variable {P : Program} {w : World} {K : PySem.W.Frag} {mg : Str → Option Value} {base : Heap} {C R fN fR CT fT : Addr} {fdN fdR fdT : FuncData} {mc : Value}
theorem sc_given_token : FnScope ["text", "place", "end", "number"] ["text", "place"] (defScope s_given_token) := ⟨rfl, rfl, rfl, by decide +kernel, rfl, by decide +kernel, by decide +kernel⟩
theorem ok_given_token {f f1 f2 f3 f4 f5 f6 : Addr} {fd fd1 fd2 fd3 fd4 fd5 fd6 : FuncData} {t t2 t3 : Tok} (F : Fun K "given_token" "given_token" s_given_token f fd) (len : mg "len" = none) (it : mg "int" = none) (sp : mg "SPELLING" = some (.str SP t)) (gN : mg "GIVEN" = some (.int 5 t2)) (gZ : mg "ZERO" = some (.int 48 t3))
    (A1 : At K mg "byte_at" s_byte_at ["text", "place"] f1 fd1) (A2 : At K mg "in_word" s_in_word ["byte"] f2 fd2) (A3 : At K mg "begins_word" s_begins_word ["byte"] f3 fd3) (A4 : At K mg "is_digit" s_is_digit ["byte"] f4 fd4) (A5 : At K mg "spelled" s_spelled ["text", "place", "end"] f5 fd5)
    (A6 : At K mg "digits_end" s_digits_end ["text", "place"] f6 fd6) (T : ErrTxt K mg C R fN fR fdN fdR mc) (TT : TokTxt K mg CT fT fdT) : FnOk P w K mg base (L2N.CX P w) 4 f fd ["text", "place"] (spTok K C CT 5 (fun _ _ => True) (fun b p => Lx.givenLen (b.drop (p + 1)))) := by
  refine Fun.okN F sc_given_token spTok_len (fun cdv A outer s H vs Q E hr h => ?_)
  obtain ⟨a, b, p, rfl, hS, hb, hp, _, kok, kno⟩ := h
  have kno : Lx.givenLen (b.drop (p + 1)) = none → Wish C H p E := kno
  have hr1 := hr.mono (show 1 ≤ 3 by decide)
  have hr2 := hr.mono (show 2 ≤ 3 by decide)
  refine ⟨_, pss_cons (ps_set (i := 2) sc_given_token.nd rfl (.inl rfl) (pe_call (ok_digits_end A6.F len A1 A4) hr2 rfl A6.g A6.F.kp A6.b .nil pass0 (pa_cons (pv 0) (pa_cons (pe_op op_add (pv 1) pe_int) pa_nil))))
    (pss_cons (ps_if (PW.pt (pw_or (pt_not (pt_chain op_le op_le pe_int (pe_op op_sub (pv 2) (pv 1)) pe_int)) (pw_or (pt_cmpR op_eq (pe_ix ix_list (pv 0) (pe_op op_add (pv 1) pe_int) (fun _ _ => rfl)) (pe_glob (v := .int 48) rfl gZ ⟨_, rfl⟩) (nomark _))
        (pw_or1 (pt_val (pe_call (ok_in_word A2.F A3 A4) hr2 rfl A2.g A2.F.kp A2.b .nil pass0 (pa_cons (pe_call (ok_byte_at A1.F len) hr1 rfl A1.g A1.F.kp A1.b .nil pass0 (pa_cons (pv 0) (pa_cons (pv 2) pa_nil))) pa_nil)))))))
      (pss_one (L2N.ps_raise rfl (L2N.takes_of rfl rfl rfl rfl) (Er.pmk_err T.own T.iC T.tN (ok_notoken_init T) hr T.bN pass0 rfl T.gC (by exact (pa_cons (pv 1) pa_nil))))) pss_nil)
    (pss_cons (ps_set (i := 3) sc_given_token.nd rfl (.inl rfl) (pe_callTy call_int_str (by rfl) it (by decide +kernel) (pa_cons (pe_call (ok_spelled A5.F sp) hr1 rfl A5.g A5.F.kp A5.b .nil pass0 (pa_cons (pv 0) (pa_cons (pe_op op_add (pv 1) pe_int) (pa_cons (pv 2) pa_nil)))) pa_nil)))
    (pss_cons (ps_if (pt_cmpR op_gt (pv 3) pe_int (nomark _))
      (pss_one (L2N.ps_raise rfl (L2N.takes_of rfl rfl rfl rfl) (Er.pmk_err T.own T.iC T.tN (ok_notoken_init T) hr T.bN pass0 rfl T.gC (by exact (pa_cons (pv 1) pa_nil))))) pss_nil)
    (pss_one (ps_ret (pe_make TT.mkT (ok_token_init TT) hr2 (by rfl) TT.gT TT.bT .nil pass0 (pa_cons (pe_glob (v := .int 5) rfl gN ⟨_, rfl⟩) (pa_cons (pv 1) (pa_cons (pv 2) (pa_cons (pv 3) pa_nil)))))))))), ?_⟩
  have hdl := Lx.digitsLen_le (b.drop (p + 1))
  rw [List.length_drop] at hdl
  have hseg0 : ∀ x ∈ (b.drop (p + 1)).take (Lx.digitsLen (b.drop (p + 1))), Dbm.isDigit x = true := by
    unfold Lx.digitsLen
    rw [Lx.take_len_takeWhile]
    exact Lx.takeWhile_all _ _
  have hok0 := digits_ok (b.drop (p + 1))
  have r1 : Lx.givenLen (b.drop (p + 1)) = if ¬ (1 ≤ Lx.digitsLen (b.drop (p + 1)) ∧ Lx.digitsLen (b.drop (p + 1)) ≤ 2) ∨ b[p + 1]? = some 48 ∨ inwI (bAt b (p + 1 + Lx.digitsLen (b.drop (p + 1)))) = true then none
      else if 64 < Si22.digitsOf ((b.drop (p + 1)).take (Lx.digitsLen (b.drop (p + 1)))) then none else some (Lx.digitsLen (b.drop (p + 1)) + 1) := by
    unfold Lx.givenLen
    simp only []
    rw [inwI_bAt, List.drop_drop, List.head?_drop]
  refine ⟨_, rfl, _, rfl, _, _, rfl, rfl, a, b, p + 1, rfl, hS, ?_⟩
  generalize Lx.digitsLen (b.drop (p + 1)) = d at hdl hseg0 hok0 r1
  refine ⟨_, rfl, _, rfl, _, _, rfl, rfl, _, _, rfl, rfl, _, rfl, ?_⟩
  have bad : (¬ (1 ≤ d ∧ d ≤ 2) ∨ b[p + 1]? = some 48 ∨ inwI (bAt b (p + 1 + d)) = true) → Wish C H p E := fun z => by
    rw [if_pos z] at r1
    exact kno r1
  by_cases c1 : 1 ≤ d
  · refine goT (decide_eq_true (by omega)) ⟨_, _, rfl, rfl, _, rfl, ?_⟩
    by_cases c2 : d ≤ 2
    · refine goF (by rw [decide_eq_true (by omega)]; rfl) ?_
      have hlt : p + 1 < b.length := by omega
      refine ⟨_, rfl, _, rfl, _, _, rfl, rfl, a, tx b, _, _, rfl, rfl, hS, atI_nat (j := p + 1) (tx_get hlt), rfl, _, rfl, ?_⟩
      rw [decV]
      have z48 : bAt b (p + 1) = 48 ↔ b[p + 1]? = some 48 := bAt_iff 48
      by_cases c3 : bAt b (p + 1) = 48
      · refine goT (decide_eq_true c3) (goT rfl ?_)
        exact raise_ok (bad (.inr (.inl (z48.mp c3)))) rfl
      · refine goF (decide_eq_false c3) ⟨_, rfl, _, rfl, a, b, p + 1 + d, rfl, hS, _, rfl, _, rfl, ?_⟩
        cases c4 : inwI (bAt b (p + 1 + d)) with
        | true => exact goT rfl (raise_ok (bad (.inr (.inr c4))) rfl)
        | false =>
          rw [if_neg (by rintro (z | z | z); exact z ⟨c1, c2⟩; exact c3 (z48.mpr z); rw [c4] at z; cases z)] at r1
          refine goF rfl ?_
          have hsl : ((b.drop (p + 1)).take d).length = d := by rw [List.length_take, List.length_drop]; omega
          have hseg := int_digits _ hseg0 (by omega) (by omega)
          refine ⟨_, rfl, _, rfl, _, _, rfl, rfl, _, rfl, a, b, p + 1, p + 1 + d, rfl, hS, by omega, by omega, hb, (by rw [show p + 1 + d - (p + 1) = d by omega]; exact hok0), fun H2 s2 => ?_⟩
          rw [show p + 1 + d - (p + 1) = d by omega]
          refine ⟨_, _, rfl, hseg.1, hseg.2, ?_⟩
          refine ⟨_, rfl, _, _, rfl, rfl, _, rfl, ?_⟩
          by_cases c5 : 64 < Si22.digitsOf ((b.drop (p + 1)).take d)
          · rw [if_pos c5] at r1
            exact goT (decide_eq_true (by omega)) (raise_ok ((kno r1).same s2) rfl)
          · rw [if_neg c5] at r1
            refine goF (decide_eq_false (by omega)) ⟨_, rfl, _, rfl, _, rfl, ?_⟩
            refine made_tok s2 fun H4 x s6 hx ht => kok _ r1 H4 x s6 hx ?_
            rw [show p + (d + 1) = p + 1 + d by omega]
            exact ht
    · refine goT (by rw [decide_eq_false (by omega)]; rfl) (goT rfl ?_)
      exact raise_ok (bad (.inl (fun z => c2 z.2))) rfl
  · refine goF (decide_eq_false (by omega)) ⟨_, rfl, goT rfl (goT rfl ?_)⟩
    exact raise_ok (bad (.inl (fun z => c1 z.1))) rfl
end
end Tk
end

section
set_option maxHeartbeats 2000000
namespace Tk
open PySem PySem.Spec PyProof.Rows L2
open Dbm (Bytes)
/-! ### all that the defs of the lexing ask of the module -/
structure Lexing (P : Program) (w : World) (K : PySem.W.Frag) (mg : Str → Option Value) : Prop where
  len : mg "len" = none
  mn : mg "min" = none
  rg : mg "range" = none
  it : mg "int" = none
  lf : ∃ t, mg "LINE_FEED" = some (.int 10 t)
  mi : ∃ t, mg "MINUS" = some (.int 45 t)
  bb : ∃ a, mg "BLANK_BYTES" = some (.ref a) ∧ ∀ H, SqT K H a blankVs
  dq : ∃ t, mg "DOUBLE_QUOTE" = some (.int 34 t)
  do_ : ∃ t, mg "DOLLAR" = some (.int 36 t)
  qu : ∃ t, mg "QUOTE" = some (.int 39 t)
  po : ∃ t, mg "POINT" = some (.int 46 t)
  ze : ∃ t, mg "ZERO" = some (.int 48 t)
  sp : ∃ t, mg "SPELLING" = some (.str SP t)
  k0 : ∃ t, mg "WORD" = some (.int 0 t)
  k1 : ∃ t, mg "QUOTED" = some (.int 1 t)
  k2 : ∃ t, mg "NUMBER" = some (.int 2 t)
  k3 : ∃ t, mg "TEXT" = some (.int 3 t)
  k4 : ∃ t, mg "BYTES" = some (.int 4 t)
  k5 : ∃ t, mg "GIVEN" = some (.int 5 t)
  k6 : ∃ t, mg "SIGN" = some (.int 6 t)
  k7 : ∃ t, mg "END" = some (.int 7 t)
  one : ∃ a f, mg "ONE_BYTE_SIGNS" = some (.ref a) ∧ OneMap P w K a f
  two : ∃ a xs, mg "TWO_BYTE_SIGNS" = some (.ref a) ∧ TwoMap P w K a xs
  a_next_place : ∃ f fd, At K mg "next_place" s_next_place ["text", "place"] f fd
  a_line_end : ∃ f fd, At K mg "line_end" s_line_end ["text", "place"] f fd
  a_byte_at : ∃ f fd, At K mg "byte_at" s_byte_at ["text", "place"] f fd
  a_token_at : ∃ f fd, At K mg "token_at" s_token_at ["text", "place"] f fd
  a_is_digit : ∃ f fd, At K mg "is_digit" s_is_digit ["byte"] f fd
  a_begins_word : ∃ f fd, At K mg "begins_word" s_begins_word ["byte"] f fd
  a_in_word : ∃ f fd, At K mg "in_word" s_in_word ["byte"] f fd
  a_spelled : ∃ f fd, At K mg "spelled" s_spelled ["text", "place", "end"] f fd
  a_bytes_token : ∃ f fd, At K mg "bytes_token" s_bytes_token ["text", "place"] f fd
  a_half_byte : ∃ f fd, At K mg "half_byte" s_half_byte ["digit"] f fd
  a_word_token : ∃ f fd, At K mg "word_token" s_word_token ["text", "place"] f fd
  a_quoted_token : ∃ f fd, At K mg "quoted_token" s_quoted_token ["text", "place"] f fd
  a_text_token : ∃ f fd, At K mg "text_token" s_text_token ["text", "place"] f fd
  a_quoted_end : ∃ f fd, At K mg "quoted_end" s_quoted_end ["text", "opening", "place"] f fd
  a_undoubled : ∃ f fd, At K mg "undoubled" s_undoubled ["content", "sign"] f fd
  a_given_token : ∃ f fd, At K mg "given_token" s_given_token ["text", "place"] f fd
  a_digits_end : ∃ f fd, At K mg "digits_end" s_digits_end ["text", "place"] f fd
  a_number_token : ∃ f fd, At K mg "number_token" s_number_token ["text", "place"] f fd
  a_exponent_end : ∃ f fd, At K mg "exponent_end" s_exponent_end ["text", "place"] f fd
  a_sign_token : ∃ f fd, At K mg "sign_token" s_sign_token ["text", "place"] f fd
  a_well_made : ∃ f fd, At K mg "well_made" s_well_made ["content"] f fd
  a_sign_length : ∃ f fd, At K mg "sign_length" s_sign_length ["first"] f fd
  a_whole_sign : ∃ f fd, At K mg "whole_sign" s_whole_sign ["sign", "length"] f fd
  a_in_shortest_form : ∃ f fd, At K mg "in_shortest_form" s_in_shortest_form ["code", "length"] f fd
/-! ### token_at -/
def spTokenAt (K : PySem.W.Frag) (C CT : Addr) : Sp := fun vs H Q E => ∃ (a : Addr) (b : Bytes) (p : Nat), vs = [.ref a, .int (p : Int)] ∧ SqL K H a (tx b) ∧ b.length ≤ 65536 ∧ p < b.length ∧
  (∀ k n, Lx.scan (b.drop p) = some (k, n) → ∀ H' x, Same H H' → H x = none → TokAt CT H' x k p (p + n) → Q (.ref x) H') ∧ (Lx.scan (b.drop p) = none → Wish C H p E)
section
variable {P : Program} {w : World} {K : PySem.W.Frag} {mg : Str → Option Value} {base : Heap} {C R fN fR CT fT : Addr} {fdN fdR fdT : FuncData} {mc : Value}
theorem tok_pass {a : Addr} {b : Bytes} {p : Nat} {H H1 : Hp} {Q : VK} {E : XK} {kind : Nat} {pre : Bytes → Nat → Prop} {r : Bytes → Nat → Option Nat} (hS : SqL K H a (tx b)) (hb : b.length ≤ 65536) (hp : p < b.length)
    (kok : ∀ k n, Lx.scan (b.drop p) = some (k, n) → ∀ H' x, Same H H' → H x = none → TokAt CT H' x k p (p + n) → Q (.ref x) H') (kno : Lx.scan (b.drop p) = none → Wish C H p E)
    (s : Same H H1) (hpre : pre b p) (e : Lx.scan (b.drop p) = (r b p).map fun n => (kind, n)) : spTok K C CT kind pre r [.ref a, .int (p : Int)] H1 Q E := by
  refine ⟨a, b, p, rfl, s.seq hS, hb, hp, hpre, fun n hn H' x s2 hx ht => ?_, fun hn => (kno (by rw [e, hn]; rfl)).same s⟩
  exact kok kind n (by rw [e, hn]; rfl) H' x (s.trans s2) (s.free hx) ht
theorem scan_at {b : Bytes} {p : Nat} (h : p < b.length) : Lx.scan (b.drop p) =
    if ((88 == bAt b p || 120 == bAt b p) && decide (bAt b (p + 1) = 39)) = true then (Lx.bytesLen (b.drop (p + 2))).map fun n => (4, n)
    else if wordI (bAt b p) = true then ((if 64 < Lx.wordLen (b.drop p) then none else some (Lx.wordLen (b.drop p))).map fun n => (0, n))
    else if bAt b p = 34 then (Lx.quotedLen (b.drop (p + 1))).map fun n => (1, n)
    else if bAt b p = 39 then (Lx.textLen (b.drop (p + 1))).map fun n => (3, n)
    else if bAt b p = 36 then (Lx.givenLen (b.drop (p + 1))).map fun n => (5, n)
    else if digI (bAt b p) = true then (Lx.numberLen (b.drop p)).map fun n => (2, n)
    else (Lx.signLen (b.drop p)).map fun n => (6, n) := by
  have hw : wordI (bAt b p) = Si22.isLetter b[p] := by rw [wordI_bAt, List.drop_eq_getElem_cons h]; rfl
  have hdg : digI (bAt b p) = Dbm.isDigit b[p] := by rw [digI_bAt, List.drop_eq_getElem_cons h]; rfl
  have eqs : ∀ n : UInt8, bAt b p = (n.toNat : Int) ↔ b[p] = n := fun n => by
    rw [bAt_iff, List.getElem?_eq_getElem h, Option.some.injEq]
  have q39 : bAt b (p + 1) = 39 ↔ b[p + 1]? = some 39 := bAt_iff 39
  rw [hw, hdg]
  have e88 : bAt b p = 88 ↔ b[p] = 88 := eqs 88
  have e120 : bAt b p = 120 ↔ b[p] = 120 := eqs 120
  have e34 : bAt b p = 34 ↔ b[p] = 34 := eqs 34
  have e39 : bAt b p = 39 ↔ b[p] = 39 := eqs 39
  have e36 : bAt b p = 36 ↔ b[p] = 36 := eqs 36
  have hh : (b.drop (p + 1)).head? = b[p + 1]? := List.head?_drop
  have h2 : (b.drop (p + 1)).drop 1 = b.drop (p + 2) := by rw [List.drop_drop]
  have first : (((88 == bAt b p || 120 == bAt b p) && decide (bAt b (p + 1) = 39)) = true) ↔ ((b[p] = 120 ∨ b[p] = 88) ∧ (b.drop (p + 1)).head? = some 39) := by
    rw [hh]
    simp only [Bool.and_eq_true, Bool.or_eq_true, beq_iff_eq, decide_eq_true_eq]
    rw [q39, ← e88, ← e120]
    constructor
    · rintro ⟨z | z, y⟩
      · exact ⟨.inr z.symm, y⟩
      · exact ⟨.inl z.symm, y⟩
    · rintro ⟨z | z, y⟩
      · exact ⟨.inr z.symm, y⟩
      · exact ⟨.inl z.symm, y⟩
  have hd := List.drop_eq_getElem_cons h
  generalize b.drop (p + 1) = r at hd hh h2 first ⊢
  generalize b[p] = c at *
  rw [hd]
  simp only [Lx.scan]
  by_cases c1 : (c = 120 ∨ c = 88) ∧ r.head? = some 39
  · rw [if_pos c1, if_pos (first.mpr c1), h2]
  · rw [if_neg c1, if_neg (fun z => c1 (first.mp z))]
    by_cases c2 : Si22.isLetter c = true
    · rw [if_pos c2, if_pos c2]
      split <;> rfl
    · rw [if_neg c2, if_neg c2]
      by_cases c3 : c = 34
      · rw [if_pos c3, if_pos (e34.mpr c3)]
      · rw [if_neg c3, if_neg (fun z => c3 (e34.mp z))]
        by_cases c4 : c = 39
        · rw [if_pos c4, if_pos (e39.mpr c4)]
        · rw [if_neg c4, if_neg (fun z => c4 (e39.mp z))]
          by_cases c5 : c = 36
          · rw [if_pos c5, if_pos (e36.mpr c5)]
          · rw [if_neg c5, if_neg (fun z => c5 (e36.mp z))]
theorem sc_token_at : FnScope ["text", "place", "first"] ["text", "place"] (defScope s_token_at) := ⟨rfl, rfl, rfl, by decide +kernel, rfl, by decide +kernel, by decide +kernel⟩
theorem ok_token_at (L : Lexing P w K mg) {f : Addr} {fd : FuncData} (F : Fun K "token_at" "token_at" s_token_at f fd) (T : ErrTxt K mg C R fN fR fdN fdR mc) (TT : TokTxt K mg CT fT fdT) : FnOk P w K mg base (L2N.CX P w) 6 f fd ["text", "place"] (spTokenAt K C CT) := by
  obtain ⟨_, L0⟩ := L.qu; obtain ⟨_, L1⟩ := L.dq; obtain ⟨_, L2'⟩ := L.do_; obtain ⟨_, L3⟩ := L.po; obtain ⟨_, L4⟩ := L.ze; obtain ⟨_, L5⟩ := L.sp
  obtain ⟨_, k0⟩ := L.k0; obtain ⟨_, k1⟩ := L.k1; obtain ⟨_, k2⟩ := L.k2; obtain ⟨_, k3⟩ := L.k3; obtain ⟨_, k4⟩ := L.k4; obtain ⟨_, k5⟩ := L.k5; obtain ⟨_, k6⟩ := L.k6
  obtain ⟨_, _, gO, MO⟩ := L.one; obtain ⟨_, _, gT2, MT⟩ := L.two
  obtain ⟨_, _, A1⟩ := L.a_byte_at; obtain ⟨_, _, A2⟩ := L.a_is_digit; obtain ⟨_, _, A3⟩ := L.a_begins_word; obtain ⟨_, _, A4⟩ := L.a_in_word; obtain ⟨_, _, A5⟩ := L.a_spelled
  obtain ⟨_, _, B1⟩ := L.a_bytes_token; obtain ⟨_, _, B2⟩ := L.a_half_byte; obtain ⟨_, _, B3⟩ := L.a_word_token; obtain ⟨_, _, B4⟩ := L.a_quoted_token; obtain ⟨_, _, B5⟩ := L.a_text_token; obtain ⟨_, _, B6⟩ := L.a_quoted_end; obtain ⟨_, _, B7⟩ := L.a_undoubled
  obtain ⟨_, _, C1⟩ := L.a_given_token; obtain ⟨_, _, C2⟩ := L.a_digits_end; obtain ⟨_, _, C3⟩ := L.a_number_token; obtain ⟨_, _, C4⟩ := L.a_exponent_end; obtain ⟨_, _, C5⟩ := L.a_sign_token
  obtain ⟨_, _, D1⟩ := L.a_well_made; obtain ⟨_, _, D2⟩ := L.a_sign_length; obtain ⟨_, _, D3⟩ := L.a_whole_sign; obtain ⟨_, _, D4⟩ := L.a_in_shortest_form
  refine Fun.okN F sc_token_at (fun vs H Q E h => ?_) (fun cdv A outer s H vs Q E hr h => ?_)
  · obtain ⟨a, b, p, rfl, _⟩ := h
    rfl
  obtain ⟨a, b, p, rfl, hS, hb, hp, kok, kno⟩ := h
  have hr1 := hr.mono (show 1 ≤ 5 by decide)
  have hr4 := hr.mono (show 4 ≤ 5 by decide)
  refine ⟨_, pss_cons (ps_set (i := 2) sc_token_at.nd rfl (.inl rfl) (pe_ix ix_list (pv 0) (pv 1) (fun _ _ => rfl)))
    (pss_cons (ps_if (PW.pt (pw_and (pt_cmpR op_in_seq (pv 2) (pe_tup (pa_cons pe_int (pa_cons pe_int pa_nil))) (by rfl)) (pw_and1 (pt_cmpR op_eq (pe_call (ok_byte_at A1.F L.len) hr1 rfl A1.g A1.F.kp A1.b .nil pass0 (pa_cons (pv 0) (pa_cons (pe_op op_add (pv 1) pe_int) pa_nil))) (pe_glob (v := .int 39) rfl L0 ⟨_, rfl⟩) (nomark _)))))
      (pss_one (ps_ret (pe_call (ok_bytes_token B1.F L.len L.rg k4 A1 B6 B2 A2 T TT) hr rfl B1.g B1.F.kp B1.b .nil (L2N.passes_call (L2N.takes_of rfl rfl rfl rfl) (fun _ _ _ _ h => h)) (by exact (pa_cons (pv 0) (pa_cons (pv 1) pa_nil)))))) pss_nil)
    (pss_cons (ps_if (pt_val (pe_call (ok_begins_word A3.F) hr1 rfl A3.g A3.F.kp A3.b .nil pass0 (pa_cons (pv 2) pa_nil)))
      (pss_one (ps_ret (pe_call (ok_word_token B3.F L.len L5 k0 A1 A4 A3 A2 A5 T TT) hr4 rfl B3.g B3.F.kp B3.b .nil (L2N.passes_call (L2N.takes_of rfl rfl rfl rfl) (fun _ _ _ _ h => h)) (by exact (pa_cons (pv 0) (pa_cons (pv 1) pa_nil)))))) pss_nil)
    (pss_cons (ps_if (pt_cmpR op_eq (pv 2) (pe_glob (v := .int 34) rfl L1 ⟨_, rfl⟩) (nomark _))
      (pss_one (ps_ret (pe_call (ok_quoted_token B4.F L.len L.mn L1 k1 A1 B6 B7 D1 D2 D3 D4 T TT) hr rfl B4.g B4.F.kp B4.b .nil (L2N.passes_call (L2N.takes_of rfl rfl rfl rfl) (fun _ _ _ _ h => h)) (by exact (pa_cons (pv 0) (pa_cons (pv 1) pa_nil)))))) pss_nil)
    (pss_cons (ps_if (pt_cmpR op_eq (pv 2) (pe_glob (v := .int 39) rfl L0 ⟨_, rfl⟩) (nomark _))
      (pss_one (ps_ret (pe_call (ok_text_token B5.F L.len L0 k3 A1 B6 B7 D1 D2 D3 D4 T TT) hr rfl B5.g B5.F.kp B5.b .nil (L2N.passes_call (L2N.takes_of rfl rfl rfl rfl) (fun _ _ _ _ h => h)) (by exact (pa_cons (pv 0) (pa_cons (pv 1) pa_nil)))))) pss_nil)
    (pss_cons (ps_if (pt_cmpR op_eq (pv 2) (pe_glob (v := .int 36) rfl L2' ⟨_, rfl⟩) (nomark _))
      (pss_one (ps_ret (pe_call (ok_given_token C1.F L.len L.it L5 k5 L4 A1 A4 A3 A2 A5 C2 T TT) hr4 rfl C1.g C1.F.kp C1.b .nil (L2N.passes_call (L2N.takes_of rfl rfl rfl rfl) (fun _ _ _ _ h => h)) (by exact (pa_cons (pv 0) (pa_cons (pv 1) pa_nil)))))) pss_nil)
    (pss_cons (ps_if (pt_val (pe_call (ok_is_digit A2.F) hr1 rfl A2.g A2.F.kp A2.b .nil pass0 (pa_cons (pv 2) pa_nil)))
      (pss_one (ps_ret (pe_call (ok_number_token C3.F L.len L5 k2 L3 A1 A4 A3 A2 A5 C2 C4 T TT) hr4 rfl C3.g C3.F.kp C3.b .nil (L2N.passes_call (L2N.takes_of rfl rfl rfl rfl) (fun _ _ _ _ h => h)) (by exact (pa_cons (pv 0) (pa_cons (pv 1) pa_nil)))))) pss_nil)
    (pss_one (ps_ret (pe_call (ok_sign_token C5.F L.len k6 gO gT2 MO MT A1 T TT) hr4 rfl C5.g C5.F.kp C5.b .nil (L2N.passes_call (L2N.takes_of rfl rfl rfl rfl) (fun _ _ _ _ h => h)) (by exact (pa_cons (pv 0) (pa_cons (pv 1) pa_nil)))))))))))), ?_⟩
  have hs := scan_at hp
  refine ⟨_, rfl, _, rfl, a, tx b, _, _, rfl, rfl, hS, atI_nat (tx_get hp), ?_⟩
  refine ⟨_, rfl, by show 2 ≤ sizeLine; decide, fun q hq => ⟨q, _, rfl, .inr (SqT.of upd_same), rfl, rfl, _, rfl, ?_⟩⟩
  have s1 := same_up (o := .tup [.int 88, .int 120]) (Same.refl H) hq
  generalize upd H q (.tup [.int 88, .int 120]) = H1 at s1
  simp only [Bool.false_eq_true, if_false]
  rw [inV_two]
  have rest : Lx.scan (b.drop p) = (if wordI (bAt b p) = true then ((if 64 < Lx.wordLen (b.drop p) then none else some (Lx.wordLen (b.drop p))).map fun n => (0, n))
    else if bAt b p = 34 then (Lx.quotedLen (b.drop (p + 1))).map fun n => (1, n)
    else if bAt b p = 39 then (Lx.textLen (b.drop (p + 1))).map fun n => (3, n)
    else if bAt b p = 36 then (Lx.givenLen (b.drop (p + 1))).map fun n => (5, n)
    else if digI (bAt b p) = true then (Lx.numberLen (b.drop p)).map fun n => (2, n)
    else (Lx.signLen (b.drop p)).map fun n => (6, n)) → tSeq (tIfS (tB (tCall (spBool wordI) [] E0 (tCons (tVar 2) tNil))) (tRet (tCall (spTok K C CT 0 (fun _ _ => True) (fun b p => if 64 < Lx.wordLen (b.drop p) then none else some (Lx.wordLen (b.drop p)))) [] E (tCons (tVar 0) (tCons (tVar 1) tNil)))) tNext)
      (tSeq (tIfS (tTest (tOp rEq (tVar 2) (tC (.int 34)))) (tRet (tCall (spTok K C CT 1 (fun b p => b[p]? = some 34) (fun b p => Lx.quotedLen (b.drop (p + 1)))) [] E (tCons (tVar 0) (tCons (tVar 1) tNil)))) tNext)
      (tSeq (tIfS (tTest (tOp rEq (tVar 2) (tC (.int 39)))) (tRet (tCall (spTok K C CT 3 (fun b p => b[p]? = some 39) (fun b p => Lx.textLen (b.drop (p + 1)))) [] E (tCons (tVar 0) (tCons (tVar 1) tNil)))) tNext)
      (tSeq (tIfS (tTest (tOp rEq (tVar 2) (tC (.int 36)))) (tRet (tCall (spTok K C CT 5 (fun _ _ => True) (fun b p => Lx.givenLen (b.drop (p + 1)))) [] E (tCons (tVar 0) (tCons (tVar 1) tNil)))) tNext)
      (tSeq (tIfS (tB (tCall (spBool digI) [] E0 (tCons (tVar 2) tNil))) (tRet (tCall (spTok K C CT 2 (fun _ _ => True) (fun b p => Lx.numberLen (b.drop p))) [] E (tCons (tVar 0) (tCons (tVar 1) tNil)))) tNext)
      (tRet (tCall (spTok K C CT 6 (fun _ _ => True) (fun b p => Lx.signLen (b.drop p))) [] E (tCons (tVar 0) (tCons (tVar 1) tNil))))))))
      { nx := fun _ H' => Q .non H', rt := Q } [some (.ref a), some (.int (p : Int)), some (.int (bAt b p))] H1 := by
    intro hs
    refine ⟨_, rfl, _, rfl, _, rfl, ?_⟩
    cases c2 : wordI (bAt b p) with
    | true =>
      rw [c2, if_pos rfl] at hs
      exact iteT ⟨_, rfl, _, rfl, tok_pass hS hb hp kok kno s1 trivial hs⟩
    | false =>
      rw [c2, if_neg Bool.false_ne_true] at hs
      refine iteF ⟨_, rfl, rfl, _, rfl, ?_⟩
      rw [decV]
      by_cases c3 : bAt b p = 34
      · rw [if_pos c3] at hs
        exact goT (decide_eq_true c3) ⟨_, rfl, _, rfl, tok_pass hS hb hp kok kno s1 ((bAt_iff 34).mp c3) hs⟩
      · rw [if_neg c3] at hs
        refine goF (decide_eq_false c3) ⟨_, rfl, rfl, _, rfl, ?_⟩
        rw [decV]
        by_cases c4 : bAt b p = 39
        · rw [if_pos c4] at hs
          exact goT (decide_eq_true c4) ⟨_, rfl, _, rfl, tok_pass hS hb hp kok kno s1 ((bAt_iff 39).mp c4) hs⟩
        · rw [if_neg c4] at hs
          refine goF (decide_eq_false c4) ⟨_, rfl, rfl, _, rfl, ?_⟩
          rw [decV]
          by_cases c5 : bAt b p = 36
          · rw [if_pos c5] at hs
            exact goT (decide_eq_true c5) ⟨_, rfl, _, rfl, tok_pass hS hb hp kok kno s1 trivial hs⟩
          · rw [if_neg c5] at hs
            refine goF (decide_eq_false c5) ⟨_, rfl, _, rfl, _, rfl, ?_⟩
            cases c6 : digI (bAt b p) with
            | true =>
              rw [c6, if_pos rfl] at hs
              exact iteT ⟨_, rfl, _, rfl, tok_pass hS hb hp kok kno s1 trivial hs⟩
            | false =>
              rw [c6, if_neg Bool.false_ne_true] at hs
              exact iteF ⟨_, rfl, _, rfl, tok_pass hS hb hp kok kno s1 trivial hs⟩
  cases c0 : (88 == bAt b p || 120 == bAt b p) with
  | false =>
    rw [c0, Bool.false_and, if_neg Bool.false_ne_true] at hs
    refine goF rfl ?_
    exact rest hs
  | true =>
    rw [c0, Bool.true_and] at hs
    refine iteT ⟨_, rfl, _, rfl, _, _, rfl, rfl, a, b, p + 1, rfl, s1.seq hS, rfl, _, rfl, ?_⟩
    rw [decV]
    by_cases c1 : bAt b (p + 1) = 39
    · rw [if_pos (decide_eq_true c1)] at hs
      exact goT (decide_eq_true c1) ⟨_, rfl, _, rfl, tok_pass hS hb hp kok kno s1 ((bAt_iff 39).mp c1) hs⟩
    · rw [if_neg (by rw [decide_eq_false c1]; exact Bool.false_ne_true)] at hs
      exact goF (decide_eq_false c1) (rest hs)
end
end Tk
end

section
set_option maxHeartbeats 2000000
namespace Tk
open PySem PySem.Spec PyProof.Rows L2
open Dbm (Bytes)
/-! ### lexed -/
def Toks (CT : Addr) (H : Hp) : List Addr → List (Nat × Nat) → Prop
  | [], [] => True
  | x :: xs, pk :: l => (∃ e, TokAt CT H x pk.2 pk.1 e) ∧ Toks CT H xs l
  | _, _ => False
theorem Toks.imp {CT : Addr} {H H' : Hp} (h : ∀ x k p e, TokAt CT H x k p e → TokAt CT H' x k p e) : ∀ {xs : List Addr} {l : List (Nat × Nat)}, Toks CT H xs l → Toks CT H' xs l
  | [], [], _ => trivial
  | x :: xs, pk :: l, ⟨⟨e, a⟩, r⟩ => ⟨⟨e, h _ _ _ _ a⟩, Toks.imp h r⟩
  | [], _ :: _, z => z.elim
  | _ :: _, [], z => z.elim
theorem Toks.snoc {CT : Addr} {H : Hp} {x : Addr} {p k e : Nat} (a : TokAt CT H x k p e) : ∀ {xs : List Addr} {l : List (Nat × Nat)}, Toks CT H xs l → Toks CT H (xs ++ [x]) (l ++ [(p, k)])
  | [], [], _ => ⟨⟨e, a⟩, trivial⟩
  | y :: xs, pk :: l, ⟨q, r⟩ => ⟨q, Toks.snoc a r⟩
  | [], _ :: _, z => z.elim
  | _ :: _, [], z => z.elim
theorem Toks.len {CT : Addr} {H : Hp} : ∀ {xs : List Addr} {l : List (Nat × Nat)}, Toks CT H xs l → xs.length = l.length
  | [], [], _ => rfl
  | _ :: xs, _ :: l, ⟨_, r⟩ => congrArg (· + 1) r.len
  | [], _ :: _, z => z.elim
  | _ :: _, [], z => z.elim
theorem TokAt.past {CT l x : Addr} {H : Hp} {ys : List V} {o : HO} {k p e : Nat} (hl : H l = some (.lst ys)) (h : TokAt CT H x k p e) : TokAt CT (upd H l o) x k p e := by
  obtain ⟨dx, w, h⟩ := h
  exact ⟨dx, w, by rw [upd_ne (ne_of h hl (by intro z; cases z))]; exact h⟩
def spLexed (K : PySem.W.Frag) (C CT : Addr) : Sp := fun vs H Q E => ∃ (a : Addr) (b : Bytes), vs = [.ref a] ∧ SqL K H a (tx b) ∧ b.length ≤ 65536 ∧
  (∀ l, Lx.TK 0 b = .ok l → ∀ H' p xs, Same H H' → H p = none → H' p = some (.lst (xs.map V.ref)) → Toks CT H' xs l → Q (.ref p) H') ∧ (∀ pl, Lx.TK 0 b = .error pl → Wish C H pl E)
theorem mapE_mapE {α β γ : Type} (f : α → β) (g : β → γ) (x : Except Nat α) : Lx.mapE g (Lx.mapE f x) = Lx.mapE (fun y => g (f y)) x := by cases x <;> rfl
section
variable {P : Program} {w : World} {K : PySem.W.Frag} {mg : Str → Option Value} {base : Heap} {C R fN fR CT fT : Addr} {fdN fdR fdT : FuncData} {mc : Value}
theorem fsT_end (k p e o : V) : (fsT k p e o).lookup ("end" : Str) = some e := by
  have a : (("end" : Str) == ("kind" : Str)) = false := by decide +kernel
  have b : (("end" : Str) == ("place" : Str)) = false := by decide +kernel
  have c : (("end" : Str) == ("end" : Str)) = true := beq_self_eq_true _
  unfold fsT
  simp only [List.lookup, a, b, c]
theorem sc_lexed : FnScope ["text", "found", "place", "token"] ["text"] (defScope s_lexed) := ⟨rfl, rfl, rfl, by decide +kernel, rfl, by decide +kernel, by decide +kernel⟩
theorem ok_lexed (L : Lexing P w K mg) {f : Addr} {fd : FuncData} (F : Fun K "lexed" "lexed" s_lexed f fd) (T : ErrTxt K mg C R fN fR fdN fdR mc) (TT : TokTxt K mg CT fT fdT) : FnOk P w K mg base (L2N.CX P w) 7 f fd ["text"] (spLexed K C CT) := by
  obtain ⟨_, l0⟩ := L.lf; obtain ⟨_, l1⟩ := L.mi; obtain ⟨_, l2, l3⟩ := L.bb; obtain ⟨_, k7⟩ := L.k7
  obtain ⟨_, _, A1⟩ := L.a_byte_at; obtain ⟨_, _, A2⟩ := L.a_line_end; obtain ⟨_, _, A3⟩ := L.a_next_place; obtain ⟨_, _, A4⟩ := L.a_token_at
  refine Fun.okN F sc_lexed (fun vs H Q E h => ?_) (fun cdv A outer s H vs Q E hr h => ?_)
  · obtain ⟨a, b, rfl, _⟩ := h
    rfl
  obtain ⟨a, b, rfl, hS, hb, kok, kno⟩ := h
  have hr2 := hr.mono (show 2 ≤ 6 by decide)
  refine ⟨_, pss_cons (ps_set (i := 1) sc_lexed.nd rfl (.inl rfl) (pe_lst pa_nil))
    (pss_cons (ps_set (i := 2) sc_lexed.nd rfl (.inl rfl) (pe_call (ok_next_place A3.F L.len l0 l1 l2 l3 A1 A2) hr2 rfl A3.g A3.F.kp A3.b .nil pass0 (pa_cons (pv 0) (pa_cons pe_int pa_nil))))
    (pss_cons (ps_while (passes_of rfl) (pt_cmpR op_lt (pv 2) (pe_callB call_len_seq (by rfl) L.len PySem.boot_len (pa_cons (pv 0) pa_nil)) (nomark _))
      (pss_cons (ps_set (i := 3) sc_lexed.nd rfl (.inl rfl) (pe_call (ok_token_at L A4.F T TT) hr rfl A4.g A4.F.kp A4.b .nil (L2N.passes_call (L2N.takes_of rfl rfl rfl rfl) (fun _ _ _ _ h => h)) (by exact (pa_cons (pv 0) (pa_cons (pv 2) pa_nil)))))
      (pss_cons (ps_expr (pe_bm PySem.F.plainAttrs_list PySem.F.slot_list_append PySem.F.type_list_append mt_append (pv 1) (pa_cons (pv 3) pa_nil)))
      (pss_one (ps_set (i := 2) sc_lexed.nd rfl (.inl rfl) (pe_call (ok_next_place A3.F L.len l0 l1 l2 l3 A1 A2) hr2 rfl A3.g A3.F.kp A3.b .nil pass0 (pa_cons (pv 0) (pa_cons (pe_fld (pv 3) rfl) pa_nil))))))))
    (pss_cons (ps_expr (pe_bm PySem.F.plainAttrs_list PySem.F.slot_list_append PySem.F.type_list_append mt_append (pv 1) (pa_cons (pe_make TT.mkT (ok_token_init TT) hr2 (by rfl) TT.gT TT.bT .nil pass0 (pa_cons (pe_glob (v := .int 7) rfl k7 ⟨_, rfl⟩) (pa_cons (pe_callB call_len_seq (by rfl) L.len PySem.boot_len (pa_cons (pv 0) pa_nil)) (pa_cons (pe_callB call_len_seq (by rfl) L.len PySem.boot_len (pa_cons (pv 0) pa_nil)) (pa_cons pe_non pa_nil))))) pa_nil)))
    (pss_one (ps_ret (pv 1)))))), ?_⟩
  refine ⟨by show 0 ≤ sizeLine; decide, fun l hl => ?_⟩
  have s0 := same_up (o := .lst []) (Same.refl H) hl
  refine ⟨_, rfl, a, b, 0, rfl, s0.seq hS, ?_⟩
  refine ⟨fun m σ H' => ∃ (n p : Nat) (v : Option V) (xs : List Addr) (done : List (Nat × Nat)), σ = [some (.ref a), some (.ref l), some (.int (p : Int)), v] ∧ m = b.length - p ∧ n ≤ b.length ∧ p = n + Lx.gap (b.drop n) ∧ Same H H' ∧ H' l = some (.lst (xs.map V.ref)) ∧ Toks CT H' xs done ∧ done.length ≤ p ∧ Lx.TK 0 b = Lx.mapE (done ++ ·) (Lx.TK n (b.drop n)),
    ⟨_, 0, 0 + Lx.gap (b.drop 0), none, [], [], rfl, rfl, Nat.zero_le _, rfl, s0, upd_same, trivial, Nat.zero_le _, ?_⟩, ?_⟩
  · show Lx.TK 0 b = Lx.mapE (fun y => y) (Lx.TK 0 b)
    cases Lx.TK 0 b <;> rfl
  rintro m σ H' ⟨n, p, v, xs, done, rfl, rfl, hn, hp, s5, hL, ht, hdl, inv⟩
  refine ⟨_, rfl, _, rfl, a, tx b, rfl, .inl (s5.seq hS), _, _, rfl, rfl, _, rfl, ?_⟩
  rw [tx_len]
  have hgl := Lx.gap_le (b.drop n)
  rw [List.length_drop] at hgl
  have dr : (b.drop n).drop (Lx.gap (b.drop n)) = b.drop p := by rw [List.drop_drop, ← hp]
  by_cases h1 : p < b.length
  · refine goT (decide_eq_true (by omega)) ?_
    refine ⟨fun σ' H2 => ∃ (n p' : Nat) (v : Option V) (xs : List Addr) (done : List (Nat × Nat)), σ' = [some (.ref a), some (.ref l), some (.int (p' : Int)), v] ∧ p < p' ∧ n ≤ b.length ∧ p' = n + Lx.gap (b.drop n) ∧ Same H H2 ∧ H2 l = some (.lst (xs.map V.ref)) ∧ Toks CT H2 xs done ∧ done.length ≤ p' ∧ Lx.TK 0 b = Lx.mapE (done ++ ·) (Lx.TK n (b.drop n)), ?_, ?_⟩
    · rintro σ' H2 ⟨n, p', v, xs, done, rfl, hlt, z⟩
      exact ⟨b.length - p', by omega, n, p', v, xs, done, rfl, rfl, z⟩
    · refine ⟨_, rfl, _, rfl, a, b, p, rfl, s5.seq hS, hb, h1, fun k c hsc H2 x s6 hx hta => ?_, fun hsc => ?_⟩
      · have hso : Lx.solid (b.drop p) = true := by rw [← dr]; exact Lx.solid_gap _
        have hc := Lx.scan_le (at_ := 0) hso hsc
        rw [List.length_drop] at hc
        have more := Lx.TK_more (at_ := n) (s := b.drop n) (by rw [dr]; exact hsc)
        rw [← hp, List.drop_drop, show n + (Lx.gap (b.drop n) + c) = p + c by omega] at more
        have s7 := s5.trans s6
        have hL2 := s6 _ _ hL
        have hta' : TokAt CT (upd H2 l (.lst (xs.map V.ref ++ [.ref x]))) x k p (p + c) := hta.past hL2
        obtain ⟨dx, wo, hins⟩ := id hta'
        have s8 : Same H (upd H2 l (.lst (xs.map V.ref ++ [.ref x]))) := same_upd s7 hl
        refine ⟨_, rfl, .inl ⟨rfl, _, SqL.of hL2⟩, _, rfl, l, _, _, rfl, rfl, hL2, ?_, ?_⟩
        · rw [List.length_map, ht.len]
          exact line_ok (by omega)
        · refine ⟨_, rfl, _, rfl, x, CT, dx, _, _, rfl, hins, TT.cl, TT.n3, fsT_end _ _ _ _, a, b, p + c, rfl, s8.seq hS, ?_⟩
          refine ⟨p + c, p + c + Lx.gap (b.drop (p + c)), _, xs ++ [x], done ++ [(p, k)], rfl, by omega, by omega, rfl, s8, by rw [upd_same, List.map_append]; rfl, ?_, by rw [List.length_append]; simp; omega, ?_⟩
          · exact Toks.snoc hta' ((ht.imp fun _ _ _ _ z => z.same s6).imp fun _ _ _ _ z => z.past hL2)
          · rw [inv, more, mapE_mapE]
            congr 1
            funext y
            rw [List.append_assoc]
            rfl
      · have bad := Lx.TK_bad (at_ := n) (s := b.drop n) (by rw [List.length_drop]; omega) (by rw [dr]; exact hsc)
        rw [← hp] at bad
        refine (kno p ?_).same s5
        rw [inv, bad]
        rfl
  · refine goF (decide_eq_false (by omega)) ?_
    have last := Lx.TK_end (at_ := n) (s := b.drop n) (by rw [List.length_drop]; omega)
    rw [← hp] at last
    have hpl : p = b.length := by omega
    rw [last] at inv
    have inv : Lx.TK 0 b = .ok (done ++ [(p, 7)]) := inv
    refine ⟨_, rfl, .inl ⟨rfl, _, SqL.of hL⟩, ?_⟩
    refine ⟨_, rfl, a, tx b, rfl, .inl (s5.seq hS), _, rfl, a, tx b, rfl, .inl (s5.seq hS), ?_⟩
    refine made_tok (Q := fun v0 H1 => rAppend (V.ref l) [v0] H1 fun _ H2 => tRet (tVar 1) { nx := fun _ H' => Q .non H', rt := Q } [some (.ref a), some (.ref l), some (.int (p : Int)), v] H2) (k := 7) (p := (tx b).length) (e := (tx b).length) (Same.refl H') fun H2 x s6 hx hta => ?_
    rw [tx_len] at hta
    have hL2 := s6 _ _ hL
    have s7 := s5.trans s6
    refine ⟨l, _, _, rfl, rfl, hL2, ?_, ?_⟩
    · rw [List.length_map, ht.len]
      exact line_ok (by omega)
    · refine ⟨_, rfl, ?_⟩
      refine kok _ inv _ l (xs ++ [x]) (same_upd s7 hl) hl (by rw [upd_same, List.map_append]; rfl) ?_
      rw [hpl]
      exact Toks.snoc (hta.past hL2) ((ht.imp fun _ _ _ _ z => z.same s6).imp fun _ _ _ _ z => z.past hL2)
end
end Tk
end

section
set_option maxHeartbeats 2000000
namespace Tk
open PySem PySem.Spec PyProof.Rows L2
open Dbm (Bytes)
/-! ### the error TooDeep -/
abbrev s_refusal_answer : Stmt := topS 58
abbrev s_spelled_bytes : Stmt := topS 54
abbrev s_tokens_of : Stmt := topS 59
abbrev s_toodeep_init : Stmt := inClass (topS 14) 0
/-- what an error of the number n at p carries, with no word -/
def fsN (n : Int) (p : Nat) : List (Str × V) := [("word", .str ""), ("place", .int (p : Int)), ("number", .int n)]
structure DeepTxt (K : PySem.W.Frag) (mg : Str → Option Value) (C R fN fR : Addr) (fdN fdR : FuncData) (mc : Value) : Prop where
  own : Er.Own K C R
  gC : mg "TooDeep" = some (.ref C)
  iC : PySem.W.findIn K (.ref C) "__init__" = some (some (.ref fN))
  tN : PySem.W.typeIn K (.ref fN) = some (.type "function")
  FN : Fun K "__init__" "TooDeep.__init__" s_toodeep_init fN fdN
  bN : Binds K fdN ["self", "place"] []
  gR : mg "Refusal" = some (.ref R)
  rR : ClX.CRead K R mc
  vR : ClX.CVal K R mc "__init__" (.ref fR) (.ref fR)
  FR : Fun K "__init__" "Refusal.__init__" s_refusal_init fR fdR
  bR : Binds K fdR ["self", "number", "place", "word"] []
  n1 : PySem.W.findIn K (.ref C) "number" = some none
  n2 : PySem.W.findIn K (.ref C) "place" = some none
  n3 : PySem.W.findIn K (.ref C) "word" = some none
section
variable {P : Program} {w : World} {K : PySem.W.Frag} {mg : Str → Option Value} {base : Heap} {C R fN fR : Addr} {fdN fdR : FuncData} {mc : Value}
theorem ok_refusal_init8 (T : DeepTxt K mg C R fN fR fdN fdR mc) : FnOk P w K mg base CX0 1 fR fdR ["self", "number", "place", "word"] (spRefInit C) := by
  refine T.FR.ok sc_refusal_init (fun vs H Q E h => ?_) (fun cdv A outer s H vs Q E hr h => ?_)
  · obtain ⟨a, x, y, z, rfl, _⟩ := h
    rfl
  · obtain ⟨a, x, y, z, rfl, ha, k⟩ := h
    refine ⟨_, pss_cons (Er.ps_eset (pv 0) (pv 1)) (pss_cons (Er.ps_eset (pv 0) (pv 2)) (pss_one (Er.ps_eset (pv 0) (pv 3)))), ?_⟩
    refine ⟨_, rfl, _, rfl, a, C, R, rfl, T.own, T.n1, .inl ⟨ha, fun d hd hda => ?_⟩⟩
    have e1 : ∀ o : HO, upd (upd H d o) a (exo a C (some d)) d = some o := fun o => by rw [upd_ne hda, upd_same]
    refine ⟨_, rfl, _, rfl, a, C, R, rfl, T.own, T.n2, .inr ⟨d, _, upd_same, e1 _, by show 1 ≤ 900; decide, ?_⟩⟩
    refine ⟨_, rfl, _, rfl, a, C, R, rfl, T.own, T.n3, .inr ⟨d, _, (by rw [upd_ne (Ne.symm hda), upd_same]), upd_same, by show 2 ≤ 900; decide, ?_⟩⟩
    refine k d _ hd hda ?_ upd_same fun b h1 h2 => ?_
    · rw [upd_ne (Ne.symm hda), upd_ne (Ne.symm hda), upd_same]
    · rw [upd_ne h2, upd_ne h2, upd_ne h1, upd_ne h2]
def spDeepInit (C : Addr) : Sp := fun vs H Q _ => ∃ (a : Addr) (p : Nat), vs = [.ref a, .int (p : Int)] ∧ H a = some (exo a C none) ∧
  ∀ d H', H d = none → d ≠ a → H' a = some (exo a C (some d)) → H' d = some (exd d (fsN 8 p)) → But2 a d H H' → Q .non H'
theorem sc_toodeep_init : FnScope ["self", "place"] ["self", "place"] (defScope s_toodeep_init) := ⟨rfl, rfl, rfl, by decide +kernel, rfl, by decide +kernel, by decide +kernel⟩
theorem ok_toodeep_init (T : DeepTxt K mg C R fN fR fdN fdR mc) : FnOk P w K mg base CX0 2 fN fdN ["self", "place"] (spDeepInit C) := by
  refine T.FN.ok sc_toodeep_init (fun vs H Q E h => ?_) (fun cdv A outer s H vs Q E hr h => ?_)
  · obtain ⟨a, p, rfl, _⟩ := h
    rfl
  · obtain ⟨a, p, rfl, ha, k⟩ := h
    refine ⟨_, pss_one (ps_expr (Er.pe_ofcls rfl T.gR T.rR T.vR T.FR.kp (ok_refusal_init8 T) hr T.bR pass0 (pa_cons (pv 0) (pa_cons pe_int (pa_cons (pv 1) (pa_cons pe_str pa_nil)))))), ?_⟩
    refine ⟨_, rfl, _, rfl, a, _, _, _, rfl, ha, fun d H' h1 h2 h3 h4 h5 => ?_⟩
    exact k d H' h1 h2 h3 h4 h5
/-- what is wished for where a text is too long -/
def Wish8 (C : Addr) (H : Hp) (E : XK) : Prop := ∀ d H', Same H H' → H' d = some (.xd (fsN 8 0)) → E (.ref C) (some d) H'
theorem raise_ok8 {C : Addr} {σ : L2.St} {H : Hp} {E : XK} (h : Wish8 C H E) : tMkO C (spDeepInit C) [] (tCons (tC (.int 0)) tNil) σ H (fun cls d H' => E cls d H') := by
  refine ⟨by show 1 ≤ 1000; decide, fun a ha => ?_⟩
  refine ⟨a, 0, rfl, upd_same, fun d H2 hd hda e1 e2 b2 => ⟨rfl, d, _, e1, e2, ?_, ?_⟩⟩
  · rw [upd_ne hda] at hd
    exact hd
  · rw [upd_ne hda] at hd
    refine h d _ (fun b o z => ?_) upd_same
    have hba : b ≠ a := ne_of_none z ha
    have hbd : b ≠ d := ne_of_none z hd
    rw [upd_ne hbd, del_ne hba, b2 b hba hbd, upd_ne hba]
    exact z
end
/-! ### where an exception is handled: the signs of a text that has none, gone through -/
section
open HotX Builtin
variable {prog : Program} {w : World} {A : Around} {E : Value → Shared → Prop} {s : Shared}
theorem ascii_end_hot {it x1 : Addr} {x : Str} {t : PySem.Tok} {i : Nat} {Q : Option Value → Shared → Prop} (hot : HotAt A x1 s.heap) (hit : s.heap.IsStrIter it "str_ascii_iterator" x t i) (hx : x.cps[i]? = none)
    (hQ : ∀ h', (∀ b o, b ≠ it → s.heap.get? b = some o → h'.get? b = some o) → Q none { s with heap := h' }) : wpAny (model prog w) A (pyNext (.ref it)) Q E s := by
  obtain ⟨o, ho, hc, hd⟩ := id hit
  obtain ⟨hh, o1, vs1, h1, d1, c1⟩ := hot
  have hne : x1 ≠ it := fun z => by
    subst z
    rw [ho] at h1
    cases h1
    rw [hd] at d1
    cases d1
    cases c1
  unfold pyNext
  refine wpAny_bind (wpAny_attempt (wpAny_callSpecial?_slot (name := Str.ofString "__next__") hit.typeIs F.slot_str_ascii_iterator_next
    (wpAny_call_entry F.slot_str_ascii_iterator_next hit.typeIs F.entry_str_ascii_iterator_next ?_ (F.args_str_ascii_iterator_next_1 _))))
  show wpAny _ _ (field (.ref it) 0 >>= _) _ _ s
  refine wpAny_bind (wpAny_field ho hd (x := .str x t) rfl ?_)
  show wpAny _ _ (field (.ref it) 1 >>= _) _ _ s
  refine wpAny_bind (wpAny_field ho hd (x := .int i 0) rfl ?_)
  simp only [Int.toNat_natCast, hx]
  refine wpAny_bind (wpAny_rule (wpAny_bind (wpAny_setField ho hd (by simp) (wpAny_bind (wpAny_letGo ?_)))))
  show wpAny _ _ (newExc (.type "StopIteration") [] >>= _) _ _ _
  refine wpAny_bind ?_
  simp only [newExc, newTuple]
  refine wpAny_bind (wpAny_newObj_type ?_ (by size_fits))
  refine wpAny_bind (m := firstArgMember _ _) (wpAny_of_eq (a := Value.none) (by first | rfl | (simp only [firstArgMember]; rfl)) ?_)
  refine wpAny_newObj_type ?_ (by size_fits)
  refine raiseNew_hot ⟨hh, o1, vs1, Heap.get?_push_of_some _ (Heap.get?_push_of_some _ ((Heap.get?_update_other _ _ (Ne.symm hne)).trans h1)), d1, c1⟩
    (Nat.ne_of_lt (Heap.lt_size (Heap.get?_push_of_some _ ((Heap.get?_update_other _ _ (Ne.symm hne)).trans h1)))) (Heap.get?_push_size _ rfl) rfl (by first | (simp; done) | (simp; omega) | (simp only [Array.size_append]; simp; omega)) ?_
  refine wpAny_bind (wpAny_isInstance (T := "StopIteration") (b := true) ⟨_, Heap.get?_update_self _ (Heap.get?_push_size _ rfl) rfl, rfl⟩ isSubtype_stop ?_)
  refine wpAny_pure (hQ _ fun b o hb e => ?_)
  rw [Heap.get?_update_other _ _ (Nat.ne_of_gt (Heap.lt_size (Heap.get?_push_of_some _ ((Heap.get?_update_other _ _ (Ne.symm hb)).trans e))))]
  exact Heap.get?_push_of_some _ (Heap.get?_push_of_some _ ((Heap.get?_update_other _ _ (Ne.symm hb)).trans e))
end
/-- [e for x in ""] where an exception is handled: a new list with nothing in it -/
theorem pe_lcH0 {X : Cx} {elt tg iter : Expr} {ifs : List Expr} {scope : Scope} {own : List (Str × Nat)} {pos : Pos} {te : TE} (hot : L2H.HotC X) (hN : X.N.Nodup) (hi : PE X iter te) (ok : BlkOk X.N X.env.scope scope own) (hs : ∀ x, foldedSetIterable iter X.env x = pure x := by intro _; rfl) :
    PE X (.ListComp elt [⟨tg, iter, ifs, 0⟩] scope pos) (fun σ H Q => te σ H fun v H1 => v = .str "" ∧ ∀ D, H1 D = none → Q (.ref D) (upd H1 D (.lst []))) := by
  refine ⟨fun pins s σ H Q I h => ?_⟩
  rw [eval_ListComp]
  have hfree : ∀ y ∈ scope.names, y.2 = .free → ∃ c, X.env.cells.lookup y.1 = some c := fun y hy e => by
    rcases ok.free y hy e with k | k
    · exact I.ok.has _ (.inl k)
    · exact I.ok.has _ (.inr k)
  refine wpAny_comprehension_free (use := none) rfl hs (closure_ok hfree) ok.kind (fun y hy e => by rw [ok.uniq y hy, e]) (thn (hi.run pins s σ H _ I h) fun xv s1 hx => ?_)
  obtain ⟨y, H1, I1, r1, ey, q⟩ := hx
  subst ey
  obtain ⟨t, rfl⟩ := r1
  have ha : ("" : Str).cps.all (· < 128) = true := by decide +kernel
  refine wpAny_pyIter_ascii ha ?_
  generalize hit : s1.heap.objs.size = it
  have f2 : FpOk X pins H1 it := I1.fpOk (Nat.le_of_eq hit) (I1.hok.fresh (Nat.le_of_eq hit))
  generalize hs2 : ({ s1 with heap := s1.heap.push { cls := .type "str_ascii_iterator", data := .fields #[.str "" t, .int 0 0] } } : Shared) = s2
  have I2 : Inv X pins σ H1 s2 := by
    rw [← hs2]
    exact I1.kept (t' := s1.toks) fun b ob e => Heap.get?_push_of_some _ e
  have st2 : s2.heap.IsStrIter it "str_ascii_iterator" "" t 0 := by
    rw [← hs2, ← hit]
    exact ⟨_, Heap.get?_push_size _ rfl, rfl, rfl⟩
  refine wpAny_newObj_type (newEnv_comp ?_) (by show 0 ≤ sizeLine; decide)
  generalize hD : s2.heap.objs.size = D
  have hDn : H1 D = none := I2.hok.fresh (Nat.le_of_eq hD)
  have qq := q D hDn
  generalize hs3 : ({ s2 with heap := s2.heap.push { cls := .type "list", data := .seq ([] : List Value).toArray } } : Shared) = s3
  have I3 : Inv X pins σ (upd H1 D (.lst [])) s3 := by
    rw [← hs3]
    refine I2.laid (t' := s2.toks) (fun b o e => Heap.get?_push_of_some _ e) (Nat.le_of_eq hD) ⟨Nat.zero_le _, [], 0, .nil, ?_⟩
    rw [← hD]
    exact Heap.get?_push_size _ rfl
  have h3 : s3.heap = s2.heap.push { cls := .type "list", data := .seq ([] : List Value).toArray } := by rw [← hs3]
  have hlt : it < s2.heap.objs.size := by
    obtain ⟨o, e, _⟩ := st2
    exact Heap.lt_size e
  have f3 : ∀ b ∈ [it], FpOk X pins (upd H1 D (.lst [])) b ∧ b < s3.heap.objs.size := fun b hb => by
    have eb : b = it := List.mem_singleton.mp hb
    subst eb
    refine ⟨⟨?_, f2.2⟩, by rw [h3, Heap.size_push]; exact Nat.lt_succ_of_lt hlt⟩
    rw [upd_ne (by rw [← hD]; exact Nat.ne_of_lt hlt)]
    exact f2.1
  have st3 : s3.heap.IsStrIter it "str_ascii_iterator" "" t 0 := by
    obtain ⟨o, e, r⟩ := st2
    exact ⟨o, by rw [h3]; exact Heap.get?_push_of_some _ e, r⟩
  obtain ⟨x1, hotA⟩ := hot.at I3
  have I4 := block_start I3 ok hN f3
  show codeAny _ _ (.compStart (.ListComp elt [⟨tg, iter, ifs, 0⟩] scope pos) 0 (.ref it) (.ref D) (compEnvC scope (cellsFrom (s3.heap.objs.size + 1) scope.names (cloFrom X.env.cells scope.names [])) s3.heap.objs.size X.env)) (compPost (model X.prog X.w) X.A X.xe none _ (.ref D) s3.heap.objs.size) { s3 with heap := pushCells (s3.heap.push { cls := .type "dict", data := .dict #[] }) scope.names }
  generalize hce : compEnvC scope (cellsFrom (s3.heap.objs.size + 1) scope.names (cloFrom X.env.cells scope.names [])) s3.heap.objs.size X.env = ce at I4 ⊢
  have cL : ce.locals = s3.heap.objs.size := by subst hce; rfl
  generalize hH3 : upd H1 D (.lst []) = H3 at I3 I4 qq f3
  have keep4 : ∀ b o, s3.heap.get? b = some o → (pushCells (s3.heap.push { cls := .type "dict", data := .dict #[] }) scope.names).get? b = some o := fun b o e => pushCells_keeps _ _ _ _ (Heap.get?_push_of_some _ e)
  generalize hs4 : ({ s3 with heap := pushCells (s3.heap.push { cls := .type "dict", data := .dict #[] }) scope.names } : Shared) = s4 at I4 ⊢
  have h4 : s4.heap = pushCells (s3.heap.push { cls := .type "dict", data := .dict #[] }) scope.names := by rw [← hs4]
  have st4 : s4.heap.IsStrIter it "str_ascii_iterator" "" t 0 := by
    obtain ⟨o, e, r⟩ := st3
    exact ⟨o, by rw [h4]; exact keep4 _ _ e, r⟩
  have hot4 : HotX.HotAt X.A x1 s4.heap := by
    obtain ⟨hh, o1, vs1, e1, d1, c1⟩ := hotA
    exact ⟨hh, o1, vs1, by rw [h4]; exact keep4 _ _ e1, d1, c1⟩
  have nfp : H3 it = none := (f3 it (List.mem_singleton.mpr rfl)).1.1
  have fb : FpOk (X.blk s3 H3 scope ce [it]) [] H3 it :=
    have hb : it ∈ [it] := List.mem_singleton.mpr rfl
    ⟨nfp, (I4.ok.exf it hb).1, I4.ok.exfs it hb, .inl hb, fun x c e => (I4.ok.exf it hb).2 x c e, fun p hp => absurd (show p ∈ ([] : List (Addr × Obj)) ++ [] from hp) (by simp)⟩
  have loop : codeAny (model X.prog X.w) X.A (.compLoop (.ListComp elt [⟨tg, iter, ifs, 0⟩] scope pos) 0 (.ref it) (.ref D) ce) (compPost (model X.prog X.w) X.A X.xe none (EP X pins σ Q) (.ref D) s3.heap.objs.size) s4 := by
    refine compLoop_any (fun n s' => s' = s4) ?_ 0 rfl
    rintro n s5 rfl
    obtain ⟨f0, f1, f2', f3', f4', f5'⟩ := fb
    refine ascii_end_hot hot4 st4 rfl fun h' eb => ?_
    have I6 := I4.turned (t' := s5.toks) (h' := h') (fun b o hb e => eb b o hb e) f0 f1 f3' f4' f5'
    generalize hs6 : ({ s5 with heap := h' } : Shared) = s6 at I6 ⊢
    have I7 : Inv X pins σ H3 s6 := I3.call' (ch := [it]) I6.os I6.base I6.hok I6.bare fun b hb => ⟨(f3 b hb).1.2.2.2.1, (f3 b hb).1.2.1, (f3 b hb).1.2.2.2.2.1, (f3 b hb).1.2.2.2.2.2⟩
    have nC : H3 s3.heap.objs.size = none := by
      have z : H3 ce.locals = none := I6.free
      rw [cL] at z
      exact z
    obtain ⟨m, hn, _⟩ := I6.loc
    have hn : s6.heap.Ns ce.locals m := hn
    rw [cL] at hn
    refine ⟨m, hn, fun h'' sb => ?_⟩
    obtain ⟨g0, g1, g2, g3, g4, g5⟩ := I3.fpOk (H' := H3) (Nat.le_refl _) nC
    exact ⟨.ref D, H3, I7.turned (t' := s6.toks) (fun b o hb e => (sb.2 b hb).trans e) g0 g1 g3 g4 g5, rfl, qq⟩
  exact codeAny_compStart_list loop (wpAny_pyIter_striter_ascii st4 loop)
/-! ### spelled_bytes of no sign, refusal_answer with no word, where an exception is handled -/
section
variable {P : Program} {w : World} {K : PySem.W.Frag} {mg : Str → Option Value} {base : Heap}
def spNoSign : Sp := fun vs H Q _ => vs = [.str ""] ∧ ∀ H' q, Same H H' → H q = none → H' q = some (.lst []) → Q (.ref q) H'
theorem sc_spelled_bytes : FnScope ["spelling", "sign"] ["spelling"] (defScope s_spelled_bytes) := ⟨rfl, rfl, rfl, by decide +kernel, rfl, by decide +kernel, by decide +kernel⟩
theorem ok_spelled_bytes {f : Addr} {fd : FuncData} (F : Fun K "spelled_bytes" "spelled_bytes" s_spelled_bytes f fd) : L2H.FnH P w K mg base CX0 1 f fd ["spelling"] spNoSign := by
  refine Fun.okH F sc_spelled_bytes (fun vs H Q E h => ?_) (fun cdv A outer s H vs Q E p hot hr h => ?_)
  · obtain ⟨rfl, _⟩ := h
    rfl
  · obtain ⟨rfl, k⟩ := h
    refine ⟨_, pss_one (ps_ret (pe_lcH0 (own := [("sign", 1)]) (hot_in hot) sc_spelled_bytes.nd (pv 0) (blkOk_by (own := [("sign", 1)]) (N := ["spelling", "sign"]) (sc := defScope s_spelled_bytes) (by decide +kernel)))), ?_⟩
    refine ⟨_, rfl, rfl, fun D hD => ?_⟩
    exact k _ D (same_up (Same.refl H) hD) hD upd_same
/-- an answer of two numbers -/
def spAns : Sp := fun vs H Q _ => ∃ n p : Int, vs = [.int n, .int p, .str ""] ∧ ∀ H' q, H' q = some (.lst [.int n, .int p]) → Q (.ref q) H'
theorem sc_refusal_answer : FnScope ["number", "place", "word"] ["number", "place", "word"] (defScope s_refusal_answer) := ⟨rfl, rfl, rfl, by decide +kernel, rfl, by decide +kernel, by decide +kernel⟩
theorem ok_refusal_answer {f f1 : Addr} {fd fd1 : FuncData} (F : Fun K "refusal_answer" "refusal_answer" s_refusal_answer f fd) (A1 : At K mg "spelled_bytes" s_spelled_bytes ["spelling"] f1 fd1) : L2H.FnH P w K mg base CX0 2 f fd ["number", "place", "word"] spAns := by
  refine Fun.okH F sc_refusal_answer (fun vs H Q E h => ?_) (fun cdv A outer s H vs Q E p hot hr h => ?_)
  · obtain ⟨n, p, rfl, _⟩ := h
    rfl
  · obtain ⟨n, p, rfl, k⟩ := h
    refine ⟨_, pss_one (ps_ret (pe_op op_cat (pe_lst (pa_cons (pv 0) (pa_cons (pv 1) pa_nil))) (L2H.pe_callH (E := fun _ => E0) (ok_spelled_bytes A1.F) hr (hot_in hot) rfl A1.g A1.F.kp A1.b (fun _ _ _ _ _ _ _ h => h.elim) (pa_cons (pv 2) pa_nil)))), ?_⟩
    refine ⟨_, rfl, _, rfl, by show 2 ≤ sizeLine; decide, fun l hl => ?_⟩
    refine ⟨_, rfl, rfl, fun H' q s hq0 hq => ?_⟩
    have hl' : H' l = some (.lst [.int n, .int p]) := s _ _ upd_same
    refine ⟨l, q, _, _, rfl, rfl, hl', hq, by show 2 + 0 ≤ sizeLine; decide, fun p' _ => ?_⟩
    exact k _ p' upd_same
end
/-! ### tokens_of -/
def spToksOf (K : PySem.W.Frag) (C C8 CT : Addr) : Sp := fun vs H Q E => ∃ (a : Addr) (b : Bytes), vs = [.ref a] ∧ SqL K H a (tx b) ∧ (65536 < b.length → Wish8 C8 H E) ∧ (b.length ≤ 65536 →
  (∀ l, Lx.TK 0 b = .ok l → ∀ H' p xs, Same H H' → H p = none → H' p = some (.lst (xs.map V.ref)) → Toks CT H' xs l → Q (.ref p) H') ∧ (∀ pl, Lx.TK 0 b = .error pl → Wish C H pl E))
section
variable {P : Program} {w : World} {K : PySem.W.Frag} {mg : Str → Option Value} {base : Heap} {C C8 R fN fN8 fR CT fT : Addr} {fdN fdN8 fdR fdT : FuncData} {mc : Value}
theorem sc_tokens_of : FnScope ["text"] ["text"] (defScope s_tokens_of) := ⟨rfl, rfl, rfl, by decide +kernel, rfl, by decide +kernel, by decide +kernel⟩
theorem ok_tokens_of (L : Lexing P w K mg) {f fL : Addr} {fd fdL : FuncData} {t : Tok} (F : Fun K "tokens_of" "tokens_of" s_tokens_of f fd) (AL : At K mg "lexed" s_lexed ["text"] fL fdL) (mb : mg "MOST_BYTES" = some (.int 65536 t))
    (T : ErrTxt K mg C R fN fR fdN fdR mc) (T8 : DeepTxt K mg C8 R fN8 fR fdN8 fdR mc) (TT : TokTxt K mg CT fT fdT) : FnOk P w K mg base (L2N.CX P w) 8 f fd ["text"] (spToksOf K C C8 CT) := by
  have GT : FnOk P w K mg base (L2N.CX P w) 7 fL fdL ["text"] (spLexed K C CT) := ok_lexed L AL.F T TT
  refine Fun.okN F sc_tokens_of (fun vs H Q E h => ?_) (fun cdv A outer s H vs Q E hr h => ?_)
  · obtain ⟨a, b, rfl, _⟩ := h
    rfl
  obtain ⟨a, b, rfl, hS, k8, k⟩ := h
  have hr3 := hr.mono (show 3 ≤ 7 by decide)
  refine ⟨_, pss_cons (ps_if (pt_cmpR op_gt (pe_callB call_len_seq (by rfl) L.len PySem.boot_len (pa_cons (pv 0) pa_nil)) (pe_glob (v := .int 65536) rfl mb ⟨_, rfl⟩) (nomark _))
      (pss_one (L2N.ps_raise rfl (L2N.takes_of rfl rfl rfl rfl) (Er.pmk_err T8.own T8.iC T8.tN (ok_toodeep_init T8) hr3 T8.bN pass0 rfl T8.gC (by exact (pa_cons pe_int pa_nil))))) pss_nil)
    (pss_one (ps_ret (pe_call GT hr rfl AL.g AL.F.kp AL.b .nil (L2N.passes_call (L2N.takes_of rfl rfl rfl rfl) (fun _ _ _ _ h => h)) (by exact (pa_cons (pv 0) pa_nil))))), ?_⟩
  refine ⟨_, rfl, a, tx b, rfl, .inl hS, _, _, rfl, rfl, _, rfl, ?_⟩
  rw [tx_len]
  by_cases h1 : 65536 < b.length
  · refine goT (decide_eq_true (by omega)) ?_
    exact raise_ok8 (k8 h1)
  · refine goF (decide_eq_false (by omega)) ?_
    obtain ⟨kok, kno⟩ := k (by omega)
    exact ⟨_, rfl, a, b, rfl, hS, by omega, kok, kno⟩
end
end Tk
end

section
set_option maxHeartbeats 2000000
/-! the facts of the module at the top's end, asked as one Boolean of a part of the heap -/
namespace Tk
open PySem PySem.Spec PyProof.Rows L2
open Dbm (Bytes)
def zFa0 : List He.Fa := [.free "len", .free "min", .free "range", .free "int", .int "LINE_FEED" 10, .int "MINUS" 45, .int "DOUBLE_QUOTE" 34, .int "DOLLAR" 36, .int "QUOTE" 39, .int "POINT" 46, .int "ZERO" 48, .int "WORD" 0, .int "QUOTED" 1, .int "NUMBER" 2, .int "TEXT" 3, .int "BYTES" 4, .int "GIVEN" 5, .int "SIGN" 6, .int "END" 7, .int "MOST_BYTES" 65536]
def zFa1 : List He.Fa := [.str "SPELLING" SP, .glo "next_place", .glo "line_end", .glo "byte_at", .glo "token_at", .glo "is_digit", .glo "begins_word", .glo "in_word", .glo "spelled", .glo "bytes_token", .glo "half_byte", .glo "word_token", .glo "quoted_token", .glo "text_token", .glo "quoted_end", .glo "undoubled", .glo "given_token", .glo "digits_end", .glo "number_token", .glo "exponent_end"]
def zFa2 : List He.Fa := [.glo "sign_token", .glo "well_made", .glo "sign_length", .glo "whole_sign", .glo "in_shortest_form", .glo "lexed", .glo "spelled_bytes", .glo "refusal_answer", .glo "tokens_of", .glo "tokens", .glo "BLANK_BYTES", .glo "ONE_BYTE_SIGNS", .glo "TWO_BYTE_SIGNS", .glo "Token", .glo "NoToken", .glo "Refusal", .glo "TooDeep", .cls "Token", .noat "Token" "kind", .noat "Token" "place"]
def zFa3 : List He.Fa := [.noat "Token" "end", .noat "Token" "worth", .mkr "Token"]
def zFa : List He.Fa := zFa0 ++ zFa1 ++ zFa2 ++ zFa3
def zFn0 : List He.DefD := [⟨("next_place", none), "next_place", "next_place", defArgs s_next_place, defBody s_next_place, defScope s_next_place, [], []⟩, ⟨("line_end", none), "line_end", "line_end", defArgs s_line_end, defBody s_line_end, defScope s_line_end, [], []⟩, ⟨("byte_at", none), "byte_at", "byte_at", defArgs s_byte_at, defBody s_byte_at, defScope s_byte_at, [], []⟩, ⟨("token_at", none), "token_at", "token_at", defArgs s_token_at, defBody s_token_at, defScope s_token_at, [], []⟩, ⟨("is_digit", none), "is_digit", "is_digit", defArgs s_is_digit, defBody s_is_digit, defScope s_is_digit, [], []⟩, ⟨("begins_word", none), "begins_word", "begins_word", defArgs s_begins_word, defBody s_begins_word, defScope s_begins_word, [], []⟩, ⟨("in_word", none), "in_word", "in_word", defArgs s_in_word, defBody s_in_word, defScope s_in_word, [], []⟩, ⟨("spelled", none), "spelled", "spelled", defArgs s_spelled, defBody s_spelled, defScope s_spelled, [], []⟩, ⟨("bytes_token", none), "bytes_token", "bytes_token", defArgs s_bytes_token, defBody s_bytes_token, defScope s_bytes_token, [], []⟩, ⟨("half_byte", none), "half_byte", "half_byte", defArgs s_half_byte, defBody s_half_byte, defScope s_half_byte, [], []⟩, ⟨("word_token", none), "word_token", "word_token", defArgs s_word_token, defBody s_word_token, defScope s_word_token, [], []⟩, ⟨("quoted_token", none), "quoted_token", "quoted_token", defArgs s_quoted_token, defBody s_quoted_token, defScope s_quoted_token, [], []⟩, ⟨("text_token", none), "text_token", "text_token", defArgs s_text_token, defBody s_text_token, defScope s_text_token, [], []⟩, ⟨("quoted_end", none), "quoted_end", "quoted_end", defArgs s_quoted_end, defBody s_quoted_end, defScope s_quoted_end, [], []⟩]
def zFn1 : List He.DefD := [⟨("undoubled", none), "undoubled", "undoubled", defArgs s_undoubled, defBody s_undoubled, defScope s_undoubled, [], []⟩, ⟨("given_token", none), "given_token", "given_token", defArgs s_given_token, defBody s_given_token, defScope s_given_token, [], []⟩, ⟨("digits_end", none), "digits_end", "digits_end", defArgs s_digits_end, defBody s_digits_end, defScope s_digits_end, [], []⟩, ⟨("number_token", none), "number_token", "number_token", defArgs s_number_token, defBody s_number_token, defScope s_number_token, [], []⟩, ⟨("exponent_end", none), "exponent_end", "exponent_end", defArgs s_exponent_end, defBody s_exponent_end, defScope s_exponent_end, [], []⟩, ⟨("sign_token", none), "sign_token", "sign_token", defArgs s_sign_token, defBody s_sign_token, defScope s_sign_token, [], []⟩, ⟨("well_made", none), "well_made", "well_made", defArgs s_well_made, defBody s_well_made, defScope s_well_made, [], []⟩, ⟨("sign_length", none), "sign_length", "sign_length", defArgs s_sign_length, defBody s_sign_length, defScope s_sign_length, [], []⟩, ⟨("whole_sign", none), "whole_sign", "whole_sign", defArgs s_whole_sign, defBody s_whole_sign, defScope s_whole_sign, [], []⟩, ⟨("in_shortest_form", none), "in_shortest_form", "in_shortest_form", defArgs s_in_shortest_form, defBody s_in_shortest_form, defScope s_in_shortest_form, [], []⟩, ⟨("lexed", none), "lexed", "lexed", defArgs s_lexed, defBody s_lexed, defScope s_lexed, [], []⟩, ⟨("spelled_bytes", none), "spelled_bytes", "spelled_bytes", defArgs s_spelled_bytes, defBody s_spelled_bytes, defScope s_spelled_bytes, [], []⟩, ⟨("refusal_answer", none), "refusal_answer", "refusal_answer", defArgs s_refusal_answer, defBody s_refusal_answer, defScope s_refusal_answer, [], []⟩, ⟨("tokens_of", none), "tokens_of", "tokens_of", defArgs s_tokens_of, defBody s_tokens_of, defScope s_tokens_of, [], []⟩]
def zFn2 : List He.DefD := [⟨("tokens", none), "tokens", "tokens", defArgs s_tokens, defBody s_tokens, defScope s_tokens, [], []⟩, ⟨("Token", some "__init__"), "__init__", "Token.__init__", defArgs s_token_init, defBody s_token_init, defScope s_token_init, [], []⟩, ⟨("NoToken", some "__init__"), "__init__", "NoToken.__init__", defArgs s_notoken_init, defBody s_notoken_init, defScope s_notoken_init, [], []⟩, ⟨("Refusal", some "__init__"), "__init__", "Refusal.__init__", defArgs s_refusal_init, defBody s_refusal_init, defScope s_refusal_init, [], []⟩, ⟨("TooDeep", some "__init__"), "__init__", "TooDeep.__init__", defArgs s_toodeep_init, defBody s_toodeep_init, defScope s_toodeep_init, [], []⟩]
def zFn : List He.DefD := zFn0 ++ zFn1 ++ zFn2
def zSel0 : List Str := List.map PySem.Str.ofString ["next_place", "line_end", "byte_at", "token_at", "is_digit", "begins_word", "in_word", "spelled", "bytes_token", "half_byte", "word_token", "quoted_token", "text_token", "quoted_end", "undoubled", "given_token", "digits_end", "number_token", "exponent_end", "sign_token", "well_made", "sign_length", "whole_sign", "in_shortest_form", "lexed", "spelled_bytes", "refusal_answer", "tokens_of", "tokens", "BLANK_BYTES", "ONE_BYTE_SIGNS", "TWO_BYTE_SIGNS", "Token", "NoToken", "Refusal", "TooDeep"]

/-- the keys of a dict -/
def zKeys (g : Addr → Option Obj) (a : Addr) : List Addr := match g a with
  | some ⟨_, _, .dict es _, _⟩ => es.toList.flatMap fun e => He.refV e.key
  | _ => []
/-- the part of the heap that is looked at -/
def zAs (g : Addr → Option Obj) : List Addr :=
  let K0 := He.frG g [mainGlobals]
  let a0 := zSel0.map fun x => He.ga K0 x
  mainGlobals :: cStatics :: (zKeys g (He.ga K0 "TWO_BYTE_SIGNS") ++ He.growD g (He.growD g (He.growD g a0)))
def zK (g : Addr → Option Obj) : PySem.W.Frag := He.frG g (zAs g)
/-! ### the dict of the signs of one byte -/
def keyN (e : DictEntry) : Int := match e.key with
  | .int i _ => i
  | _ => -1
def entB (e : DictEntry) : Bool := match e.key, e.val with
  | .int i _, .str _ _ => decide (e.hash = hashInt i)
  | _, _ => false
def oneChk (K : PySem.W.Frag) (d : Addr) : Bool := match K.lookup d with
  | some ⟨.type c, none, .dict es _, sl⟩ => decide (c = "dict") && (decide (sl.size = 0) && (es.toList.all entB && decide (es.toList.map keyN = oneL)))
  | _ => false
theorem entB_ok {e : DictEntry} (h : entB e = true) : ∃ i t z u, e.key = .int i t ∧ e.val = .str z u ∧ e.hash = hashInt i := by
  obtain ⟨hs, k, v⟩ := e
  cases k with
  | int i t => cases v with
    | str z u => exact ⟨i, t, z, u, rfl, rfl, of_decide_eq_true h⟩
    | _ => cases h
  | _ => cases v <;> cases h
theorem one_find {es : List DictEntry} (h : es.all entB = true) (i : Int) : ((es.find? fun e => keyIs (.inl i) e.key).map (·.val)).isSome = (es.map keyN).contains i := by
  induction es with
  | nil => rfl
  | cons e r ih =>
    obtain ⟨h1, h2⟩ := He.ba (show (entB e && r.all entB) = true from h)
    obtain ⟨j, t, z, u, ek, ev, eh⟩ := entB_ok h1
    have kn : keyN e = j := by unfold keyN; rw [ek]
    rw [List.find?_cons, List.map_cons, kn, List.contains_cons, ek]
    by_cases q : i = j
    · subst q
      have z1 : keyIs (.inl i) (.int i t) = true := by
        show Value.isInt i (.int i t) = true
        simp [Value.isInt]
      rw [z1]
      simp
    · have z1 : keyIs (.inl i) (.int j t) = false := by
        show Value.isInt i (.int j t) = false
        simp [Value.isInt]
        exact fun z => q z.symm
      rw [z1, show (i == j) = false from beq_eq_false_iff_ne.mpr q]
      exact ih h2
theorem oneChk_ok {P : Program} {w : World} {K : PySem.W.Frag} {d : Addr} (hd : (d == sysModules) = false) (h : oneChk K d = true) : ∃ f, OneMap P w K d f := by
  unfold oneChk at h
  cases q : K.lookup d with
  | none =>
    rw [q] at h
    cases h
  | some o =>
    obtain ⟨oc, od, dt, sl⟩ := o
    rw [q] at h
    cases oc with
    | type c => cases od with
      | none => cases dt with
        | dict es ep =>
          obtain ⟨h1, h2⟩ := He.ba (show (decide (c = "dict") && (decide (sl.size = 0) && (es.toList.all entB && decide (es.toList.map keyN = oneL)))) = true from h)
          obtain ⟨h3, h4⟩ := He.ba h2
          obtain ⟨h5, h6⟩ := He.ba h4
          have e1 : c = "dict" := of_decide_eq_true h1
          have e2 : sl = #[] := Array.eq_empty_of_size_eq_zero (of_decide_eq_true h3)
          have e3 : es.toList.map keyN = oneL := of_decide_eq_true h6
          subst e1 e2
          have ent : ∀ e ∈ es.toList, entB e = true := List.all_eq_true.mp h5
          refine ⟨fun k => findBy keyIs es k, hd, fun hh hK => ⟨_, es, ep, hK _ _ q, ⟨rfl, rfl, rfl⟩, rfl, fun e he => ?_, fun _ => rfl⟩, fun i => ?_, fun i u hu => ?_⟩
          · obtain ⟨i, t, z, u, ek, ev, eh⟩ := entB_ok (ent e (Array.mem_def.mp he))
            refine ⟨.inl i, ?_, eh⟩
            rw [ek]
            show Value.isInt i (.int i t) = true
            simp [Value.isInt]
          · have z := one_find h5 i
            unfold findBy
            rw [← Array.find?_toList]
            rw [z, e3]
            rfl
          · have hu : (es.find? fun e => keyIs (.inl i) e.key).map (·.val) = some u := hu
            rw [← Array.find?_toList] at hu
            obtain ⟨e, he, eu⟩ := Option.map_eq_some_iff.mp hu
            obtain ⟨j, t, z, u', ek, ev, eh⟩ := entB_ok (ent e (List.mem_of_find?_eq_some he))
            exact ⟨z, u', by rw [← eu, ev]⟩
        | _ => cases h
      | some a => cases dt <;> cases h
    | _ => cases od <;> cases dt <;> cases h
/-! ### the dict of the signs of two bytes -/
def twoL : List (Int × Int) := [(60, 62), (60, 61), (62, 61), (124, 124)]
def pairN (K : PySem.W.Frag) (e : DictEntry) : Option (Int × Int × Addr) := match e.key with
  | .ref a => (match K.lookup a with
    | some ⟨.type c, _, .seq its _, _⟩ => (match its.toList with
      | [.int i _, .int j _] => if c = "tuple" then some (i, j, a) else none
      | _ => none)
    | _ => none)
  | _ => none
def entB2 (K : PySem.W.Frag) (e : DictEntry) : Bool := match pairN K e, e.val with
  | some (i, j, _), .str _ _ => decide (e.hash = reduceHash (Builtin.Tuple.tupleHashOf [hashInt i, hashInt j]))
  | _, _ => false
def twoChk (K : PySem.W.Frag) (d : Addr) : Bool := match K.lookup d with
  | some ⟨.type c, none, .dict es _, sl⟩ => decide (c = "dict") && (decide (sl.size = 0) && (es.toList.all (entB2 K) && decide (es.toList.map (fun e => (pairN K e).map fun p => (p.1, p.2.1)) = twoL.map some)))
  | _ => false
theorem pairN_ok {K : PySem.W.Frag} {e : DictEntry} {p : Int × Int × Addr} (h : pairN K e = some p) : ∃ od its n sl t u, e.key = .ref p.2.2 ∧ K.lookup p.2.2 = some ⟨.type "tuple", od, .seq its n, sl⟩ ∧ its.toList = [.int p.1 t, .int p.2.1 u] := by
  unfold pairN at h
  cases ek : e.key with
  | ref a =>
    rw [ek] at h
    have h : (match K.lookup a with
      | some ⟨.type c, _, .seq its _, _⟩ => (match its.toList with
        | [.int i _, .int j _] => if c = "tuple" then some (i, j, a) else none
        | _ => none)
      | _ => none) = some p := h
    cases q : K.lookup a with
    | none =>
      rw [q] at h
      cases h
    | some o =>
      obtain ⟨oc, od, dt, sl⟩ := o
      rw [q] at h
      cases oc with
      | type c => cases dt with
        | seq its n =>
          have h2 : (match its.toList with
            | [.int i _, .int j _] => if c = "tuple" then some (i, j, a) else none
            | _ => none) = some p := h
          clear h
          by_cases ec : c = "tuple"
          · subst ec
            split at h2
            · rename_i i t j u el
              rw [if_pos rfl] at h2
              have h3 := Option.some.inj h2
              subst h3
              exact ⟨od, its, n, sl, t, u, rfl, q, el⟩
            · cases h2
          · split at h2
            · rw [if_neg ec] at h2
              cases h2
            · cases h2
        | _ => cases h
      | _ => cases dt <;> cases h
  | _ =>
    rw [ek] at h
    cases h
def xOf (K : PySem.W.Frag) (e : DictEntry) : List Key × Addr × Value := match pairN K e with
  | some (i, j, a) => ([.inl i, .inl j], a, e.val)
  | none => ([], 0, e.val)
theorem entB2_ok {K : PySem.W.Frag} {e : DictEntry} (h : entB2 K e = true) : ∃ i j a z u, pairN K e = some (i, j, a) ∧ e.val = .str z u ∧ e.hash = reduceHash (Builtin.Tuple.tupleHashOf [hashInt i, hashInt j]) := by
  unfold entB2 at h
  cases q : pairN K e with
  | none =>
    rw [q] at h
    cases h
  | some p =>
    obtain ⟨i, j, a⟩ := p
    rw [q] at h
    cases ev : e.val with
    | str z u =>
      rw [ev] at h
      exact ⟨i, j, a, z, u, rfl, rfl, of_decide_eq_true h⟩
    | _ =>
      rw [ev] at h
      cases h
theorem twoChk_ok {P : Program} {w : World} {K : PySem.W.Frag} {d : Addr} (hd : (d == sysModules) = false) (h : twoChk K d = true) : ∃ xs, TwoMap P w K d xs := by
  unfold twoChk at h
  cases q : K.lookup d with
  | none =>
    rw [q] at h
    cases h
  | some o =>
    obtain ⟨oc, od, dt, sl⟩ := o
    rw [q] at h
    cases oc with
    | type c => cases od with
      | none => cases dt with
        | dict es ep =>
          obtain ⟨h1, h2⟩ := He.ba (show (decide (c = "dict") && (decide (sl.size = 0) && (es.toList.all (entB2 K) && decide (es.toList.map (fun e => (pairN K e).map fun p => (p.1, p.2.1)) = twoL.map some)))) = true from h)
          obtain ⟨h3, h4⟩ := He.ba h2
          obtain ⟨h5, h6⟩ := He.ba h4
          have e1 : c = "dict" := of_decide_eq_true h1
          have e2 : sl = #[] := Array.eq_empty_of_size_eq_zero (of_decide_eq_true h3)
          have e3 : es.toList.map (fun e => (pairN K e).map fun p => (p.1, p.2.1)) = twoL.map some := of_decide_eq_true h6
          subst e1 e2
          have ent : ∀ e ∈ es.toList, entB2 K e = true := List.all_eq_true.mp h5
          have keys : (es.toList.map (xOf K)).map (·.1) = twoL.map fun p => [Sum.inl p.1, Sum.inl p.2] := by
            have gen : ∀ (l : List DictEntry) (m : List (Int × Int)), (∀ e ∈ l, entB2 K e = true) → l.map (fun e => (pairN K e).map fun p => (p.1, p.2.1)) = m.map some → (l.map (xOf K)).map (·.1) = m.map fun p => ([Sum.inl p.1, Sum.inl p.2] : List Key) := by
              intro l
              induction l with
              | nil =>
                intro m _ z
                cases m with
                | nil => rfl
                | cons _ _ => cases z
              | cons e r ih =>
                intro m ha z
                cases m with
                | nil => cases z
                | cons p m =>
                  obtain ⟨i, j, a, _, _, ep, _, _⟩ := entB2_ok (ha e (List.mem_cons_self ..))
                  rw [List.map_cons, List.map_cons] at z
                  have z1 := (List.cons.inj z).1
                  have z2 := (List.cons.inj z).2
                  rw [ep] at z1
                  have z1 : (i, j) = p := Option.some.inj z1
                  rw [List.map_cons, List.map_cons, List.map_cons, ih m (fun e he => ha e (List.mem_cons_of_mem _ he)) z2, ← z1]
                  unfold xOf
                  rw [ep]
            exact gen _ _ ent e3
          have some_ : ∀ i j : Int, (atKey (es.toList.map (xOf K)) [.inl i, .inl j]).isSome = twoB i j := by
            intro i j
            have gen : ∀ (l : List (List Key × Addr × Value)) (k : List Key), (atKey l k).isSome = (l.map (·.1)).any fun x => decide (x = k) := by
              intro l k
              unfold atKey
              rw [Option.isSome_map]
              induction l with
              | nil => rfl
              | cons x r ih =>
                rw [List.find?_cons, List.map_cons, List.any_cons]
                by_cases z : x.1 = k
                · rw [decide_eq_true z]
                  rfl
                · rw [decide_eq_false z]
                  exact ih
            rw [gen, keys]
            show (List.map (fun p : Int × Int => ([Sum.inl p.1, Sum.inl p.2] : List Key)) twoL).any (fun x => decide (x = [Sum.inl i, Sum.inl j])) = twoB i j
            unfold twoL twoB
            have dd : ∀ a b : Int, decide (([Sum.inl a, Sum.inl b] : List Key) = [Sum.inl i, Sum.inl j]) = (i == a && j == b) := by
              intro a b
              rw [Bool.eq_iff_iff, decide_eq_true_iff, Bool.and_eq_true, beq_iff_eq, beq_iff_eq]
              constructor
              · intro z
                simp only [List.cons.injEq, Sum.inl.injEq, and_true] at z
                exact ⟨z.1.symm, z.2.symm⟩
              · intro z
                rw [z.1, z.2]
            simp only [List.map_cons, List.map_nil, List.any_cons, List.any_nil, dd, Bool.or_false]
          refine ⟨es.toList.map (xOf K), hd, fun hh hK => ⟨_, es, ep, hK _ _ q, ⟨rfl, rfl, rfl⟩, rfl, ?_, fun x hx => ?_, ?_⟩, some_, fun i j p hp => ?_⟩
          · have gen : ∀ (l : List DictEntry), (∀ e ∈ l, entB2 K e = true) → l = (l.map (xOf K)).map (entryOfKey (tupleKind (mixKind P w))) := by
              intro l
              induction l with
              | nil => intro _; rfl
              | cons e r ih =>
                intro ha
                rw [List.map_cons, List.map_cons, ← ih fun e he => ha e (List.mem_cons_of_mem _ he)]
                congr 1
                obtain ⟨i, j, a, z, u, ep, ev, eh⟩ := entB2_ok (ha e (List.mem_cons_self ..))
                obtain ⟨od, its, n, sl, t1, t2, ek, lk, el⟩ := pairN_ok ep
                unfold xOf
                rw [ep]
                obtain ⟨e1, e2, e3⟩ := e
                have ek : e2 = .ref a := ek
                have eh : e1 = reduceHash (Builtin.Tuple.tupleHashOf [hashInt i, hashInt j]) := eh
                rw [ek, eh]
                rfl
            exact gen _ ent
          · obtain ⟨e, he, rfl⟩ := List.mem_map.mp hx
            obtain ⟨i, j, a, z, u, ep, ev, eh⟩ := entB2_ok (ent e he)
            obtain ⟨od, its, n, sl, t1, t2, ek, lk, el⟩ := pairN_ok ep
            unfold xOf
            rw [ep]
            refine ⟨_, its, n, hK _ _ lk, rfl, rfl, ?_⟩
            rw [el]
            exact .cons (by show Value.isInt i (.int i t1) = true; simp [Value.isInt]) (.cons (by show Value.isInt j (.int j t2) = true; simp [Value.isInt]) .nil)
          · rw [keys]
            decide
          · unfold atKey at hp
            obtain ⟨x, hx, ex⟩ := Option.map_eq_some_iff.mp hp
            obtain ⟨e, he, rfl⟩ := List.mem_map.mp (List.mem_of_find?_eq_some hx)
            obtain ⟨i', j', a, z, u, ep, ev, eh⟩ := entB2_ok (ent e he)
            refine ⟨z, u, ?_⟩
            rw [← ex]
            unfold xOf
            rw [ep]
            exact ev
        | _ => cases h
      | some a => cases dt <;> cases h
    | _ => cases od <;> cases dt <;> cases h

/-! ### the error's class -/
def ownChk (K : PySem.W.Frag) (C R : Addr) : Bool := match K.lookup C with
  | some ⟨.type "type", _, .cls cd, sl⟩ => (match cd.mro, sl.toList with
    | .ref C' :: .ref R' :: bm, [_, _, _, _, some (.builtin n), _] => C' == C && (R' == R && (n == "Exception.__new__" && (!cd.hasDel && (cd.hasDict && decide (bm = Er.tailE)))))
    | _, _ => false)
  | _ => false
theorem ownChk_ok {K : PySem.W.Frag} {C R : Addr} (q : ownChk K C R = true) : ∃ nm q N bs sn sub ab col dd k0 k1 k2 k3 k5, K.lookup C = some (excClassObj nm q C N bs (.ref R :: Er.tailE) true sn sub ab col dd k0 k1 k2 k3 k5 "Exception.__new__") := by
  unfold ownChk at q
  split at q
  · rename_i dd cd sl ho
    split at q
    · rename_i C' R' bm k0 k1 k2 k3 n k5 hm hs
      simp only [Bool.and_eq_true, beq_iff_eq, Bool.not_eq_true', decide_eq_true_iff] at q
      obtain ⟨rfl, rfl, rfl, hdel, hdc, rfl⟩ := q
      obtain ⟨nm, bs, mro, ns, qn, hd, sn, sub, ab, col, del⟩ := cd
      dsimp only at hm hdel hdc
      subst hm hdel hdc
      have hsl : sl = #[k0, k1, k2, k3, some (.builtin "Exception.__new__"), k5] := by
        obtain ⟨l⟩ := sl
        simp only at hs
        rw [hs]
      subst hsl
      exact ⟨nm, qn, ns, bs, sn, sub, ab, col, dd, k0, k1, k2, k3, k5, ho⟩
    · cases q
  · cases q
/-- the error is caught by its base's name, its fields are read -/
structure ErrRead (K : PySem.W.Frag) (C R : Addr) : Prop where
  ga : PySem.W.findIn K (.ref C) "__getattribute__" = some (some (.builtin "BaseException.__getattribute__"))
  gg : PySem.W.findIn K (.ref C) "__getattr__" = some none
  hd : PySem.W.hasDictIn K C = true
  ex : PySem.W.exmOne K (.ref C) (.ref R) = some true
def zC (K : PySem.W.Frag) : Addr := He.ga K "NoToken"
def zD (K : PySem.W.Frag) : Addr := He.ga K "TooDeep"
def zR (K : PySem.W.Frag) : Addr := He.ga K "Refusal"
def zErr (K : PySem.W.Frag) : List Bool :=
  [ownChk K (zC K) (zR K),
   He.eqO (PySem.W.findIn K (.ref (zC K)) "__setattr__") (some (some (.builtin "object.__setattr__"))),
   decide (PySem.W.subIn K (.ref (zC K)) (.type "BaseException") = some true),
   decide (PySem.W.typeIn K (.ref (zC K)) = some (.type "type")),
   PySem.W.keepIn K (.ref (zC K)),
   He.eqO (PySem.W.findIn K (.ref (zC K)) "__init__") (some (some (.ref (He.ma K (zC K) "__init__")))),
   decide (PySem.W.typeIn K (.ref (He.ma K (zC K) "__init__")) = some (.type "function")),
   PySem.W.readsIn K (zR K) (.type "type"),
   He.eqO (PySem.W.specialIn K (.ref (zR K)) "__getattribute__") (some (some (.builtin "type.__getattribute__"))),
   (match PySem.W.findCls K (.ref (zR K)) (.type "type") "__init__" with
    | some (.val (.ref a)) => decide (a = He.ma K (zR K) "__init__")
    | _ => false),
   He.eqO (PySem.W.findIn K (.ref (zC K)) "number") (some none),
   He.eqO (PySem.W.findIn K (.ref (zC K)) "place") (some none),
   He.eqO (PySem.W.findIn K (.ref (zC K)) "word") (some none),
   He.tupB K "BLANK_BYTES" [.int 9, .int 10, .int 13, .int 32],
   oneChk K (He.ga K "ONE_BYTE_SIGNS"),
   twoChk K (He.ga K "TWO_BYTE_SIGNS"),
   !(He.ga K "ONE_BYTE_SIGNS" == sysModules),
   !(He.ga K "TWO_BYTE_SIGNS" == sysModules),
   He.eqO (PySem.W.findIn K (.ref (zC K)) "__getattribute__") (some (some (.builtin "BaseException.__getattribute__"))),
   He.eqO (PySem.W.findIn K (.ref (zC K)) "__getattr__") (some none),
   PySem.W.hasDictIn K (zC K),
   decide (PySem.W.exmOne K (.ref (zC K)) (.ref (zR K)) = some true),
   ownChk K (zD K) (zR K),
   He.eqO (PySem.W.findIn K (.ref (zD K)) "__setattr__") (some (some (.builtin "object.__setattr__"))),
   decide (PySem.W.subIn K (.ref (zD K)) (.type "BaseException") = some true),
   decide (PySem.W.typeIn K (.ref (zD K)) = some (.type "type")),
   PySem.W.keepIn K (.ref (zD K)),
   He.eqO (PySem.W.findIn K (.ref (zD K)) "__init__") (some (some (.ref (He.ma K (zD K) "__init__")))),
   decide (PySem.W.typeIn K (.ref (He.ma K (zD K) "__init__")) = some (.type "function")),
   He.eqO (PySem.W.findIn K (.ref (zD K)) "number") (some none),
   He.eqO (PySem.W.findIn K (.ref (zD K)) "place") (some none),
   He.eqO (PySem.W.findIn K (.ref (zD K)) "word") (some none),
   He.eqO (PySem.W.findIn K (.ref (zD K)) "__getattribute__") (some (some (.builtin "BaseException.__getattribute__"))),
   He.eqO (PySem.W.findIn K (.ref (zD K)) "__getattr__") (some none),
   PySem.W.hasDictIn K (zD K),
   decide (PySem.W.exmOne K (.ref (zD K)) (.ref (zR K)) = some true)]
abbrev ZT : Type := He.AlD × Bool
def zObs (K : PySem.W.Frag) : ZT := (He.obsD zFa zFn K, (zErr K).all id)
def zVal : ZT := (He.valD zFn, true)
def zHook : PySem.W.Hook where
  α := ZT
  obs := fun s => zObs (zK s.heap.get?)
  val := fun _ => zVal
  says := fun _ h => ∃ K : PySem.W.Frag, K.In h ∧ zObs K = zVal
  of := fun _ _ e => ⟨_, He.frG_in, e⟩
  keeps := fun _ _ _ ⟨K, hK, c⟩ k => ⟨K, PySem.W.Frag.In.keeps hK k, c⟩
theorem fun_of {K : PySem.W.Frag} {x q : Str} {st : Stmt} {f : Addr} {fd : FuncData} (F : FunD K x q (defArgs st) (defBody st) (defScope st) [] [] f fd) : Fun K x q st f fd := by
  obtain ⟨oc, od, dV, kV, doc, pm, an, cdv, ct, osl, rfl, lk, hcd, hD, hK⟩ := F.ex
  rcases hD with ⟨_, rfl⟩ | ⟨e, _⟩
  · exact ⟨⟨oc, od, kV, doc, pm, an, cdv, ct, osl, rfl, lk, hcd⟩, F.kp⟩
  · exact absurd rfl e
section
variable {P : Program} {w : World} {K : PySem.W.Frag} {h : Heap} {mg : Str → Option Value}
theorem zErr_at (c : (zErr K).all id = true) (i : Nat) {b : Bool} (e : (zErr K)[i]? = some b := by rfl) : b = true := List.all_eq_true.mp c b (List.mem_of_getElem? e)
theorem lexing_z (X : K.In h) (G : h.Ns mainGlobals mg) (c : zObs K = zVal) : Lexing P w K mg ∧ (∃ f fd, At K mg "lexed" s_lexed ["text"] f fd) ∧ (∃ CT f fd, TokTxt K mg CT f fd) ∧ (∃ C C8 R fN fN8 fR fdN fdN8 fdR mc, ErrTxt K mg C R fN fR fdN fdR mc ∧ ErrRead K C R ∧ DeepTxt K mg C8 R fN8 fR fdN8 fdR mc ∧ ErrRead K C8 R) ∧ (∃ f fd, At K mg "spelled_bytes" s_spelled_bytes ["spelling"] f fd) ∧ (∃ f fd, At K mg "refusal_answer" s_refusal_answer ["number", "place", "word"] f fd) ∧ (∃ f fd, At K mg "tokens_of" s_tokens_of ["text"] f fd) ∧ (∃ f fd, At K mg "tokens" s_tokens ["text"] f fd) ∧ ∃ t, mg "MOST_BYTES" = some (.int 65536 t) := by
  have c1 : He.SaysD zFa zFn K := congrArg (fun z : ZT => z.1) c
  have c2 : (zErr K).all id = true := congrArg (fun z : ZT => z.2) c
  have a_next_place : ∃ f fd, At K mg "next_place" s_next_place ["text", "place"] f fd := by
    obtain ⟨fd, F0⟩ := c1.def_ 0 rfl
    have F : Fun K "next_place" "next_place" s_next_place (He.ga K "next_place") fd := fun_of (st := s_next_place) F0
    exact ⟨_, fd, He.glo_ok X G (c1.fact 21 rfl), F, F.binds fun _ _ _ _ _ _ us hl => match us, hl with | [_, _], _ => rfl⟩
  have a_line_end : ∃ f fd, At K mg "line_end" s_line_end ["text", "place"] f fd := by
    obtain ⟨fd, F0⟩ := c1.def_ 1 rfl
    have F : Fun K "line_end" "line_end" s_line_end (He.ga K "line_end") fd := fun_of (st := s_line_end) F0
    exact ⟨_, fd, He.glo_ok X G (c1.fact 22 rfl), F, F.binds fun _ _ _ _ _ _ us hl => match us, hl with | [_, _], _ => rfl⟩
  have a_byte_at : ∃ f fd, At K mg "byte_at" s_byte_at ["text", "place"] f fd := by
    obtain ⟨fd, F0⟩ := c1.def_ 2 rfl
    have F : Fun K "byte_at" "byte_at" s_byte_at (He.ga K "byte_at") fd := fun_of (st := s_byte_at) F0
    exact ⟨_, fd, He.glo_ok X G (c1.fact 23 rfl), F, F.binds fun _ _ _ _ _ _ us hl => match us, hl with | [_, _], _ => rfl⟩
  have a_token_at : ∃ f fd, At K mg "token_at" s_token_at ["text", "place"] f fd := by
    obtain ⟨fd, F0⟩ := c1.def_ 3 rfl
    have F : Fun K "token_at" "token_at" s_token_at (He.ga K "token_at") fd := fun_of (st := s_token_at) F0
    exact ⟨_, fd, He.glo_ok X G (c1.fact 24 rfl), F, F.binds fun _ _ _ _ _ _ us hl => match us, hl with | [_, _], _ => rfl⟩
  have a_is_digit : ∃ f fd, At K mg "is_digit" s_is_digit ["byte"] f fd := by
    obtain ⟨fd, F0⟩ := c1.def_ 4 rfl
    have F : Fun K "is_digit" "is_digit" s_is_digit (He.ga K "is_digit") fd := fun_of (st := s_is_digit) F0
    exact ⟨_, fd, He.glo_ok X G (c1.fact 25 rfl), F, F.binds fun _ _ _ _ _ _ us hl => match us, hl with | [_], _ => rfl⟩
  have a_begins_word : ∃ f fd, At K mg "begins_word" s_begins_word ["byte"] f fd := by
    obtain ⟨fd, F0⟩ := c1.def_ 5 rfl
    have F : Fun K "begins_word" "begins_word" s_begins_word (He.ga K "begins_word") fd := fun_of (st := s_begins_word) F0
    exact ⟨_, fd, He.glo_ok X G (c1.fact 26 rfl), F, F.binds fun _ _ _ _ _ _ us hl => match us, hl with | [_], _ => rfl⟩
  have a_in_word : ∃ f fd, At K mg "in_word" s_in_word ["byte"] f fd := by
    obtain ⟨fd, F0⟩ := c1.def_ 6 rfl
    have F : Fun K "in_word" "in_word" s_in_word (He.ga K "in_word") fd := fun_of (st := s_in_word) F0
    exact ⟨_, fd, He.glo_ok X G (c1.fact 27 rfl), F, F.binds fun _ _ _ _ _ _ us hl => match us, hl with | [_], _ => rfl⟩
  have a_spelled : ∃ f fd, At K mg "spelled" s_spelled ["text", "place", "end"] f fd := by
    obtain ⟨fd, F0⟩ := c1.def_ 7 rfl
    have F : Fun K "spelled" "spelled" s_spelled (He.ga K "spelled") fd := fun_of (st := s_spelled) F0
    exact ⟨_, fd, He.glo_ok X G (c1.fact 28 rfl), F, F.binds fun _ _ _ _ _ _ us hl => match us, hl with | [_, _, _], _ => rfl⟩
  have a_bytes_token : ∃ f fd, At K mg "bytes_token" s_bytes_token ["text", "place"] f fd := by
    obtain ⟨fd, F0⟩ := c1.def_ 8 rfl
    have F : Fun K "bytes_token" "bytes_token" s_bytes_token (He.ga K "bytes_token") fd := fun_of (st := s_bytes_token) F0
    exact ⟨_, fd, He.glo_ok X G (c1.fact 29 rfl), F, F.binds fun _ _ _ _ _ _ us hl => match us, hl with | [_, _], _ => rfl⟩
  have a_half_byte : ∃ f fd, At K mg "half_byte" s_half_byte ["digit"] f fd := by
    obtain ⟨fd, F0⟩ := c1.def_ 9 rfl
    have F : Fun K "half_byte" "half_byte" s_half_byte (He.ga K "half_byte") fd := fun_of (st := s_half_byte) F0
    exact ⟨_, fd, He.glo_ok X G (c1.fact 30 rfl), F, F.binds fun _ _ _ _ _ _ us hl => match us, hl with | [_], _ => rfl⟩
  have a_word_token : ∃ f fd, At K mg "word_token" s_word_token ["text", "place"] f fd := by
    obtain ⟨fd, F0⟩ := c1.def_ 10 rfl
    have F : Fun K "word_token" "word_token" s_word_token (He.ga K "word_token") fd := fun_of (st := s_word_token) F0
    exact ⟨_, fd, He.glo_ok X G (c1.fact 31 rfl), F, F.binds fun _ _ _ _ _ _ us hl => match us, hl with | [_, _], _ => rfl⟩
  have a_quoted_token : ∃ f fd, At K mg "quoted_token" s_quoted_token ["text", "place"] f fd := by
    obtain ⟨fd, F0⟩ := c1.def_ 11 rfl
    have F : Fun K "quoted_token" "quoted_token" s_quoted_token (He.ga K "quoted_token") fd := fun_of (st := s_quoted_token) F0
    exact ⟨_, fd, He.glo_ok X G (c1.fact 32 rfl), F, F.binds fun _ _ _ _ _ _ us hl => match us, hl with | [_, _], _ => rfl⟩
  have a_text_token : ∃ f fd, At K mg "text_token" s_text_token ["text", "place"] f fd := by
    obtain ⟨fd, F0⟩ := c1.def_ 12 rfl
    have F : Fun K "text_token" "text_token" s_text_token (He.ga K "text_token") fd := fun_of (st := s_text_token) F0
    exact ⟨_, fd, He.glo_ok X G (c1.fact 33 rfl), F, F.binds fun _ _ _ _ _ _ us hl => match us, hl with | [_, _], _ => rfl⟩
  have a_quoted_end : ∃ f fd, At K mg "quoted_end" s_quoted_end ["text", "opening", "place"] f fd := by
    obtain ⟨fd, F0⟩ := c1.def_ 13 rfl
    have F : Fun K "quoted_end" "quoted_end" s_quoted_end (He.ga K "quoted_end") fd := fun_of (st := s_quoted_end) F0
    exact ⟨_, fd, He.glo_ok X G (c1.fact 34 rfl), F, F.binds fun _ _ _ _ _ _ us hl => match us, hl with | [_, _, _], _ => rfl⟩
  have a_undoubled : ∃ f fd, At K mg "undoubled" s_undoubled ["content", "sign"] f fd := by
    obtain ⟨fd, F0⟩ := c1.def_ 14 rfl
    have F : Fun K "undoubled" "undoubled" s_undoubled (He.ga K "undoubled") fd := fun_of (st := s_undoubled) F0
    exact ⟨_, fd, He.glo_ok X G (c1.fact 35 rfl), F, F.binds fun _ _ _ _ _ _ us hl => match us, hl with | [_, _], _ => rfl⟩
  have a_given_token : ∃ f fd, At K mg "given_token" s_given_token ["text", "place"] f fd := by
    obtain ⟨fd, F0⟩ := c1.def_ 15 rfl
    have F : Fun K "given_token" "given_token" s_given_token (He.ga K "given_token") fd := fun_of (st := s_given_token) F0
    exact ⟨_, fd, He.glo_ok X G (c1.fact 36 rfl), F, F.binds fun _ _ _ _ _ _ us hl => match us, hl with | [_, _], _ => rfl⟩
  have a_digits_end : ∃ f fd, At K mg "digits_end" s_digits_end ["text", "place"] f fd := by
    obtain ⟨fd, F0⟩ := c1.def_ 16 rfl
    have F : Fun K "digits_end" "digits_end" s_digits_end (He.ga K "digits_end") fd := fun_of (st := s_digits_end) F0
    exact ⟨_, fd, He.glo_ok X G (c1.fact 37 rfl), F, F.binds fun _ _ _ _ _ _ us hl => match us, hl with | [_, _], _ => rfl⟩
  have a_number_token : ∃ f fd, At K mg "number_token" s_number_token ["text", "place"] f fd := by
    obtain ⟨fd, F0⟩ := c1.def_ 17 rfl
    have F : Fun K "number_token" "number_token" s_number_token (He.ga K "number_token") fd := fun_of (st := s_number_token) F0
    exact ⟨_, fd, He.glo_ok X G (c1.fact 38 rfl), F, F.binds fun _ _ _ _ _ _ us hl => match us, hl with | [_, _], _ => rfl⟩
  have a_exponent_end : ∃ f fd, At K mg "exponent_end" s_exponent_end ["text", "place"] f fd := by
    obtain ⟨fd, F0⟩ := c1.def_ 18 rfl
    have F : Fun K "exponent_end" "exponent_end" s_exponent_end (He.ga K "exponent_end") fd := fun_of (st := s_exponent_end) F0
    exact ⟨_, fd, He.glo_ok X G (c1.fact 39 rfl), F, F.binds fun _ _ _ _ _ _ us hl => match us, hl with | [_, _], _ => rfl⟩
  have a_sign_token : ∃ f fd, At K mg "sign_token" s_sign_token ["text", "place"] f fd := by
    obtain ⟨fd, F0⟩ := c1.def_ 19 rfl
    have F : Fun K "sign_token" "sign_token" s_sign_token (He.ga K "sign_token") fd := fun_of (st := s_sign_token) F0
    exact ⟨_, fd, He.glo_ok X G (c1.fact 40 rfl), F, F.binds fun _ _ _ _ _ _ us hl => match us, hl with | [_, _], _ => rfl⟩
  have a_well_made : ∃ f fd, At K mg "well_made" s_well_made ["content"] f fd := by
    obtain ⟨fd, F0⟩ := c1.def_ 20 rfl
    have F : Fun K "well_made" "well_made" s_well_made (He.ga K "well_made") fd := fun_of (st := s_well_made) F0
    exact ⟨_, fd, He.glo_ok X G (c1.fact 41 rfl), F, F.binds fun _ _ _ _ _ _ us hl => match us, hl with | [_], _ => rfl⟩
  have a_sign_length : ∃ f fd, At K mg "sign_length" s_sign_length ["first"] f fd := by
    obtain ⟨fd, F0⟩ := c1.def_ 21 rfl
    have F : Fun K "sign_length" "sign_length" s_sign_length (He.ga K "sign_length") fd := fun_of (st := s_sign_length) F0
    exact ⟨_, fd, He.glo_ok X G (c1.fact 42 rfl), F, F.binds fun _ _ _ _ _ _ us hl => match us, hl with | [_], _ => rfl⟩
  have a_whole_sign : ∃ f fd, At K mg "whole_sign" s_whole_sign ["sign", "length"] f fd := by
    obtain ⟨fd, F0⟩ := c1.def_ 22 rfl
    have F : Fun K "whole_sign" "whole_sign" s_whole_sign (He.ga K "whole_sign") fd := fun_of (st := s_whole_sign) F0
    exact ⟨_, fd, He.glo_ok X G (c1.fact 43 rfl), F, F.binds fun _ _ _ _ _ _ us hl => match us, hl with | [_, _], _ => rfl⟩
  have a_in_shortest_form : ∃ f fd, At K mg "in_shortest_form" s_in_shortest_form ["code", "length"] f fd := by
    obtain ⟨fd, F0⟩ := c1.def_ 23 rfl
    have F : Fun K "in_shortest_form" "in_shortest_form" s_in_shortest_form (He.ga K "in_shortest_form") fd := fun_of (st := s_in_shortest_form) F0
    exact ⟨_, fd, He.glo_ok X G (c1.fact 44 rfl), F, F.binds fun _ _ _ _ _ _ us hl => match us, hl with | [_, _], _ => rfl⟩
  have a_lexed : ∃ f fd, At K mg "lexed" s_lexed ["text"] f fd := by
    obtain ⟨fd, F0⟩ := c1.def_ 24 rfl
    have F : Fun K "lexed" "lexed" s_lexed (He.ga K "lexed") fd := fun_of (st := s_lexed) F0
    exact ⟨_, fd, He.glo_ok X G (c1.fact 45 rfl), F, F.binds fun _ _ _ _ _ _ us hl => match us, hl with | [_], _ => rfl⟩
  have a_spelled_bytes : ∃ f fd, At K mg "spelled_bytes" s_spelled_bytes ["spelling"] f fd := by
    obtain ⟨fd, F0⟩ := c1.def_ 25 rfl
    have F : Fun K "spelled_bytes" "spelled_bytes" s_spelled_bytes (He.ga K "spelled_bytes") fd := fun_of (st := s_spelled_bytes) F0
    exact ⟨_, fd, He.glo_ok X G (c1.fact 46 rfl), F, F.binds fun _ _ _ _ _ _ us hl => match us, hl with | [_], _ => rfl⟩
  have a_refusal_answer : ∃ f fd, At K mg "refusal_answer" s_refusal_answer ["number", "place", "word"] f fd := by
    obtain ⟨fd, F0⟩ := c1.def_ 26 rfl
    have F : Fun K "refusal_answer" "refusal_answer" s_refusal_answer (He.ga K "refusal_answer") fd := fun_of (st := s_refusal_answer) F0
    exact ⟨_, fd, He.glo_ok X G (c1.fact 47 rfl), F, F.binds fun _ _ _ _ _ _ us hl => match us, hl with | [_, _, _], _ => rfl⟩
  have a_tokens_of : ∃ f fd, At K mg "tokens_of" s_tokens_of ["text"] f fd := by
    obtain ⟨fd, F0⟩ := c1.def_ 27 rfl
    have F : Fun K "tokens_of" "tokens_of" s_tokens_of (He.ga K "tokens_of") fd := fun_of (st := s_tokens_of) F0
    exact ⟨_, fd, He.glo_ok X G (c1.fact 48 rfl), F, F.binds fun _ _ _ _ _ _ us hl => match us, hl with | [_], _ => rfl⟩
  have a_tokens : ∃ f fd, At K mg "tokens" s_tokens ["text"] f fd := by
    obtain ⟨fd, F0⟩ := c1.def_ 28 rfl
    have F : Fun K "tokens" "tokens" s_tokens (He.ga K "tokens") fd := fun_of (st := s_tokens) F0
    exact ⟨_, fd, He.glo_ok X G (c1.fact 49 rfl), F, F.binds fun _ _ _ _ _ _ us hl => match us, hl with | [_], _ => rfl⟩
  have b1 : (He.ga K "ONE_BYTE_SIGNS" == sysModules) = false := (Bool.not_eq_true' _).mp (zErr_at c2 16)
  have b2 : (He.ga K "TWO_BYTE_SIGNS" == sysModules) = false := (Bool.not_eq_true' _).mp (zErr_at c2 17)
  obtain ⟨f1, m1⟩ := oneChk_ok (P := P) (w := w) b1 (zErr_at c2 14)
  obtain ⟨x2, m2⟩ := twoChk_ok (P := P) (w := w) b2 (zErr_at c2 15)
  refine ⟨⟨He.free_ok X G (c1.fact 0 rfl), He.free_ok X G (c1.fact 1 rfl), He.free_ok X G (c1.fact 2 rfl), He.free_ok X G (c1.fact 3 rfl), He.int_ok X G (c1.fact 4 rfl), He.int_ok X G (c1.fact 5 rfl), ⟨_, He.glo_ok X G (c1.fact 50 rfl), He.tupB_ok (zErr_at c2 13)⟩, He.int_ok X G (c1.fact 6 rfl), He.int_ok X G (c1.fact 7 rfl), He.int_ok X G (c1.fact 8 rfl), He.int_ok X G (c1.fact 9 rfl), He.int_ok X G (c1.fact 10 rfl), He.str_ok X G (c1.fact 20 rfl), He.int_ok X G (c1.fact 11 rfl), He.int_ok X G (c1.fact 12 rfl), He.int_ok X G (c1.fact 13 rfl), He.int_ok X G (c1.fact 14 rfl), He.int_ok X G (c1.fact 15 rfl), He.int_ok X G (c1.fact 16 rfl), He.int_ok X G (c1.fact 17 rfl), He.int_ok X G (c1.fact 18 rfl), ⟨_, f1, He.glo_ok X G (c1.fact 51 rfl), m1⟩, ⟨_, x2, He.glo_ok X G (c1.fact 52 rfl), m2⟩, a_next_place, a_line_end, a_byte_at, a_token_at, a_is_digit, a_begins_word, a_in_word, a_spelled, a_bytes_token, a_half_byte, a_word_token, a_quoted_token, a_text_token, a_quoted_end, a_undoubled, a_given_token, a_digits_end, a_number_token, a_exponent_end, a_sign_token, a_well_made, a_sign_length, a_whole_sign, a_in_shortest_form⟩, a_lexed, ?_, ?_, a_spelled_bytes, a_refusal_answer, a_tokens_of, a_tokens, He.int_ok X G (c1.fact 19 rfl)⟩
  · obtain ⟨fd, F0⟩ := c1.def_ 29 rfl
    have F : Fun K "__init__" "Token.__init__" s_token_init (He.ma K (He.ga K "Token") "__init__") fd := fun_of (st := s_token_init) F0
    exact ⟨_, _, fd, He.cls_ok (c1.fact 57 rfl), He.noat_ok (c1.fact 58 rfl), He.noat_ok (c1.fact 59 rfl), He.noat_ok (c1.fact 60 rfl), He.noat_ok (c1.fact 61 rfl), He.glo_ok X G (c1.fact 53 rfl), He.mkr_ok (c1.fact 62 rfl), F, F.binds fun _ _ _ _ _ _ us hl => match us, hl with | [_, _, _, _, _], _ => rfl⟩
  · obtain ⟨fdN, N0⟩ := c1.def_ 30 rfl
    obtain ⟨fdR, R0⟩ := c1.def_ 31 rfl
    obtain ⟨fdD, D0⟩ := c1.def_ 32 rfl
    have FD : Fun K "__init__" "TooDeep.__init__" s_toodeep_init (He.ma K (zD K) "__init__") fdD := fun_of (st := s_toodeep_init) D0
    have FN : Fun K "__init__" "NoToken.__init__" s_notoken_init (He.ma K (zC K) "__init__") fdN := fun_of (st := s_notoken_init) N0
    have FR : Fun K "__init__" "Refusal.__init__" s_refusal_init (He.ma K (zR K) "__init__") fdR := fun_of (st := s_refusal_init) R0
    have cv : PySem.W.findCls K (.ref (zR K)) (.type "type") "__init__" = some (.val (.ref (He.ma K (zR K) "__init__"))) := by
      have z : (match PySem.W.findCls K (.ref (zR K)) (.type "type") "__init__" with
        | some (.val (.ref a)) => decide (a = He.ma K (zR K) "__init__")
        | _ => false) = true := zErr_at c2 9
      split at z
      · rename_i a e
        rw [e, of_decide_eq_true z]
      · cases z
    refine ⟨zC K, zD K, zR K, He.ma K (zC K) "__init__", He.ma K (zD K) "__init__", He.ma K (zR K) "__init__", fdN, fdD, fdR, .type "type", ?_, ?_, ?_, ?_⟩
    · exact ⟨⟨ownChk_ok (zErr_at c2 0), He.eqO_ok (zErr_at c2 1), of_decide_eq_true (zErr_at c2 2), of_decide_eq_true (zErr_at c2 3), zErr_at c2 4⟩, He.glo_ok X G (c1.fact 54 rfl), He.eqO_ok (zErr_at c2 5), of_decide_eq_true (zErr_at c2 6),
      FN, FN.binds fun _ _ _ _ _ _ us hl => match us, hl with | [_, _], _ => rfl, He.glo_ok X G (c1.fact 55 rfl), ⟨zErr_at c2 7, He.eqO_ok (zErr_at c2 8)⟩, ⟨cv, rfl⟩, FR, FR.binds fun _ _ _ _ _ _ us hl => match us, hl with | [_, _, _, _], _ => rfl, He.eqO_ok (zErr_at c2 10), He.eqO_ok (zErr_at c2 11), He.eqO_ok (zErr_at c2 12)⟩
    · exact ⟨He.eqO_ok (zErr_at c2 18), He.eqO_ok (zErr_at c2 19), zErr_at c2 20, of_decide_eq_true (zErr_at c2 21)⟩
    · exact ⟨⟨ownChk_ok (zErr_at c2 22), He.eqO_ok (zErr_at c2 23), of_decide_eq_true (zErr_at c2 24), of_decide_eq_true (zErr_at c2 25), zErr_at c2 26⟩, He.glo_ok X G (c1.fact 56 rfl), He.eqO_ok (zErr_at c2 27), of_decide_eq_true (zErr_at c2 28),
        FD, FD.binds fun _ _ _ _ _ _ us hl => match us, hl with | [_, _], _ => rfl, He.glo_ok X G (c1.fact 55 rfl), ⟨zErr_at c2 7, He.eqO_ok (zErr_at c2 8)⟩, ⟨cv, rfl⟩, FR, FR.binds fun _ _ _ _ _ _ us hl => match us, hl with | [_, _, _, _], _ => rfl, He.eqO_ok (zErr_at c2 29), He.eqO_ok (zErr_at c2 30), He.eqO_ok (zErr_at c2 31)⟩
    · exact ⟨He.eqO_ok (zErr_at c2 32), He.eqO_ok (zErr_at c2 33), zErr_at c2 34, of_decide_eq_true (zErr_at c2 35)⟩
end
end Tk
end

section
set_option maxHeartbeats 2000000

namespace Tk
open PySem PySem.Spec PyProof.Rows L2
open Dbm (Bytes)
/-! ### the end: what is handed in, what is given back -/
/-- the promise of a def of one list of whole numbers that gives such a list: g xs, for what is asked -/
def spLL (g : List Int → List Int) (asked : List Int → Bool) (K : PySem.W.Frag) : Sp := fun vs H Q _ => ∃ (a : Addr) (xs : List Int), vs = [.ref a] ∧ OnlyF H ∧ SqL K H a (xs.map V.int) ∧ asked xs = true ∧
  ∀ H' l, SqL K H' l ((g xs).map V.int) → Q (.ref l) H'
theorem dw_ints {K : PySem.W.Frag} {H : Hp} : ∀ {l : List Int} {ys : List V}, DwAll K H ys (l.map PySem.W.WData.int) → ys = l.map V.int
  | [], _, .nil => rfl
  | i :: l, _, .cons (.int _) r => by
    rw [dw_ints r]
    rfl
theorem ints_dw {K : PySem.W.Frag} {H : Hp} : ∀ (l : List Int), DwAll K H (l.map V.int) (l.map PySem.W.WData.int)
  | [] => .nil
  | i :: l => .cons (.int i) (ints_dw l)
abbrev R0 : PySem.W.OpenSpec := PySem.Challenge.rw_strictask_s03_tokens
theorem end_z (K : PySem.W.Frag) (H : Hp) (xs : List V) (a : PySem.W.Codec.denoteAll R0.args) (hO : OnlyF H) (h1 : PySem.W.Codec.withinAll R0.args a = true) (h2 : PySem.W.Codec.app R0.args R0.asked a = true) (h3 : DwAll K H xs (PySem.W.Codec.encAll R0.args a)) :
    spLL PySi22.tokens PySi22.tokens_asked K xs H (fun v H' => Dw K H' v (R0.ret.enc (PySem.W.Codec.app R0.args R0.f a))) fun _ _ _ => False := by
  obtain ⟨l, u⟩ := a
  have h3 : DwAll K H xs [.list (l.map PySem.W.WData.int)] := h3
  cases h3 with
  | cons d r =>
    cases r with
    | nil =>
      cases d with
      | lst hS hD =>
        rename_i b ys
        have e := dw_ints hD
        subst e
        exact ⟨b, l, rfl, hO, hS, h2, fun H' c hc => Dw.lst (ds := (PySi22.tokens l).map PySem.W.WData.int) hc (ints_dw _)⟩
end Tk
end

section
set_option maxHeartbeats 2000000
namespace Tk
open PySem PySem.Spec PyProof.Rows L2
open Dbm (Bytes)
/-! ### tokens -/

/-- e.f, e the exception that the suite holds at a (class cls, one of S, dict d) -/
def tXs (S : Addr → Prop) (f : Str) (a : Addr) (cls : Value) (d : Option Addr) (te : TE) : TE := fun σ H Q => te σ H fun x H1 => x = .ref a ∧ ∃ C, S C ∧ cls = .ref C ∧ ∃ (dd : Addr) (fs : List (Str × V)) (v : V), d = some dd ∧ H1 dd = some (.xd fs) ∧ fs.lookup f = some v ∧ Q v H1
section
variable {X : Cx} {S : Addr → Prop} {R : Addr} {f : Str}
theorem pe_xs {a : Addr} {oe : Obj} {cls : Value} {d : Option Addr} {pn : List (Addr × Obj)} {e : Expr} {te : TE} {pos : Pos} (T : ∀ C, S C → ErrRead X.K C R) (exC : ∀ C, S C → PySem.W.subIn X.K (.ref C) (.type "BaseException") = some true) (noN : ∀ C, S C → PySem.W.findIn X.K (.ref C) f = some none)
    (hz : Zc cls d oe) (hf : ∃ vs, oe.data = .fields vs) (he : PE (X.suite a ((a, oe) :: pn)) e te) (hb : attributeBase e f X.env (eval e X.env) = eval e X.env := by rfl) :
    PE (X.suite a ((a, oe) :: pn)) (.Attribute e f pos) (tXs S f a cls d te) := by
  refine ⟨fun pins s σ H Q I h => attr_of hb (thn (he.run pins s σ H _ I h) fun u s1 hh => ?_)⟩
  obtain ⟨x, H1, I1, rx, ex, C, hS, ec, dd, fs, v, ed, ea, el, q⟩ := hh
  subst ex ec ed
  obtain rfl : u = Value.ref a := rx
  have ha := (I1.pin (a, oe) (List.mem_append_left _ List.mem_cons_self)).1
  obtain ⟨vs, hdat⟩ := hf
  obtain ⟨mA, hns, hr⟩ : ObjOk X.prog X.w H1 s1.heap dd (.xd fs) := I1.hok dd _ ea
  obtain ⟨od, ho, hl⟩ := lookIn_ns hns
  have rf := hr f
  rw [el] at rf
  obtain ⟨u, hu, ru⟩ := RelO.some_of (v := v) (o := mA f) rf
  have J : PySem.W.InstAt s1.heap a oe C (some od) := ⟨ha, hz.1, by unfold PySem.W.notCls; rw [hdat] <;> rfl, by rw [hz.2]; exact ho⟩
  exact HandSPX.exc_get I1.kIn J (T C hS).ga (T C hS).gg (exC C hS) (PySem.W.findObj_own (T C hS).hd (noN C hS) rfl (by rw [hl, hu])) (handed_of ru) ⟨v, H1, I1.tok _, ru, q⟩
end
/-- what tokens answers -/
def ansT (b : Bytes) : List Int := if 65536 < b.length then [8, 0] else Lx.answerOf (Lx.TK 0 b)
def spToks (K : PySem.W.Frag) : Sp := fun vs H Q _ => ∃ (a : Addr) (b : Bytes), vs = [.ref a] ∧ SqL K H a (tx b) ∧ ∀ H' p, H' p = some (.lst ((ansT b).map V.int)) → Q (.ref p) H'
def t_err (S : Addr → Prop) : Addr → Value → Option Addr → TS := fun a cls d => tRet (tCallS spAns (fun _ => E0) (tCons (tXs S "number" a cls d (tVar 2)) (tCons (tXs S "place" a cls d (tVar 2)) (tCons (tXs S "word" a cls d (tVar 2)) tNil))))
theorem sc_tokens : FnScope ["text", "found", "e", "answer", "token"] ["text"] (defScope s_tokens) := ⟨rfl, rfl, rfl, by decide +kernel, rfl, by decide +kernel, by decide +kernel⟩
section
variable {P : Program} {w : World} {K : PySem.W.Frag} {mg : Str → Option Value} {base : Heap} {C C8 R fN fN8 fR CT fT : Addr} {fdN fdN8 fdR fdT : FuncData} {mc : Value}
theorem fsN_num (n : Int) (p : Nat) : (fsN n p).lookup ("number" : Str) = some (.int n) := by
  have a : (("number" : Str) == ("word" : Str)) = false := by decide +kernel
  have b : (("number" : Str) == ("place" : Str)) = false := by decide +kernel
  have c : (("number" : Str) == ("number" : Str)) = true := beq_self_eq_true _
  unfold fsN
  simp only [List.lookup, a, b, c]
theorem fsN_place (n : Int) (p : Nat) : (fsN n p).lookup ("place" : Str) = some (.int (p : Int)) := by
  have a : (("place" : Str) == ("word" : Str)) = false := by decide +kernel
  have b : (("place" : Str) == ("place" : Str)) = true := beq_self_eq_true _
  unfold fsN
  simp only [List.lookup, a, b]
theorem fsN_word (n : Int) (p : Nat) : (fsN n p).lookup ("word" : Str) = some (.str "") := by
  have a : (("word" : Str) == ("word" : Str)) = true := beq_self_eq_true _
  unfold fsN
  simp only [List.lookup, a]
theorem fsT_kind (k p e o : V) : (fsT k p e o).lookup ("kind" : Str) = some k := by
  have a : (("kind" : Str) == ("kind" : Str)) = true := beq_self_eq_true _
  unfold fsT
  simp only [List.lookup, a]
theorem fsT_place (k p e o : V) : (fsT k p e o).lookup ("place" : Str) = some p := by
  have a : (("place" : Str) == ("kind" : Str)) = false := by decide +kernel
  have b : (("place" : Str) == ("place" : Str)) = true := beq_self_eq_true _
  unfold fsT
  simp only [List.lookup, a, b]
theorem size_ok {n : Nat} (h : n ≤ 1000000) : n < sizeLine := Nat.lt_of_le_of_lt h (by decide)
theorem Toks.at_ {CT : Addr} {H : Hp} : ∀ {xs : List Addr} {l : List (Nat × Nat)} {i : Nat} {x : Addr}, Toks CT H xs l → xs[i]? = some x → ∃ pk e, l[i]? = some pk ∧ TokAt CT H x pk.2 pk.1 e
  | y :: xs, pk :: l, 0, x, ⟨⟨e, h⟩, _⟩, q => by
    cases q
    exact ⟨pk, e, rfl, h⟩
  | y :: xs, pk :: l, i + 1, x, ⟨_, r⟩, q => Toks.at_ (i := i) r q
  | [], [], _, _, _, q => by cases q
  | [], _ :: _, _, _, z, _ => z.elim
  | _ :: _, [], _, _, z, _ => z.elim
theorem ok_tokens (L : Lexing P w K mg) {f fL fO fA fB : Addr} {fd fdL fdO fdA fdB : FuncData} {t : Tok} (F : Fun K "tokens" "tokens" s_tokens f fd) (AO : At K mg "tokens_of" s_tokens_of ["text"] fO fdO) (AA : At K mg "refusal_answer" s_refusal_answer ["number", "place", "word"] fA fdA) (AB : At K mg "spelled_bytes" s_spelled_bytes ["spelling"] fB fdB)
    (AL : At K mg "lexed" s_lexed ["text"] fL fdL) (mb : mg "MOST_BYTES" = some (.int 65536 t)) (T : ErrTxt K mg C R fN fR fdN fdR mc) (ER : ErrRead K C R) (T8 : DeepTxt K mg C8 R fN8 fR fdN8 fdR mc) (ER8 : ErrRead K C8 R) (TT : TokTxt K mg CT fT fdT) :
    FnOk P w K mg base CX0 9 f fd ["text"] (spToks K) := by
  have GT : FnOk P w K mg base (L2N.CX P w) 8 fO fdO ["text"] (spToksOf K C C8 CT) := ok_tokens_of L AO.F AL mb T T8 TT
  refine F.ok sc_tokens (fun vs H Q E h => ?_) (fun cdv A outer s H vs Q E hr h => ?_)
  · obtain ⟨a, b, rfl, _⟩ := h
    rfl
  obtain ⟨a, b, rfl, hS, k⟩ := h
  have hr2 := hr.mono (show 2 ≤ 8 by decide)
  have hT : ∀ D, (D = C ∨ D = C8) → ErrRead K D R := fun D z => z.elim (fun z => z ▸ ER) (fun z => z ▸ ER8)
  have hX : ∀ D, (D = C ∨ D = C8) → PySem.W.subIn K (.ref D) (.type "BaseException") = some true := fun D z => z.elim (fun z => z ▸ T.own.exC) (fun z => z ▸ T8.own.exC)
  have h1 : ∀ D, (D = C ∨ D = C8) → PySem.W.findIn K (.ref D) "number" = some none := fun D z => z.elim (fun z => z ▸ T.n1) (fun z => z ▸ T8.n1)
  have h2 : ∀ D, (D = C ∨ D = C8) → PySem.W.findIn K (.ref D) "place" = some none := fun D z => z.elim (fun z => z ▸ T.n2) (fun z => z ▸ T8.n2)
  have h3 : ∀ D, (D = C ∨ D = C8) → PySem.W.findIn K (.ref D) "word" = some none := fun D z => z.elim (fun z => z ▸ T.n3) (fun z => z ▸ T8.n3)
  refine ⟨_, PSs.nox (pss_cons (L2N.ps_try_as (i := 2) (tb := fun W => tAsg (tCallS (spToksOf K C C8 CT) (WE W) (tCons (tVar 0) tNil)) (gName 1)) (ts := t_err fun D => D = C ∨ D = C8) (Wout := fun _ _ _ _ => False) rfl rfl sc_tokens.nd rfl rfl ⟨rfl, by decide, Or.inl T.gR⟩ takesN0
      (fun W pn xe tk _ => pss_one (ps_set (i := 1) sc_tokens.nd rfl (.inl rfl) (by exact (pe_callS GT hr rfl AO.g AO.F.kp AO.b (fun σ => L2N.passAt tk σ) (by exact (pa_cons (pv 0) pa_nil))))))
      (fun a oe cls d pn hz hf => pss_one (ps_ret (L2H.pe_callH (E := fun _ => E0) (ok_refusal_answer AA.F AB) ⟨hr2.dp, hr2.un⟩ (hot_suite hz hf) rfl AA.g AA.F.kp AA.b (fun _ _ _ _ _ _ _ h => h.elim) (pa_cons (pe_xs hT hX h1 hz.zc hf (pv 2)) (pa_cons (pe_xs hT hX h2 hz.zc hf (pv 2)) (pa_cons (pe_xs hT hX h3 hz.zc hf (pv 2)) pa_nil)))))))
    (pss_cons (ps_set (i := 3) sc_tokens.nd rfl (.inl rfl) (pe_lst (pa_cons pe_int pa_nil)))
    (pss_cons (ps_for PassesOwn.never rfl (pi_list (pv 1)) (pg_name (i := 4) sc_tokens.nd rfl (.inl rfl))
      (pss_cons (ps_expr (pe_bm PySem.F.plainAttrs_list PySem.F.slot_list_append PySem.F.type_list_append mt_append (pv 3) (pa_cons (pe_fld (pv 4) rfl) pa_nil)))
      (pss_one (ps_expr (pe_bm PySem.F.plainAttrs_list PySem.F.slot_list_append PySem.F.type_list_append mt_append (pv 3) (pa_cons (pe_fld (pv 4) rfl) pa_nil))))))
    (pss_one (ps_ret (pv 3)))))), ?_⟩
  refine ⟨_, rfl, a, b, rfl, hS, fun hb d H1 s1 hd => ⟨true, ER8.ex, fun _ a0 _ => ?_, fun q => Bool.noConfusion q⟩, fun hb => ⟨fun l hl H1 p xs s1 hp0 hp ht => ?_, fun pl he d H1 s1 hd => ⟨true, ER.ex, fun _ a0 _ => ?_, fun q => Bool.noConfusion q⟩⟩⟩
  · refine ⟨_, rfl, rfl, C8, .inr rfl, rfl, d, fsN 8 0, _, rfl, hd, fsN_num 8 0, _, rfl, rfl, C8, .inr rfl, rfl, d, fsN 8 0, _, rfl, hd, fsN_place 8 0, _, rfl, rfl, C8, .inr rfl, rfl, d, fsN 8 0, _, rfl, hd, fsN_word 8 0, ?_⟩
    refine ⟨8, 0, rfl, fun H' q hq => k H' q ?_⟩
    rw [hq]
    unfold ansT
    rw [if_pos hb]
    rfl
  all_goals
    have hans : ansT b = Lx.answerOf (Lx.TK 0 b) := by
      unfold ansT
      rw [if_neg (by omega)]
    rw [hans] at k
  · rw [hl] at k
    have hlen := Lx.TK_len b.length 0 b l (Nat.le_refl _) hl
    refine ⟨by show 1 ≤ sizeLine; decide, fun q hq => ?_⟩
    have hpq : (upd H1 q (.lst [.int 0])) p = some (.lst (xs.map V.ref)) := same_up (o := .lst [.int 0]) (Same.refl H1) hq _ _ hp
    refine ⟨_, rfl, p, rfl, ⟨_, SqL.of hpq⟩, for_list (K := K) (a := p) (xs := xs.map V.ref)
      (fun i σ H2 => ∃ v : Option V, σ = [some (.ref a), some (.ref p), none, some (.ref q), v] ∧ H2 p = some (.lst (xs.map V.ref)) ∧ H2 q = some (.lst ((0 :: Lx.toldPairs (l.take i)).map V.int)) ∧ Toks CT H2 xs l ∧ q ≠ p)
      ⟨none, rfl, hpq, upd_same, ht.imp fun _ _ _ _ z => z.same (same_up (Same.refl H1) hq), fun z => by rw [z, hp] at hq; cases hq⟩ (fun i σ H2 _ ⟨_, _, z, _⟩ => SqL.of z) ?_ ?_⟩
    · rintro i y σ H2 hi ⟨v, rfl, hp2, hq2, ht2, hne⟩
      rw [List.getElem?_map] at hi
      obtain ⟨x, hx, rfl⟩ := Option.map_eq_some_iff.mp hi
      obtain ⟨pk, e, hpk, hta⟩ := ht2.at_ hx
      have hil : i < l.length := (List.getElem?_eq_some_iff.mp hpk).1
      obtain ⟨dx, wo, hins⟩ := id hta
      have sz : ((0 :: Lx.toldPairs (l.take i)).map V.int).length = 1 + 2 * i := by
        rw [List.length_map, List.length_cons, Lx.told_len, List.length_take]
        omega
      refine ⟨_, rfl, .inl ⟨rfl, _, SqL.of hq2⟩, _, rfl, x, CT, dx, _, _, rfl, hins, TT.cl, TT.n2, fsT_place _ _ _ _, q, _, _, rfl, rfl, hq2, ?_, ?_⟩
      · rw [sz]
        exact size_ok (by omega)
      · have hta3 := hta.past (o := .lst ((0 :: Lx.toldPairs (l.take i)).map V.int ++ [.int (pk.1 : Int)])) hq2
        obtain ⟨dx3, wo3, hins3⟩ := id hta3
        have hq3 : (upd H2 q (.lst ((0 :: Lx.toldPairs (l.take i)).map V.int ++ [.int (pk.1 : Int)]))) q = some (.lst ((0 :: Lx.toldPairs (l.take i)).map V.int ++ [.int (pk.1 : Int)])) := upd_same
        refine ⟨_, rfl, .inl ⟨rfl, _, SqL.of hq3⟩, _, rfl, x, CT, dx3, _, _, rfl, hins3, TT.cl, TT.n1, fsT_kind _ _ _ _, q, _, _, rfl, rfl, hq3, ?_, ?_⟩
        · rw [List.length_append, sz]
          exact size_ok (by show 1 + 2 * i + 1 ≤ 1000000; omega)
        · refine ⟨_, rfl, ?_, ?_, (ht2.imp fun _ _ _ _ z => z.past hq2).imp fun _ _ _ _ z => z.past hq3, hne⟩
          · rw [upd_ne (Ne.symm hne), upd_ne (Ne.symm hne)]
            exact hp2
          · rw [upd_same, Lx.told_take hpk, List.append_assoc]
            show _ = some (HO.lst (List.map V.int ((0 :: Lx.toldPairs (l.take i)) ++ [(pk.1 : Int), (pk.2 : Int)])))
            rw [List.map_append]
            rfl
    · rintro σ H2 ⟨v, rfl, hp2, hq2, ht2, hne⟩
      rw [List.length_map, ht2.len, List.take_length] at hq2
      exact ⟨_, rfl, k _ q hq2⟩
  · rw [he] at k
    refine ⟨_, rfl, rfl, C, .inl rfl, rfl, d, fsN 1 pl, _, rfl, hd, fsN_num 1 pl, _, rfl, rfl, C, .inl rfl, rfl, d, fsN 1 pl, _, rfl, hd, fsN_place 1 pl, _, rfl, rfl, C, .inl rfl, rfl, d, fsN 1 pl, _, rfl, hd, fsN_word 1 pl, ?_⟩
    refine ⟨1, (pl : Int), rfl, fun H' q hq => k H' q ?_⟩
    rw [hq]
    rfl
end
end Tk
end

section
set_option maxHeartbeats 2000000

namespace Tk
open PySem PySem.Spec PyProof.Rows L2
open Dbm (Bytes)
theorem end_tokens (K : PySem.W.Frag) (H : Hp) (xs : List V) (a : PySem.W.Codec.denoteAll R0.args) (hO : OnlyF H) (h1 : PySem.W.Codec.withinAll R0.args a = true) (h2 : PySem.W.Codec.app R0.args R0.asked a = true) (h3 : DwAll K H xs (PySem.W.Codec.encAll R0.args a)) :
    spToks K xs H (fun v H' => Dw K H' v (R0.ret.enc (PySem.W.Codec.app R0.args R0.f a))) fun _ _ _ => False := by
  obtain ⟨p, l, rfl, _, hS, hq, k⟩ := end_z K H xs a hO h1 h2 h3
  have hin := Lx.asked_in hq
  have hb := Lx.bytes_back hin
  have et : l.map V.int = tx (Si22Neutral.bytesOf l) := by
    unfold tx
    conv => lhs; rw [hb]
    rw [List.map_map]
    rfl
  rw [et] at hS
  refine ⟨p, _, rfl, hS, fun H' q e => k H' q ?_⟩
  have ea : PySi22.tokens l = ansT (Si22Neutral.bytesOf l) := by
    rw [Lx.tokens_is]
    unfold ansT
    rw [Lx.bytes_len]
  rw [ea]
  exact SqL.of e
end Tk
end

section
set_option maxHeartbeats 0

/-! the head: one run of the top in each of the two worlds' kinds -/
namespace Hr
open PySem PySem.W PySem.Calls PyProof.Rows Tk
abbrev R : OpenSpec := PySem.Challenge.rw_strictask_s03_tokens
abbrev qv : Program := view R.prog [57]
def nm0 : List PySem.Str := List.map PySem.Str.ofString ["_wall", "WORD", "QUOTED", "NUMBER", "TEXT", "BYTES", "GIVEN", "SIGN", "END", "Token", "Refusal", "NoToken", "TooDeep", "well_made", "sign_length", "whole_sign", "in_shortest_form", "LINE_FEED", "BLANK_BYTES", "DOUBLE_QUOTE", "DOLLAR", "QUOTE", "MINUS", "POINT", "ZERO", "SPELLING", "TWO_BYTE_SIGNS", "ONE_BYTE_SIGNS", "lexed", "next_place", "line_end", "byte_at", "token_at", "is_digit", "begins_word"]
def nm1 : List PySem.Str := List.map PySem.Str.ofString ["in_word", "spelled", "bytes_token", "half_byte", "word_token", "quoted_token", "text_token", "quoted_end", "undoubled", "given_token", "digits_end", "number_token", "exponent_end", "sign_token", "spelled_bytes", "MOST_BYTES", "refusal_answer", "tokens_of"]
def names : List PySem.Str := nm0 ++ nm1
def obZ (s : SharedT) : ZT := zObs (zK (HeadRun.getT s))
theorem runF (w : World) : HeadRun.RunEqS R qv zHook obZ 20000 names (w.withFollow "special-get-raises" false) := by
  intro os
  kernel_rfl
theorem runT (w : World) : HeadRun.RunEqS R qv zHook obZ 20000 names (w.withFollow "special-get-raises" true) := by
  intro os
  kernel_rfl
theorem run (w : World) : HeadRun.RunEqS R qv zHook obZ 20000 names w :=
  PySem.W.byRow2 "special-get-raises" (P := fun w => HeadRun.RunEqS R qv zHook obZ 20000 names w) runF runT w
theorem ob_eq (s : SharedT) : obZ s = zHook.obs s.abs := by
  have e : HeadRun.getT s = s.abs.heap.get? := funext (HeadRun.getT_eq s)
  show zObs (zK (HeadRun.getT s)) = zObs (zK s.abs.heap.get?)
  rw [e]
theorem said : R.wellSaid = true := by decide +kernel
theorem head (call : WalkOS qv names (XL qv []) zHook.says R (HeadRun.topDef R.prog 57) [] fun f vs => PySem.call f vs) : R.Holds :=
  HeadRun.head_spec (r := R) (q := qv) (H := zHook) (ob := obZ) (M := 20000) (loose := names) (d := HeadRun.topDef R.prog 57) (kwd := []) ob_eq
    (by kernel_rfl) (fun s => by kernel_rfl) run (by kernel_rfl) (by kernel_rfl) (by kernel_rfl) os_shapes said (by decide +kernel) ⟨rfl, rfl, rfl, rfl, rfl, by decide +kernel⟩ ⟨[.list []], by decide +kernel, by decide +kernel⟩ call
end Hr
end

section
set_option maxHeartbeats 2000000

namespace Hr
open PySem PySem.Spec PyProof.Rows L2 Tk
/-- the walk by such a Hook: the part of the heap is any -/
theorem walk_z {r : PySem.W.OpenSpec} {k : Nat} {q : Program} {loose : List Str} {XP : (Str → Option Value) → Heap → Prop} {d : DefRec} {CX : CXT} {ps : List Str} {sp : PySem.W.Frag → Sp}
    (hwell : r.wellSaid = true) (hdf : d.params.defaults = []) (hlen : r.args.length = ps.length) (hr : Room k callerA)
    (F : ∀ (K : PySem.W.Frag) (w : World) (mg : Str → Option Value) (fa : Addr) (h : Heap), zObs K = zVal → K.In h → h.Ns mainGlobals mg → mg d.name = some (.ref fa) →
      ∃ fd : FuncData, (∀ (s : Shared) (us : List Value), us.length = ps.length → BindsTo s fd ⟨us, []⟩ (ps.zip us)) ∧
        ∀ base : Heap, K.In base → base.Ns mainGlobals mg → FnOk r.prog w K mg base CX k fa fd ps (sp K))
    (hsp : ∀ (K : PySem.W.Frag) (H : Hp) (xs : List V) (a : PySem.W.Codec.denoteAll r.args), OnlyF H → PySem.W.Codec.withinAll r.args a = true → PySem.W.Codec.app r.args r.asked a = true → DwAll K H xs (PySem.W.Codec.encAll r.args a) →
      sp K xs H (fun v H' => Dw K H' v (r.ret.enc (PySem.W.Codec.app r.args r.f a))) fun _ _ _ => False)
    (hCX : ∀ (H : Hp) (s : Shared) (e : Value) (s' : Shared), CX [] H s (fun _ _ _ => False) e s' → False) :
    PySem.W.WalkOS q loose XP zHook.says r d [] (fun f vs => PySem.call f vs) := by
  intro w s0 s1 mg mb G Y
  obtain ⟨K, hK, c⟩ := Y
  exact walk_spec (K := fun _ => K) (YP := fun _ h => K.In h ∧ zObs K = zVal) (CX := fun _ => CX) (sp := fun _ => sp K) hwell hdf hlen hr (fun _ _ y => y.1) (fun w mg fa h y X G e => F K w mg fa h y.2 X G e) (fun _ H xs a h1 h2 h3 h4 => hsp K H xs a h1 h2 h3 h4) (fun _ H s e s' => hCX H s e s') w s0 s1 mg mb G ⟨hK, c⟩
theorem binds_of {K : PySem.W.Frag} {f : Addr} {fd : FuncData} (F : Fun K "tokens" "tokens" s_tokens f fd) (s : Shared) (us : List Value) (hu : us.length = (["text"] : List Str).length) : BindsTo s fd ⟨us, []⟩ ((["text"] : List Str).zip us) := by
  obtain ⟨oc, od, kV, doc, pm, an, cdv, ct, osl, rfl, lk, hcd⟩ := F.ex
  exact match us, hu with | [_], _ => .of_eq rfl
theorem call_tokens : PySem.W.WalkOS qv names (PySem.W.XL qv []) zHook.says R (HeadRun.topDef R.prog 57) [] fun f vs => PySem.call f vs := by
  refine walk_z (r := R) (k := 9) (CX := CX0) (ps := ["text"]) (sp := spToks) said rfl rfl ⟨rfl, by decide, by decide⟩ (fun K w mg fa h c X G e => ?_) (fun K H xs a h1 h2 h3 h4 => end_tokens K H xs a h1 h2 h3 h4) (fun _ _ _ _ z => z)
  have hn : (HeadRun.topDef R.prog 57).name = ("tokens" : Str) := by kernel_rfl
  rw [hn] at e
  obtain ⟨L, ⟨fL, fdL, AL⟩, ⟨CT, fT, fdT, TT⟩, ⟨C, C8, Rf, fN, fN8, fR, fdN, fdN8, fdR, mc, T, ER, T8, ER8⟩, ⟨fB, fdB, AB⟩, ⟨fA, fdA, AA⟩, ⟨fO, fdO, AO⟩, ⟨f, fd, AT⟩, ⟨t, mb⟩⟩ := lexing_z (P := R.prog) (w := w) X G c
  have ef := e.symm.trans AT.g
  cases ef
  exact ⟨fd, binds_of AT.F, fun base _ _ => ok_tokens L AT.F AO AA AB AL mb T ER T8 ER8 TT⟩
end Hr
theorem PySem.Challenge.cw_strictask_s03_tokens_holds : PySem.Challenge.rw_strictask_s03_tokens.Holds :=
  Hr.head Hr.call_tokens

end
