import PyProof.Rows.All
import Wide.All
import OpenK.AllK
import Wide.FinOn
import Open.SpecLaws
import KE.OsGo
import HandS.ForSpec
import HandS.ForMost
import HandS.Wide
import HandS.Deep
import HandS.DeepEq
import HandS.FStr
import HandS.Style
import HandS.Walk
import HandS.Strs
import HandS.SetFor
import HandS.Rev
import PyAl09
import PySem.Challenge.RW_tablesalike_s10_simple
set_option Elab.async false
set_option linter.all false
/-! Polynomials in one letter as lists of fractions: the ring that the specification's functions make. -/
namespace Ma
open AlOne

/-- the number at power i -/
def co (p : List Rat) (i : Nat) : Rat := p.getD i 0
/-- without zeros at the end -/
def Tr (p : List Rat) : Prop := trim p = p

theorem co_nil (i : Nat) : co [] i = 0 := by simp [co]
theorem co_zero (c : Rat) (p : List Rat) : co (c :: p) 0 = c := by simp [co]
theorem co_succ (c : Rat) (p : List Rat) (i : Nat) : co (c :: p) (i + 1) = co p i := by simp [co]

theorem trim_cons (c : Rat) (l : List Rat) : trim (c :: l) = if trim l = [] then (if c = 0 then [] else [c]) else c :: trim l := by
  show (match trim l with | [] => if c = 0 then [] else [c] | t => c :: t) = _
  cases h : trim l with
  | nil => simp
  | cons a b => simp

theorem co_trim : ∀ (l : List Rat) (i : Nat), co (trim l) i = co l i
  | [], i => by simp [trim]
  | c :: l, i => by
    rw [trim_cons]
    have ih := co_trim l
    split
    · rename_i h
      rw [h] at ih
      split
      · rename_i hc
        cases i with
        | zero => simp [co, hc]
        | succ i => rw [co_succ, ← ih, co_nil, co_nil]
      · cases i with
        | zero => simp [co]
        | succ i => rw [co_succ, co_succ, ← ih]
    · cases i with
      | zero => simp [co]
      | succ i => rw [co_succ, co_succ, ih]

theorem tr_trim : ∀ (l : List Rat), Tr (trim l)
  | [] => rfl
  | c :: l => by
    have ih := tr_trim l
    unfold Tr at *
    rw [trim_cons]
    split
    · split
      · rfl
      · rename_i hc
        rw [trim_cons]; simp [trim, hc]
    · rename_i h
      rw [trim_cons, ih, if_neg h]

theorem tr_nil : Tr [] := rfl

theorem tr_tail {c : Rat} {l : List Rat} (h : Tr (c :: l)) : Tr l := by
  unfold Tr at *
  rw [trim_cons] at h
  split at h
  · rename_i h0
    split at h
    · simp at h
    · simp only [List.cons.injEq, true_and] at h
      rw [h0, ← h]
  · simp only [List.cons.injEq, true_and] at h
    exact h

theorem tr_cons {c : Rat} {l : List Rat} (h : Tr l) (h2 : l = [] → c ≠ 0) : Tr (c :: l) := by
  unfold Tr at *
  rw [trim_cons, h]
  split
  · rename_i e; simp [h2 e, e]
  · rfl

theorem tr_one_ne {c : Rat} (h : Tr [c]) : c ≠ 0 := by
  intro e
  unfold Tr at h
  rw [trim_cons] at h
  simp [trim, e] at h

theorem tr_zero_of : ∀ {p : List Rat}, Tr p → (∀ i, co p i = 0) → p = []
  | [], _, _ => rfl
  | c :: l, h, hz => by
    have hl := tr_zero_of (tr_tail h) (fun i => by rw [← co_succ c l i]; exact hz _)
    subst hl
    exact absurd (by have := hz 0; rwa [co_zero] at this) (tr_one_ne h)

theorem ext : ∀ {p q : List Rat}, Tr p → Tr q → (∀ i, co p i = co q i) → p = q
  | [], q, _, hq, h => (tr_zero_of hq (fun i => by rw [← h i, co_nil])).symm
  | c :: p, [], hp, _, h => tr_zero_of hp (fun i => by rw [h i, co_nil])
  | c :: p, d :: q, hp, hq, h => by
    have e0 : c = d := by have := h 0; rwa [co_zero, co_zero] at this
    have e1 : p = q := ext (tr_tail hp) (tr_tail hq) (fun i => by have := h (i + 1); rwa [co_succ, co_succ] at this)
    rw [e0, e1]

theorem co_addRaw : ∀ (p q : List Rat) (i : Nat), co (addRaw p q) i = co p i + co q i
  | [], q, i => by simp [addRaw, co_nil, Rat.zero_add]
  | c :: p, [], i => by simp [addRaw, co_nil, Rat.add_zero]
  | c :: p, d :: q, 0 => by simp [addRaw, co]
  | c :: p, d :: q, i + 1 => by
    show co ((c + d) :: addRaw p q) (i + 1) = _
    rw [co_succ, co_succ, co_succ]
    exact co_addRaw p q i

theorem co_add (p q : List Rat) (i : Nat) : co (add p q) i = co p i + co q i := by
  unfold add; rw [co_trim, co_addRaw]

theorem co_map (c : Rat) : ∀ (p : List Rat) (i : Nat), co (p.map fun (x : Rat) => c * x) i = c * co p i
  | [], i => by simp [co_nil]
  | d :: p, 0 => by simp [co]
  | d :: p, i + 1 => by simp only [List.map_cons, co_succ]; exact co_map c p i

theorem co_scale (c : Rat) (p : List Rat) (i : Nat) : co (scale c p) i = c * co p i := by
  unfold scale; rw [co_trim, co_map]

theorem co_neg (p : List Rat) (i : Nat) : co (neg p) i = - co p i := by
  unfold neg; rw [co_scale]; grind

theorem co_sub (p q : List Rat) (i : Nat) : co (sub p q) i = co p i - co q i := by
  unfold sub; rw [co_add, co_neg]; grind

theorem tr_add (p q : List Rat) : Tr (add p q) := tr_trim _
theorem tr_scale (c : Rat) (p : List Rat) : Tr (scale c p) := tr_trim _
theorem tr_neg (p : List Rat) : Tr (neg p) := tr_trim _
theorem tr_sub (p q : List Rat) : Tr (sub p q) := tr_trim _

theorem mul_cons (c : Rat) (p q : List Rat) : mul (c :: p) q = if mul p q = [] then scale c q else add (scale c q) (0 :: mul p q) := by
  show (match mul p q with | [] => scale c q | r => add (scale c q) (0 :: r)) = _
  cases h : mul p q with
  | nil => simp
  | cons a b => simp

theorem tr_mul : ∀ (p q : List Rat), Tr (mul p q)
  | [], _ => rfl
  | c :: p, q => by rw [mul_cons]; split <;> exact tr_trim _

/-- moved up by one power -/
def sh (f : Nat → Rat) : Nat → Rat
  | 0 => 0
  | i + 1 => f i

def M : List Rat → (Nat → Rat) → Nat → Rat
  | [], _, _ => 0
  | c :: p, f, i => c * f i + sh (M p f) i

theorem co_mul : ∀ (p q : List Rat) (i : Nat), co (mul p q) i = M p (co q) i
  | [], q, i => by simp [mul, M, co_nil]
  | c :: p, q, i => by
    rw [mul_cons]
    have ih := co_mul p q
    show _ = c * co q i + sh (M p (co q)) i
    split
    · rename_i h
      rw [co_scale]
      have : sh (M p (co q)) i = 0 := by
        cases i with
        | zero => rfl
        | succ i => show M p (co q) i = 0; rw [← ih, h, co_nil]
      grind
    · rw [co_add, co_scale]
      have : co (0 :: mul p q) i = sh (M p (co q)) i := by
        cases i with
        | zero => rfl
        | succ i => rw [co_succ, ih]; rfl
      rw [this]

theorem M_add : ∀ (p : List Rat) (f g : Nat → Rat) (i : Nat), M p (fun j => f j + g j) i = M p f i + M p g i
  | [], _, _, _ => by simp [M, Rat.add_zero]
  | c :: p, f, g, 0 => by simp only [M, sh]; grind
  | c :: p, f, g, i + 1 => by simp only [M, sh]; rw [M_add p f g i]; grind

theorem M_scale : ∀ (p : List Rat) (a : Rat) (f : Nat → Rat) (i : Nat), M p (fun j => a * f j) i = a * M p f i
  | [], a, _, _ => by simp [M]
  | c :: p, a, f, 0 => by simp only [M, sh]; grind
  | c :: p, a, f, i + 1 => by simp only [M, sh]; rw [M_scale p a f i]; grind

theorem M_sh : ∀ (p : List Rat) (f : Nat → Rat) (i : Nat), M p (sh f) i = sh (M p f) i
  | [], _, 0 => rfl
  | [], _, _ + 1 => rfl
  | c :: p, f, 0 => by simp only [M, sh]; grind
  | c :: p, f, i + 1 => by
    show c * f i + M p (sh f) i = c * f i + sh (M p f) i
    rw [M_sh p f i]

def delta : Nat → Rat
  | 0 => 1
  | _ + 1 => 0

theorem M_delta : ∀ (p : List Rat) (i : Nat), M p delta i = co p i
  | [], i => by simp [M, co_nil]
  | c :: p, 0 => by simp only [M, sh, delta, co_zero]; grind
  | c :: p, i + 1 => by
    show c * 0 + M p delta i = _
    rw [M_delta p i, co_succ]; grind

theorem co_cons_eq (c : Rat) (p : List Rat) : co (c :: p) = fun j => (c * delta j) + sh (co p) j := by
  funext j
  cases j with
  | zero => simp only [co_zero, delta, sh]; grind
  | succ j => simp only [co_succ, delta, sh]; grind

theorem M_comm : ∀ (p q : List Rat) (i : Nat), M p (co q) i = M q (co p) i
  | [], q, i => by
    show 0 = M q (co []) i
    have : co [] = fun j => (0 : Rat) * delta j := by funext j; rw [co_nil]; grind
    rw [this, M_scale]; grind
  | c :: p, q, i => by
    rw [co_cons_eq c p, M_add, M_scale, M_delta, M_sh]
    show c * co q i + sh (M p (co q)) i = _
    have : M p (co q) = M q (co p) := by funext j; exact M_comm p q j
    rw [this]

theorem mul_comm (p q : List Rat) : mul p q = mul q p :=
  ext (tr_mul _ _) (tr_mul _ _) fun i => by rw [co_mul, co_mul, M_comm]

theorem M_assoc : ∀ (p q r : List Rat) (i : Nat), M (mul p q) (co r) i = M p (M q (co r)) i
  | [], q, r, i => rfl
  | c :: p, q, r, i => by
    rw [M_comm (mul (c :: p) q) r]
    have e : co (mul (c :: p) q) = fun j => (c * co q j) + sh (co (mul p q)) j := by
      funext j
      rw [co_mul]
      show c * co q j + sh (M p (co q)) j = _
      have : M p (co q) = co (mul p q) := by funext k; rw [co_mul]
      rw [this]
    rw [e, M_add, M_scale, M_sh]
    show _ = c * M q (co r) i + sh (M p (M q (co r))) i
    rw [M_comm r q]
    have : M r (co (mul p q)) = M p (M q (co r)) := by
      funext k; rw [M_comm, M_assoc p q r k]
    rw [this]

theorem mul_assoc (p q r : List Rat) : mul (mul p q) r = mul p (mul q r) :=
  ext (tr_mul _ _) (tr_mul _ _) fun i => by
    rw [co_mul, co_mul, M_assoc]
    have : co (mul q r) = M q (co r) := by funext k; rw [co_mul]
    rw [this]

theorem mul_add (p q r : List Rat) : mul p (add q r) = add (mul p q) (mul p r) :=
  ext (tr_mul _ _) (tr_add _ _) fun i => by
    rw [co_mul, co_add, co_mul, co_mul, ← M_add]
    have : co (add q r) = fun j => co q j + co r j := by funext k; rw [co_add]
    rw [this]

theorem co_one (i : Nat) : co one i = delta i := by
  cases i with
  | zero => rfl
  | succ i => simp [one, co, delta]

theorem mul_one {p : List Rat} (h : Tr p) : mul p one = p :=
  ext (tr_mul _ _) h fun i => by
    rw [co_mul]
    have : co one = delta := by funext k; rw [co_one]
    rw [this, M_delta]

/-- **The ring**: lists without zeros at the end -/
def P := { p : List Rat // Tr p }

namespace P
instance : Add P := ⟨fun p q => ⟨add p.1 q.1, tr_add _ _⟩⟩
instance : Mul P := ⟨fun p q => ⟨mul p.1 q.1, tr_mul _ _⟩⟩
instance : Neg P := ⟨fun p => ⟨neg p.1, tr_neg _⟩⟩
instance : Sub P := ⟨fun p q => ⟨sub p.1 q.1, tr_sub _ _⟩⟩
def cst (c : Rat) : P := ⟨trim [c], tr_trim _⟩
instance (n : Nat) : OfNat P n := ⟨cst (n : Rat)⟩
instance : NatCast P := ⟨fun n => cst (n : Rat)⟩
instance : IntCast P := ⟨fun n => cst (n : Rat)⟩
instance : SMul Nat P := ⟨fun n p => ⟨scale (n : Rat) p.1, tr_scale _ _⟩⟩
instance : SMul Int P := ⟨fun n p => ⟨scale (n : Rat) p.1, tr_scale _ _⟩⟩
def npow (p : P) : Nat → P
  | 0 => cst 1
  | n + 1 => npow p n * p
instance : HPow P Nat P := ⟨npow⟩

def c (p : P) (i : Nat) : Rat := co p.1 i
theorem ext' {p q : P} (h : ∀ i, p.c i = q.c i) : p = q := Subtype.ext (ext p.2 q.2 h)
theorem c_add (p q : P) (i : Nat) : (p + q).c i = p.c i + q.c i := co_add _ _ _
theorem c_neg (p : P) (i : Nat) : (-p).c i = - p.c i := co_neg _ _
theorem c_sub (p q : P) (i : Nat) : (p - q).c i = p.c i - q.c i := co_sub _ _ _
theorem c_cst (a : Rat) (i : Nat) : (cst a).c i = a * delta i := by
  show co (trim [a]) i = _
  rw [co_trim]
  cases i with
  | zero => rw [co_zero]; simp only [delta]; grind
  | succ i => rw [co_succ, co_nil]; simp only [delta]; grind
theorem c_smulN (n : Nat) (p : P) (i : Nat) : (n • p).c i = (n : Rat) * p.c i := co_scale _ _ _
theorem c_smulZ (n : Int) (p : P) (i : Nat) : (n • p).c i = (n : Rat) * p.c i := co_scale _ _ _
theorem c_mul (p q : P) (i : Nat) : (p * q).c i = M p.1 q.c i := co_mul _ _ _

theorem mul_cst (p : P) (a : Rat) (i : Nat) : (p * cst a).c i = a * p.c i := by
  rw [c_mul]
  have : (cst a).c = fun j => a * delta j := by funext j; rw [c_cst]
  rw [this, M_scale, M_delta]; rfl

instance : Lean.Grind.CommRing P where
  add_zero a := ext' fun i => by rw [c_add]; show _ + (cst ((0 : Nat) : Rat)).c i = _; rw [c_cst]; simp [Rat.add_zero]
  add_comm a b := ext' fun i => by rw [c_add, c_add]; grind
  add_assoc a b c := ext' fun i => by simp only [c_add]; grind
  mul_assoc a b c := Subtype.ext (Ma.mul_assoc _ _ _)
  mul_comm a b := Subtype.ext (Ma.mul_comm _ _)
  mul_one a := ext' fun i => by show (a * cst ((1 : Nat) : Rat)).c i = _; rw [mul_cst]; simp
  one_mul a := ext' fun i => by
    have : (1 : P) * a = a * 1 := Subtype.ext (Ma.mul_comm _ _)
    rw [this]; show (a * cst ((1 : Nat) : Rat)).c i = _; rw [mul_cst]; simp
  left_distrib a b c := Subtype.ext (Ma.mul_add _ _ _)
  right_distrib a b c := by
    have e1 : (a + b) * c = c * (a + b) := Subtype.ext (Ma.mul_comm _ _)
    have e2 : a * c = c * a := Subtype.ext (Ma.mul_comm _ _)
    have e3 : b * c = c * b := Subtype.ext (Ma.mul_comm _ _)
    rw [e1, e2, e3]; exact Subtype.ext (Ma.mul_add _ _ _)
  zero_mul a := ext' fun i => by
    have : (0 : P) * a = a * 0 := Subtype.ext (Ma.mul_comm _ _)
    rw [this]; show (a * cst ((0 : Nat) : Rat)).c i = (cst ((0 : Nat) : Rat)).c i; rw [mul_cst, c_cst]; simp
  mul_zero a := ext' fun i => by
    show (a * cst ((0 : Nat) : Rat)).c i = (cst ((0 : Nat) : Rat)).c i; rw [mul_cst, c_cst]; simp
  pow_zero a := rfl
  pow_succ a n := rfl
  nsmul := ⟨fun n p => ⟨scale (n : Rat) p.1, tr_scale _ _⟩⟩
  nsmul_eq_natCast_mul n a := ext' fun i => by
    have : ((n : P)) * a = a * (n : P) := Subtype.ext (Ma.mul_comm _ _)
    rw [this]; show (n • a).c i = (a * cst ((n : Nat) : Rat)).c i
    rw [mul_cst, c_smulN]
  ofNat_succ n := ext' fun i => by
    rw [c_add]; show (cst ((n + 1 : Nat) : Rat)).c i = (cst ((n : Nat) : Rat)).c i + (cst ((1 : Nat) : Rat)).c i
    rw [c_cst, c_cst, c_cst]; simp; grind
  ofNat_eq_natCast n := rfl
  neg_add_cancel a := ext' fun i => by
    rw [c_add, c_neg]; show _ = (cst ((0 : Nat) : Rat)).c i; rw [c_cst]; simp; grind
  sub_eq_add_neg a b := ext' fun i => by rw [c_sub, c_add, c_neg]; grind
  zsmul := ⟨fun n p => ⟨scale (n : Rat) p.1, tr_scale _ _⟩⟩
  zsmul_natCast_eq_nsmul n a := rfl
  neg_zsmul n a := ext' fun i => by
    rw [c_neg]; show (((-n : Int)) • a).c i = - ((n • a).c i); rw [c_smulZ, c_smulZ]; simp; grind
  intCast_ofNat n := rfl
  intCast_neg n := ext' fun i => by
    rw [c_neg]; show (cst (((-n : Int)) : Rat)).c i = - (cst ((n : Int) : Rat)).c i; rw [c_cst, c_cst]; simp; grind

example (a b c : P) : (a + b) * c - b * c = a * c := by grind
end P
end Ma
/-! Degrees, division, what two have in common: the specification's functions by what they are. -/
namespace Ma
open AlOne

theorem pos_len {l : List Rat} (h : l ≠ []) : 0 < l.length := by
  cases l with
  | nil => exact absurd rfl h
  | cons a b => simp

theorem co_ge {p : List Rat} {i : Nat} (h : p.length ≤ i) : co p i = 0 := by
  unfold co; simp [List.getD_eq_getElem?_getD, List.getElem?_eq_none h]

theorem lead_eq : ∀ (p : List Rat), lead p = co p (p.length - 1)
  | [] => rfl
  | [c] => rfl
  | c :: d :: p => by
    have := lead_eq (d :: p)
    show (c :: d :: p).getLastD 0 = _
    have e : (c :: d :: p).getLastD 0 = (d :: p).getLastD 0 := by simp
    rw [e]
    show lead (d :: p) = _
    rw [this]
    show co (d :: p) p.length = co (c :: d :: p) (p.length + 1)
    rw [co_succ]

theorem lead_ne : ∀ {p : List Rat}, Tr p → p ≠ [] → lead p ≠ 0
  | [], _, h => absurd rfl h
  | [c], h, _ => by
    show c ≠ 0
    exact tr_one_ne h
  | c :: d :: p, h, _ => by
    have := lead_ne (tr_tail h) (by simp)
    have e : lead (c :: d :: p) = lead (d :: p) := by
      show (c :: d :: p).getLastD 0 = (d :: p).getLastD 0
      simp
    rw [e]; exact this

theorem tr_of_lead {p : List Rat} (h : p ≠ [] → lead p ≠ 0) : Tr p := by
  induction p with
  | nil => rfl
  | cons c l ih =>
    cases l with
    | nil => exact tr_cons tr_nil (fun _ => h (by simp))
    | cons d l =>
      refine tr_cons (ih fun _ => ?_) (by simp)
      have := h (by simp)
      have e : lead (c :: d :: l) = lead (d :: l) := by
        show (c :: d :: l).getLastD 0 = (d :: l).getLastD 0
        simp
      rwa [e] at this

/-- the length from the numbers -/
theorem len_le {p : List Rat} (hp : Tr p) {n : Nat} (h : ∀ i, n ≤ i → co p i = 0) : p.length ≤ n := by
  apply Classical.byContradiction
  intro hn
  have hne : p ≠ [] := by intro e; subst e; simp at hn
  have := lead_ne hp hne
  rw [lead_eq] at this
  exact this (h _ (by omega))

theorem len_eq {p : List Rat} (hp : Tr p) {n : Nat} (h : ∀ i, n < i → co p i = 0) (hn : co p n ≠ 0) : p.length = n + 1 := by
  have h1 := len_le hp (n := n + 1) (fun i hi => h i (by omega))
  have h2 : ¬ p.length ≤ n := fun hle => hn (co_ge hle)
  omega

theorem M_top : ∀ (p q : List Rat), p ≠ [] → q ≠ [] →
    (∀ i, p.length + q.length - 1 ≤ i → M p (co q) i = 0) ∧ M p (co q) (p.length + q.length - 2) = lead p * lead q
  | [], _, h, _ => absurd rfl h
  | [c], q, _, hq => by
    have hl : 0 < q.length := pos_len hq
    refine ⟨fun i hi => ?_, ?_⟩
    · show c * co q i + sh (M [] (co q)) i = 0
      rw [co_ge (by simp at hi; omega)]
      cases i <;> simp [sh, M] <;> grind
    · show c * co q _ + sh (M [] (co q)) _ = lead [c] * lead q
      have e : ([c] : List Rat).length + q.length - 2 = q.length - 1 := by simp; omega
      rw [e, ← lead_eq]
      have : sh (M [] (co q)) (q.length - 1) = 0 := by cases (q.length - 1) <;> rfl
      rw [this]
      show c * lead q + 0 = c * lead q
      grind
  | c :: d :: p, q, _, hq => by
    have hl : 0 < q.length := pos_len hq
    have ih := M_top (d :: p) q (by simp) hq
    refine ⟨fun i hi => ?_, ?_⟩
    · show c * co q i + sh (M (d :: p) (co q)) i = 0
      simp only [List.length_cons] at hi
      rw [co_ge (show q.length ≤ i by omega)]
      cases i with
      | zero => omega
      | succ i =>
        show c * 0 + M (d :: p) (co q) i = 0
        rw [ih.1 i (by simp only [List.length_cons]; omega)]; grind
    · have e : (c :: d :: p).length + q.length - 2 = ((d :: p).length + q.length - 2) + 1 := by simp only [List.length_cons]; omega
      rw [e]
      show c * co q _ + M (d :: p) (co q) ((d :: p).length + q.length - 2) = _
      rw [co_ge (by simp only [List.length_cons]; omega), ih.2]
      have e2 : lead (c :: d :: p) = lead (d :: p) := by
        show (c :: d :: p).getLastD 0 = (d :: p).getLastD 0
        simp
      rw [e2]; grind

theorem len_mul {p q : List Rat} (hp : Tr p) (hq : Tr q) (np : p ≠ []) (nq : q ≠ []) :
    (mul p q).length = p.length + q.length - 1 ∧ lead (mul p q) = lead p * lead q := by
  have t := M_top p q np nq
  have l1 : 0 < p.length := pos_len np
  have l2 : 0 < q.length := pos_len nq
  have e : (mul p q).length = (p.length + q.length - 2) + 1 := by
    refine len_eq (tr_mul p q) (fun i hi => ?_) ?_
    · rw [co_mul]; exact t.1 i (by omega)
    · rw [co_mul, t.2]
      have h1 := lead_ne hp np
      have h2 := lead_ne hq nq
      intro h0
      rcases Rat.mul_eq_zero.mp h0 with h | h
      · exact h1 h
      · exact h2 h
  refine ⟨by omega, ?_⟩
  rw [lead_eq, e]
  show co (mul p q) (p.length + q.length - 2) = _
  rw [co_mul, t.2]

theorem mul_nil (p : List Rat) : mul p [] = [] := by rw [mul_comm]; rfl
theorem nil_mul (p : List Rat) : mul [] p = [] := rfl

theorem mul_ne {p q : List Rat} (hp : Tr p) (hq : Tr q) (np : p ≠ []) (nq : q ≠ []) : mul p q ≠ [] := by
  intro h
  have := (len_mul hp hq np nq).1
  rw [h] at this
  have l1 : 0 < p.length := pos_len np
  have l2 : 0 < q.length := pos_len nq
  simp at this; omega

theorem len_sub_le (p q : List Rat) : (sub p q).length ≤ max p.length q.length := by
  refine len_le (tr_sub _ _) (fun i hi => ?_)
  rw [co_sub, co_ge (show p.length ≤ i by omega), co_ge (show q.length ≤ i by omega)]; grind

theorem len_add_le (p q : List Rat) : (add p q).length ≤ max p.length q.length := by
  refine len_le (tr_add _ _) (fun i hi => ?_)
  rw [co_add, co_ge (show p.length ≤ i by omega), co_ge (show q.length ≤ i by omega)]; grind

namespace P
theorem zero_val : (0 : P).1 = [] := by
  show trim [((0 : Nat) : Rat)] = []
  rw [trim_cons]; simp [trim]
theorem one_val : (1 : P).1 = one := by
  show trim [((1 : Nat) : Rat)] = [1]
  rw [trim_cons]; simp [trim]
theorem eq_zero_iff {p : P} : p = 0 ↔ p.1 = [] := by
  constructor
  · intro h; rw [h, zero_val]
  · intro h; exact Subtype.ext (by rw [h, zero_val])
theorem val_add (p q : P) : (p + q).1 = add p.1 q.1 := rfl
theorem val_mul (p q : P) : (p * q).1 = mul p.1 q.1 := rfl
theorem val_sub (p q : P) : (p - q).1 = sub p.1 q.1 := rfl
theorem val_neg (p : P) : (-p).1 = neg p.1 := rfl
theorem mul_ne_zero {p q : P} (hp : p ≠ 0) (hq : q ≠ 0) : p * q ≠ 0 := by
  rw [Ne, eq_zero_iff] at *
  exact mul_ne p.2 q.2 hp hq
theorem mul_cancel {p q r : P} (hp : p ≠ 0) (h : p * q = p * r) : q = r := by
  apply Classical.byContradiction
  intro hn
  have : q - r ≠ 0 := by intro h0; apply hn; grind
  exact mul_ne_zero hp this (by grind)
/-- length -/
def len (p : P) : Nat := p.1.length
theorem len_zero : (0 : P).len = 0 := by unfold len; rw [zero_val]; rfl
theorem len_pos {p : P} (h : p ≠ 0) : 0 < p.len := pos_len (by rwa [Ne, eq_zero_iff] at h)
theorem len_mul {p q : P} (hp : p ≠ 0) (hq : q ≠ 0) : (p * q).len = p.len + q.len - 1 :=
  (Ma.len_mul p.2 q.2 (by rwa [Ne, eq_zero_iff] at hp) (by rwa [Ne, eq_zero_iff] at hq)).1
def ld (p : P) : Rat := lead p.1
theorem ld_mul {p q : P} (hp : p ≠ 0) (hq : q ≠ 0) : (p * q).ld = p.ld * q.ld :=
  (Ma.len_mul p.2 q.2 (by rwa [Ne, eq_zero_iff] at hp) (by rwa [Ne, eq_zero_iff] at hq)).2
theorem ld_ne {p : P} (h : p ≠ 0) : p.ld ≠ 0 := lead_ne p.2 (by rwa [Ne, eq_zero_iff] at h)
theorem len_sub (p q : P) : (p - q).len ≤ max p.len q.len := len_sub_le _ _
theorem len_add (p q : P) : (p + q).len ≤ max p.len q.len := len_add_le _ _

/-- division is one way only -/
theorem div_unique {q s r s' r' : P} (h : s * q + r = s' * q + r') (hr : r.len < q.len) (hr' : r'.len < q.len) : s = s' ∧ r = r' := by
  have hq : q ≠ 0 := by intro e; subst e; rw [len_zero] at hr; omega
  have e : (s - s') * q = r' - r := by grind
  by_cases hs : s - s' = 0
  · have : s = s' := by grind
    exact ⟨this, by grind⟩
  · have l := len_mul hs hq
    rw [e] at l
    have := len_sub r' r
    have := len_pos hs
    omega

/-- goes into -/
def Dvd (p q : P) : Prop := ∃ h, q = p * h
theorem Dvd.refl (p : P) : Dvd p p := ⟨1, by grind⟩
theorem Dvd.trans {p q r : P} (h : Dvd p q) (h2 : Dvd q r) : Dvd p r := by
  obtain ⟨a, ha⟩ := h; obtain ⟨b, hb⟩ := h2
  exact ⟨a * b, by grind⟩
theorem Dvd.zero (p : P) : Dvd p 0 := ⟨0, by grind⟩
theorem Dvd.add {p q r : P} (h : Dvd p q) (h2 : Dvd p r) : Dvd p (q + r) := by
  obtain ⟨a, ha⟩ := h; obtain ⟨b, hb⟩ := h2
  exact ⟨a + b, by grind⟩
theorem Dvd.sub {p q r : P} (h : Dvd p q) (h2 : Dvd p r) : Dvd p (q - r) := by
  obtain ⟨a, ha⟩ := h; obtain ⟨b, hb⟩ := h2
  exact ⟨a - b, by grind⟩
theorem Dvd.neg {p q : P} (h : Dvd p q) : Dvd p (-q) := by
  obtain ⟨a, ha⟩ := h
  exact ⟨-a, by grind⟩
theorem Dvd.mul {p q : P} (h : Dvd p q) (r : P) : Dvd p (r * q) := by
  obtain ⟨a, ha⟩ := h
  exact ⟨r * a, by grind⟩
theorem Dvd.mul' {p q : P} (h : Dvd p q) (r : P) : Dvd p (q * r) := by
  obtain ⟨a, ha⟩ := h
  exact ⟨r * a, by grind⟩
theorem Dvd.of_zero {q : P} (h : Dvd 0 q) : q = 0 := by obtain ⟨a, ha⟩ := h; grind
theorem Dvd.len {p q : P} (h : Dvd p q) (hq : q ≠ 0) : p.len ≤ q.len := by
  obtain ⟨a, ha⟩ := h
  have hp : p ≠ 0 := by intro e; apply hq; grind
  have hA : a ≠ 0 := by intro e; apply hq; grind
  rw [ha, len_mul hp hA]
  have := len_pos hA
  omega

theorem len_cst {a : Rat} (h : a ≠ 0) : (cst a).len = 1 := by
  show (trim [a]).length = 1
  rw [trim_cons]; simp [trim, h]
theorem ld_cst (a : Rat) : (cst a).ld = a := by
  show lead (trim [a]) = a
  rw [trim_cons]
  by_cases h : a = 0
  · simp [trim, h]; rfl
  · simp [trim, h]; rfl
theorem ld_one : (1 : P).ld = 1 := by show lead _ = _; rw [one_val]; rfl
theorem len_one : (1 : P).len = 1 := by show List.length _ = _; rw [one_val]; rfl
theorem one_ne : (1 : P) ≠ 0 := by intro h; have := len_one; rw [h, len_zero] at this; omega
/-- of length 1: a number -/
theorem eq_cst {p : P} (h : p.len = 1) : p = cst p.ld := by
  obtain ⟨l, hl⟩ := p
  apply Subtype.ext
  show l = trim [lead l]
  have h' : l.length = 1 := h
  match l, h', hl with
  | [a], _, hl => exact hl.symm

/-- two with 1 at the top that go into each other are one -/
theorem dvd_antisymm {p q : P} (h : Dvd p q) (h2 : Dvd q p) (hp : p.ld = q.ld) : p = q := by
  by_cases hq : q = 0
  · subst hq; exact h2.of_zero
  · have hp0 : p ≠ 0 := by intro e; subst e; exact hq h.of_zero
    obtain ⟨a, ha⟩ := h
    have hA : a ≠ 0 := by intro e; apply hq; grind
    have l1 := Dvd.len h2 hp0
    have l2 := len_mul hp0 hA
    rw [← ha] at l2
    have l3 := len_pos hA
    have l4 := len_pos hq
    have l5 : p.len ≤ q.len := Dvd.len ⟨a, ha⟩ hq
    have e1 : a.len = 1 := by omega
    have e2 := ld_mul hp0 hA
    rw [← ha, ← hp] at e2
    have e3 : a.ld = 1 := by
      have := ld_ne hp0
      grind
    have : a = 1 := by
      rw [eq_cst e1, e3]
      rfl
    rw [ha, this]; grind
end P

/-! The specification's division. -/
theorem tr_xpow (n : Nat) : Tr (xpow n) := by
  refine tr_of_lead fun _ => ?_
  have : lead (xpow n) = 1 := by
    unfold lead xpow
    simp
  rw [this]; decide

theorem len_xpow (n : Nat) : (xpow n).length = n + 1 := by simp [xpow]
theorem lead_xpow (n : Nat) : lead (xpow n) = 1 := by unfold lead xpow; simp

def X (n : Nat) : P := ⟨xpow n, tr_xpow n⟩

theorem scale_eq (c : Rat) (p : List Rat) : scale c p = mul (trim [c]) p := by
  refine ext (tr_scale _ _) (tr_mul _ _) fun i => ?_
  rw [co_scale, mul_comm, co_mul]
  have : co (trim [c]) = fun j => c * delta j := by
    funext j
    exact P.c_cst c j
  rw [this, M_scale, M_delta]

theorem scale_val (c : Rat) (p : P) : scale c p.1 = (P.cst c * p).1 := scale_eq c p.1

theorem lead_scale {c : Rat} {p : List Rat} (hp : Tr p) (hc : c ≠ 0) : lead (scale c p) = c * lead p ∧ (scale c p).length = p.length := by
  by_cases h : p = []
  · subst h; simp [scale, trim, lead]
  · have h1 : trim [c] ≠ [] := by rw [trim_cons]; simp [trim, hc]
    rw [scale_eq]
    have := len_mul (tr_trim [c]) hp h1 h
    have e : lead (trim [c]) = c := P.ld_cst c
    have e2 : (trim [c]).length = 1 := P.len_cst hc
    rw [this.2, e, this.1, e2]
    have := pos_len h
    exact ⟨rfl, by omega⟩

theorem divFrom_spec : ∀ (f : Nat) (s r q : P), q ≠ 0 → r.len ≤ f →
    ∃ (s' r' : P), divFrom f s.1 r.1 q.1 = (s'.1, r'.1) ∧ s' * q + r' = s * q + r ∧ r'.len < q.len
  | 0, s, r, q, hq, hf => by
    refine ⟨s, r, rfl, rfl, ?_⟩
    have := P.len_pos hq; omega
  | f + 1, s, r, q, hq, hf => by
    have hql := P.len_pos hq
    have hqn : q.1 ≠ [] := by rwa [Ne, P.eq_zero_iff] at hq
    unfold divFrom
    by_cases h : r.1.length < q.1.length
    · rw [if_pos (Or.inl h)]
      exact ⟨s, r, rfl, rfl, h⟩
    · rw [if_neg (by intro h'; rcases h' with h' | h'; exact h h'; exact hqn h')]
      have hr0 : r ≠ 0 := by
        intro e
        subst e
        rw [P.zero_val] at h
        apply h
        exact hql
      have hlr := P.ld_ne hr0
      have hlq := P.ld_ne hq
      let c : Rat := lead r.1 / lead q.1
      have hc : c ≠ 0 := by
        show lead r.1 / lead q.1 ≠ 0
        have h1 : lead r.1 ≠ 0 := hlr
        have h2 : lead q.1 ≠ 0 := hlq
        rw [Rat.div_def]
        intro h0
        rcases Rat.mul_eq_zero.mp h0 with h3 | h3
        · exact h1 h3
        · exact h2 (by rw [← Rat.inv_inv (lead q.1), h3]; exact Rat.inv_zero)
      let t : P := P.cst c * X (r.len - q.len)
      have ht : scale c (xpow (r.1.length - q.1.length)) = t.1 := scale_val c (X (r.len - q.len))
      have hX : X (r.len - q.len) ≠ 0 := by
        rw [Ne, P.eq_zero_iff]; intro h0
        have := len_xpow (r.len - q.len)
        rw [show xpow (r.len - q.len) = [] from h0] at this
        simp at this
      have hcst : P.cst c ≠ 0 := by
        intro h0; have := P.len_cst hc; rw [h0, P.len_zero] at this; omega
      have ht0 : t ≠ 0 := P.mul_ne_zero hcst hX
      have hlX : (X (r.len - q.len)).len = r.len - q.len + 1 := len_xpow _
      have hlt : t.len = r.len - q.len + 1 := by
        show (P.cst c * X (r.len - q.len)).len = _
        rw [P.len_mul hcst hX, P.len_cst hc, hlX]; omega
      have hldt : t.ld = c := by
        show (P.cst c * X (r.len - q.len)).ld = _
        rw [P.ld_mul hcst hX, P.ld_cst]
        have : (X (r.len - q.len)).ld = 1 := lead_xpow _
        rw [this]; grind
      have hle : q.len ≤ r.len := Nat.le_of_not_lt h
      have hltq : (t * q).len = r.len := by rw [P.len_mul ht0 hq, hlt]; omega
      have hldq : (t * q).ld = r.ld := by
        rw [P.ld_mul ht0 hq, hldt]
        show lead r.1 / lead q.1 * lead q.1 = lead r.1
        have h2 : lead q.1 ≠ 0 := hlq
        grind
      have hless : (r - t * q).len < r.len := by
        have hrl := P.len_pos hr0
        suffices h' : (r - t * q).len ≤ r.len - 1 by omega
        refine len_le (r - t * q).2 (fun i hi => ?_)
        show (r - t * q).c i = 0
        rw [P.c_sub]
        by_cases hi2 : i = r.len - 1
        · have e1 : r.c i = r.ld := by rw [hi2]; exact (lead_eq r.1).symm
          have e2 : (t * q).c i = (t * q).ld := by
            rw [hi2, ← hltq]; exact (lead_eq (t * q).1).symm
          rw [e1, e2, hldq]; grind
        · have e1 : r.c i = 0 := co_ge (show r.len ≤ i by omega)
          have e2 : (t * q).c i = 0 := co_ge (show (t * q).len ≤ i by omega)
          rw [e1, e2]; grind
      obtain ⟨s', r', e1, e2, e3⟩ := divFrom_spec f (s + t) (r - t * q) q hq (by omega)
      refine ⟨s', r', ?_, ?_, e3⟩
      · show divFrom f (add s.1 (scale c (xpow (r.1.length - q.1.length)))) (sub r.1 (mul (scale c (xpow (r.1.length - q.1.length))) q.1)) q.1 = _
        rw [ht]
        exact e1
      · rw [e2]; grind

/-- **quotient and rest** -/
theorem divMod_spec (p q : P) (hq : q ≠ 0) : ∃ (s r : P), divMod p.1 q.1 = (s.1, r.1) ∧ p = s * q + r ∧ r.len < q.len := by
  obtain ⟨s, r, h1, h2, h3⟩ := divFrom_spec p.1.length 0 p q hq (Nat.le_refl _)
  refine ⟨s, r, ?_, by grind, h3⟩
  unfold divMod
  rw [← h1, P.zero_val]

theorem divMod_eq {p q s r : P} (h : p = s * q + r) (hr : r.len < q.len) : divMod p.1 q.1 = (s.1, r.1) := by
  have hq : q ≠ 0 := by intro e; subst e; rw [P.len_zero] at hr; omega
  obtain ⟨s', r', h1, h2, h3⟩ := divMod_spec p q hq
  obtain ⟨e1, e2⟩ := P.div_unique (h.symm.trans h2) hr h3
  rw [h1, e1, e2]

theorem over_mul (p q : P) (hq : q ≠ 0) : over (p * q).1 q.1 = p.1 := by
  have : divMod (p * q).1 q.1 = (p.1, (0 : P).1) := divMod_eq (by grind) (by rw [P.len_zero]; exact P.len_pos hq)
  unfold over
  rw [this]

/-- with 1 at the top -/
def mon (p : P) : P := ⟨monic p.1, tr_scale _ _⟩

theorem mon_eq (p : P) : mon p = P.cst (1 / p.ld) * p := Subtype.ext (scale_val _ _)

theorem mon_spec {p : P} (h : p ≠ 0) : (mon p).ld = 1 ∧ (mon p).len = p.len ∧ P.Dvd (mon p) p ∧ P.Dvd p (mon p) := by
  have hl := P.ld_ne h
  have hi : (1 : Rat) / p.ld ≠ 0 := by
    intro h0
    have : (1 / p.ld) * p.ld = 1 := by grind
    rw [h0] at this; grind
  have := lead_scale (c := 1 / p.ld) p.2 hi
  refine ⟨?_, this.2, ?_, ?_⟩
  · show lead (scale (1 / lead p.1) p.1) = 1
    rw [show (1 : Rat) / lead p.1 = 1 / p.ld from rfl, this.1]
    show 1 / p.ld * p.ld = 1
    grind
  · refine ⟨P.cst p.ld, ?_⟩
    rw [mon_eq]
    have e : P.cst (1 / p.ld) * P.cst p.ld = 1 := by
      apply P.ext'
      intro i
      rw [P.mul_cst, P.c_cst]
      show _ = (P.cst ((1 : Nat) : Rat)).c i
      rw [P.c_cst]
      have h1 : p.ld * (1 / p.ld) = 1 := by grind
      have h2 : (((1 : Nat) : Rat)) = 1 := rfl
      rw [h2]
      grind
    grind
  · exact ⟨P.cst (1 / p.ld), by rw [mon_eq]; grind⟩

theorem mon_zero : mon 0 = 0 := by
  rw [mon_eq]; grind

theorem mon_of_ld {p : P} (h : p.ld = 1) : mon p = p := by
  rw [mon_eq, h]
  have : P.cst (1 / 1) = 1 := by
    show P.cst (1 / 1) = P.cst ((1 : Nat) : Rat)
    have : (1 : Rat) / 1 = ((1 : Nat) : Rat) := by
      have h2 : (((1 : Nat) : Rat)) = 1 := rfl
      rw [h2]; grind
    rw [this]
  rw [this]; grind

/-- what two have in common: goes into both, and all that do so go into it; 1 at the top unless it's 0 -/
structure IsCommon (p q g : P) : Prop where
  left : P.Dvd g p
  right : P.Dvd g q
  all : ∀ h, P.Dvd h p → P.Dvd h q → P.Dvd h g
  top : g = 0 ∨ g.ld = 1

theorem IsCommon.unique {p q g g' : P} (h : IsCommon p q g) (h' : IsCommon p q g') : g = g' := by
  have d1 := h'.all g h.left h.right
  have d2 := h.all g' h'.left h'.right
  rcases h.top with e | e
  · subst e; exact d1.of_zero.symm
  · rcases h'.top with e' | e'
    · subst e'; exact d2.of_zero
    · exact P.dvd_antisymm d1 d2 (by rw [e, e'])

theorem commonFrom_spec : ∀ (f : Nat) (p q : P), q.len < f →
    ∃ g : P, commonFrom f p.1 q.1 = g.1 ∧ P.Dvd g p ∧ P.Dvd g q ∧ (∀ h, P.Dvd h p → P.Dvd h q → P.Dvd h g)
  | 0, p, q, hf => by omega
  | f + 1, p, q, hf => by
    unfold commonFrom
    by_cases hq : q = 0
    · subst hq
      rw [P.zero_val, if_pos rfl]
      exact ⟨p, rfl, P.Dvd.refl p, P.Dvd.zero p, fun h h1 _ => h1⟩
    · have hqn : q.1 ≠ [] := fun e => hq (P.eq_zero_iff.mpr e)
      rw [if_neg hqn]
      obtain ⟨s, r, e1, e2, e3⟩ := divMod_spec p q hq
      have er : rest p.1 q.1 = r.1 := by unfold rest; rw [e1]
      rw [er]
      obtain ⟨g, g1, g2, g3, g4⟩ := commonFrom_spec f q r (by omega)
      refine ⟨g, g1, ?_, g2, fun h h1 h2 => g4 h h2 ?_⟩
      · rw [e2]; exact (g2.mul s).add g3
      · have : r = p - s * q := by grind
        rw [this]; exact h1.sub (h2.mul s)

def com (p q : P) : P := ⟨common p.1 q.1, by
  unfold common
  split
  · exact tr_nil
  · exact tr_scale _ _⟩

/-- **the specification's common** -/
theorem com_spec (p q : P) : IsCommon p q (com p q) := by
  by_cases h : p.1 = [] ∧ q.1 = []
  · have e : com p q = 0 := by
      apply Subtype.ext
      show common p.1 q.1 = _
      unfold common
      rw [if_pos h, P.zero_val]
    have hp : p = 0 := P.eq_zero_iff.mpr h.1
    have hq : q = 0 := P.eq_zero_iff.mpr h.2
    subst hp hq
    rw [e]
    exact ⟨P.Dvd.refl 0, P.Dvd.refl 0, fun h h1 _ => h1, Or.inl rfl⟩
  · obtain ⟨g, g1, g2, g3, g4⟩ := commonFrom_spec (q.1.length + 2) p q (by show q.1.length < _; omega)
    have e : com p q = mon g := by
      apply Subtype.ext
      show common p.1 q.1 = monic g.1
      unfold common
      rw [if_neg h, g1]
    have g0 : g ≠ 0 := by
      intro e0
      subst e0
      apply h
      exact ⟨P.eq_zero_iff.mp g2.of_zero, P.eq_zero_iff.mp g3.of_zero⟩
    have ms := mon_spec g0
    rw [e]
    exact ⟨ms.2.2.1.trans g2, ms.2.2.1.trans g3, fun h h1 h2 => (g4 h h1 h2).trans ms.2.2.2, Or.inr ms.1⟩

theorem com_eq {p q g : P} (h : IsCommon p q g) : com p q = g := (com_spec p q).unique h

end Ma
/-! How large the numbers of a divisor are: Gauss, then values at places beyond all roots. -/
namespace Ma
open AlOne

/-! sizes of whole numbers -/
def B (z : Int) (n : Nat) : Prop := z.natAbs ≤ 2 ^ n
theorem B.mono {z : Int} {m n : Nat} (h : B z m) (hmn : m ≤ n) : B z n :=
  Nat.le_trans h (Nat.pow_le_pow_right (by omega) hmn)
theorem B.mul {x y : Int} {m n : Nat} (h : B x m) (h2 : B y n) : B (x * y) (m + n) := by
  unfold B at *
  rw [Int.natAbs_mul, Nat.pow_add]
  exact Nat.mul_le_mul h h2
theorem B.add {x y : Int} {n : Nat} (h : B x n) (h2 : B y n) : B (x + y) (n + 1) := by
  unfold B at *
  have := Int.natAbs_add_le x y
  rw [Nat.pow_succ]; omega
theorem B.neg {x : Int} {n : Nat} (h : B x n) : B (-x) n := by
  unfold B at *; rwa [Int.natAbs_neg]
theorem B.sub {x y : Int} {n : Nat} (h : B x n) (h2 : B y n) : B (x - y) (n + 1) := by
  rw [Int.sub_eq_add_neg]; exact h.add h2.neg
theorem B.zero (n : Nat) : B 0 n := by unfold B; simp
theorem B.of_mul {x k : Int} {n : Nat} (hk : k ≠ 0) (h : B (k * x) n) : B x n := by
  unfold B at *
  rw [Int.natAbs_mul] at h
  have : 1 ≤ k.natAbs := by omega
  exact Nat.le_trans (Nat.le_mul_of_pos_left _ this) h

/-! the least number of a kind -/
theorem least_of (p : Nat → Prop) : ∀ n, p n → ∃ m, p m ∧ ∀ k, k < m → ¬ p k := by
  intro n
  induction n using Nat.strongRecOn with
  | _ n ih =>
    intro h
    by_cases h2 : ∃ k, k < n ∧ p k
    · obtain ⟨k, hk, hp⟩ := h2; exact ih k hk hp
    · exact ⟨n, h, fun k hk hp => h2 ⟨k, hk, hp⟩⟩

/-- a prime, by what it does -/
structure Pri (l : Nat) : Prop where
  two : 2 ≤ l
  part : ∀ a b : Int, (l : Int) ∣ a * b → (l : Int) ∣ a ∨ (l : Int) ∣ b

theorem pri_of {n : Nat} (h : 2 ≤ n) : ∃ l, Pri l ∧ l ∣ n := by
  obtain ⟨l, ⟨h1, h2⟩, h3⟩ := least_of (fun l => 2 ≤ l ∧ l ∣ n) n ⟨h, Nat.dvd_refl n⟩
  refine ⟨l, ⟨h1, fun a b hab => ?_⟩, h2⟩
  have hab' : l ∣ a.natAbs * b.natAbs := by
    rw [← Int.natAbs_mul]; exact Int.ofNat_dvd_left.mp hab
  by_cases hg : Nat.gcd l a.natAbs = 1
  · right
    exact Int.ofNat_dvd_left.mpr (Nat.Coprime.dvd_of_dvd_mul_left hg hab')
  · left
    have d1 := Nat.gcd_dvd_left l a.natAbs
    have d2 := Nat.gcd_dvd_right l a.natAbs
    have hpos : 0 < Nat.gcd l a.natAbs := Nat.gcd_pos_of_pos_left _ (by omega)
    have hle := Nat.le_of_dvd (by omega) d1
    have : ¬ Nat.gcd l a.natAbs < l := fun hlt => h3 _ hlt ⟨by omega, Nat.dvd_trans d1 h2⟩
    have e : Nat.gcd l a.natAbs = l := by omega
    rw [e] at d2
    exact Int.ofNat_dvd_left.mpr d2

/-! products of whole polynomials -/
def coZ (p : List Int) (i : Nat) : Int := p.getD i 0
def shZ (f : Nat → Int) : Nat → Int
  | 0 => 0
  | i + 1 => f i
def MZ : List Int → (Nat → Int) → Nat → Int
  | [], _, _ => 0
  | c :: p, f, i => c * f i + shZ (MZ p f) i
def deltaZ : Nat → Int
  | 0 => 1
  | _ + 1 => 0
theorem MZ_add : ∀ (p : List Int) (f g : Nat → Int) (i : Nat), MZ p (fun j => f j + g j) i = MZ p f i + MZ p g i
  | [], _, _, _ => by simp [MZ]
  | c :: p, f, g, 0 => by simp only [MZ, shZ]; grind
  | c :: p, f, g, i + 1 => by simp only [MZ, shZ]; rw [MZ_add p f g i]; grind
theorem MZ_scale : ∀ (p : List Int) (a : Int) (f : Nat → Int) (i : Nat), MZ p (fun j => a * f j) i = a * MZ p f i
  | [], a, _, _ => by simp [MZ]
  | c :: p, a, f, 0 => by simp only [MZ, shZ]; grind
  | c :: p, a, f, i + 1 => by simp only [MZ, shZ]; rw [MZ_scale p a f i]; grind
theorem MZ_sh : ∀ (p : List Int) (f : Nat → Int) (i : Nat), MZ p (shZ f) i = shZ (MZ p f) i
  | [], _, 0 => rfl
  | [], _, _ + 1 => rfl
  | c :: p, f, 0 => by simp only [MZ, shZ]; grind
  | c :: p, f, i + 1 => by
    show c * f i + MZ p (shZ f) i = c * f i + shZ (MZ p f) i
    rw [MZ_sh p f i]
theorem coZ_succ (c : Int) (p : List Int) (i : Nat) : coZ (c :: p) (i + 1) = coZ p i := by simp [coZ]
theorem coZ_zero (c : Int) (p : List Int) : coZ (c :: p) 0 = c := by simp [coZ]
theorem MZ_delta : ∀ (p : List Int) (i : Nat), MZ p deltaZ i = coZ p i
  | [], i => by simp [MZ, coZ]
  | c :: p, 0 => by simp only [MZ, shZ, deltaZ, coZ_zero]; grind
  | c :: p, i + 1 => by
    show c * 0 + MZ p deltaZ i = _
    rw [MZ_delta p i, coZ_succ]; grind
theorem coZ_cons_eq (c : Int) (p : List Int) : coZ (c :: p) = fun j => (c * deltaZ j) + shZ (coZ p) j := by
  funext j
  cases j with
  | zero => simp only [coZ_zero, deltaZ, shZ]; grind
  | succ j => simp only [coZ_succ, deltaZ, shZ]; grind
theorem MZ_comm : ∀ (p q : List Int) (i : Nat), MZ p (coZ q) i = MZ q (coZ p) i
  | [], q, i => by
    show 0 = MZ q (coZ []) i
    have : coZ [] = fun j => (0 : Int) * deltaZ j := by funext j; simp [coZ]
    rw [this, MZ_scale]; grind
  | c :: p, q, i => by
    rw [coZ_cons_eq c p, MZ_add, MZ_scale, MZ_delta, MZ_sh]
    show c * coZ q i + shZ (MZ p (coZ q)) i = _
    have : MZ p (coZ q) = MZ q (coZ p) := by funext j; exact MZ_comm p q j
    rw [this]

theorem MZ_dvd_tail {l : Int} {c : Int} {p q : List Int} (hc : l ∣ c) (h : ∀ i, l ∣ MZ (c :: p) (coZ q) i) : ∀ i, l ∣ MZ p (coZ q) i := by
  intro i
  have h1 : l ∣ c * coZ q (i + 1) + MZ p (coZ q) i := h (i + 1)
  have h2 : l ∣ c * coZ q (i + 1) := Int.dvd_trans hc (Int.dvd_mul_right _ _)
  have : MZ p (coZ q) i = (c * coZ q (i + 1) + MZ p (coZ q) i) - c * coZ q (i + 1) := by grind
  rw [this]; exact Int.dvd_sub h1 h2

theorem gauss {l : Nat} (hl : Pri l) : ∀ (n : Nat) (p q : List Int), p.length + q.length ≤ n → (∀ i, (l : Int) ∣ MZ p (coZ q) i) →
    (∀ i, (l : Int) ∣ coZ p i) ∨ (∀ i, (l : Int) ∣ coZ q i)
  | _, [], q, _, _ => Or.inl fun i => by simp [coZ]
  | _, _ :: _, [], _, _ => Or.inr fun i => by simp [coZ]
  | 0, _ :: _, _ :: _, hn, _ => by simp at hn
  | n + 1, a :: p, b :: q, hn, h => by
    have h0 : (l : Int) ∣ a * b := by
      have := h 0
      simp only [MZ, shZ, coZ_zero] at this
      rwa [Int.add_zero] at this
    simp only [List.length_cons] at hn
    rcases hl.part a b h0 with ha | hb
    · rcases gauss hl n p (b :: q) (by simp only [List.length_cons]; omega) (MZ_dvd_tail ha h) with h1 | h1
      · left
        intro i
        cases i with
        | zero => rw [coZ_zero]; exact ha
        | succ i => rw [coZ_succ]; exact h1 i
      · exact Or.inr h1
    · have h' : ∀ i, (l : Int) ∣ MZ (b :: q) (coZ (a :: p)) i := fun i => by rw [MZ_comm]; exact h i
      rcases gauss hl n q (a :: p) (by simp only [List.length_cons]; omega) (MZ_dvd_tail hb h') with h1 | h1
      · right
        intro i
        cases i with
        | zero => rw [coZ_zero]; exact hb
        | succ i => rw [coZ_succ]; exact h1 i
      · exact Or.inl h1

/-! whole polynomials among the fractions' -/
def toQ (p : List Int) : List Rat := p.map fun (z : Int) => (z : Rat)
theorem co_toQ : ∀ (p : List Int) (i : Nat), co (toQ p) i = ((coZ p i : Int) : Rat)
  | [], i => by simp [toQ, co_nil, coZ]
  | c :: p, 0 => by simp [toQ, co, coZ]
  | c :: p, i + 1 => by
    show co ((c : Rat) :: toQ p) (i + 1) = _
    rw [co_succ, coZ_succ]; exact co_toQ p i
theorem M_toQ : ∀ (p : List Int) (f : Nat → Int) (i : Nat), M (toQ p) (fun j => ((f j : Int) : Rat)) i = ((MZ p f i : Int) : Rat)
  | [], f, i => by simp [toQ, M, MZ]
  | c :: p, f, 0 => by
    show (c : Rat) * (f 0 : Rat) + 0 = ((c * f 0 + 0 : Int) : Rat)
    simp [Rat.intCast_mul, Rat.add_zero]
  | c :: p, f, i + 1 => by
    show (c : Rat) * (f (i + 1) : Rat) + M (toQ p) _ i = ((c * f (i + 1) + MZ p f i : Int) : Rat)
    rw [M_toQ p f i, Rat.intCast_add, Rat.intCast_mul]

theorem M_congr {p q : List Rat} (h : ∀ i, co p i = co q i) (s : List Rat) (i : Nat) : M p (co s) i = M q (co s) i := by
  rw [M_comm, M_comm q]
  have : co p = co q := by funext j; exact h j
  rw [this]

/-- all its numbers are whole: the list of them -/
def Zof (p : P) (z : List Int) : Prop := ∀ i, p.c i = ((coZ z i : Int) : Rat)

theorem zof_mul {p q r : P} {a b d : List Int} (ha : Zof p a) (hb : Zof q b) (hd : Zof r d) (h : p * q = r) (i : Nat) : MZ a (coZ b) i = coZ d i := by
  have h1 : (p * q).c i = r.c i := by rw [h]
  rw [P.c_mul, hd i] at h1
  have e1 : q.c = fun j => ((coZ b j : Int) : Rat) := by funext j; exact hb j
  have e2 : co (toQ b) = fun j => ((coZ b j : Int) : Rat) := by funext j; rw [co_toQ]
  have h2 : M p.1 q.c i = M (toQ a) (co (toQ b)) i := by
    rw [e1, ← e2]
    exact M_congr (fun j => by rw [co_toQ]; exact ha j) _ _
  rw [h2, e2, M_toQ] at h1
  exact Rat.intCast_inj.mp h1

theorem mul_den (x : Rat) : x * (x.den : Rat) = (x.num : Rat) := by
  have e : ((x.num : Int) : Rat) = mkRat x.num 1 := by
    have := (Rat.mkRat_self ((x.num : Int) : Rat)).symm
    simpa using this
  rw [Rat.mul_def', e, Rat.mkRat_eq_iff]
  · simp
  · simp [x.den_nz]
  · simp

theorem whole_of_den {x : Rat} (h : x.den = 1) : x = ((x.num : Int) : Rat) := by
  apply Rat.ext
  · simp
  · simp [h]

/-- a number that makes it whole -/
theorem exists_whole (p : P) : ∃ e : Nat, 0 < e ∧ ∃ z : List Int, Zof (P.cst (e : Rat) * p) z := by
  suffices h : ∀ l : List Rat, ∃ e : Nat, 0 < e ∧ ∃ z : List Int, ∀ i, (e : Rat) * co l i = ((coZ z i : Int) : Rat) by
    obtain ⟨e, he, z, hz⟩ := h p.1
    refine ⟨e, he, z, fun i => ?_⟩
    rw [← hz i]
    have : P.cst (e : Rat) * p = p * P.cst (e : Rat) := by grind
    rw [this, P.mul_cst]; rfl
  intro l
  induction l with
  | nil => exact ⟨1, by omega, [], fun i => by simp [co_nil, coZ]⟩
  | cons x l ih =>
    obtain ⟨e, he, z, hz⟩ := ih
    refine ⟨e * x.den, Nat.mul_pos he (Nat.pos_of_ne_zero x.den_nz), ((e : Int) * x.num) :: z.map (fun y => (x.den : Int) * y), fun i => ?_⟩
    cases i with
    | zero =>
      rw [co_zero, coZ_zero]
      have hx : x * (x.den : Rat) = (x.num : Rat) := mul_den x
      rw [Rat.intCast_mul, Rat.natCast_mul, ← hx]
      show _ = (e : Rat) * _
      grind
    | succ i =>
      rw [co_succ, coZ_succ]
      have e1 : coZ (z.map (fun y => (x.den : Int) * y)) i = (x.den : Int) * coZ z i := by
        simp only [coZ, List.getD_eq_getElem?_getD, List.getElem?_map]
        cases z[i]? <;> simp
      rw [e1, Rat.intCast_mul, ← hz i, Rat.natCast_mul]
      show _ = (x.den : Rat) * _
      grind

end Ma
namespace Ma
open AlOne

/-! values -/
theorem val_addRaw (x : Rat) : ∀ (p q : List Rat), value x (addRaw p q) = value x p + value x q
  | [], q => by simp [addRaw, value, Rat.zero_add]
  | c :: p, [] => by simp [addRaw, value, Rat.add_zero]
  | c :: p, d :: q => by
    show (c + d) + x * value x (addRaw p q) = (c + x * value x p) + (d + x * value x q)
    rw [val_addRaw x p q]; grind
theorem val_trim (x : Rat) : ∀ (p : List Rat), value x (trim p) = value x p
  | [] => rfl
  | c :: p => by
    have ih := val_trim x p
    rw [trim_cons]
    show _ = c + x * value x p
    split
    · rename_i h
      rw [h] at ih
      rw [← ih]
      split
      · rename_i h0; rw [h0]; simp only [value]; grind
      · simp only [value]
    · show c + x * value x (trim p) = _
      rw [ih]
theorem val_map (x c : Rat) : ∀ (p : List Rat), value x (p.map fun (y : Rat) => c * y) = c * value x p
  | [] => by simp [value]
  | d :: p => by
    show c * d + x * value x (p.map _) = c * (d + x * value x p)
    rw [val_map x c p]; grind
theorem val_mul (x : Rat) : ∀ (p q : List Rat), value x (mul p q) = value x p * value x q
  | [], q => by simp [mul, value]
  | c :: p, q => by
    have ih := val_mul x p q
    rw [mul_cons]
    show _ = (c + x * value x p) * value x q
    split
    · rename_i h
      rw [h] at ih
      have : value x p * value x q = 0 := ih.symm
      unfold scale
      rw [val_trim, val_map]; grind
    · unfold add scale
      rw [val_trim, val_addRaw, val_trim, val_map]
      show c * value x q + (0 + x * value x (mul p q)) = _
      rw [ih]; grind

/-- whole values -/
def vz (a : Int) : List Int → Int
  | [] => 0
  | c :: p => c + a * vz a p
theorem val_toQ (a : Int) : ∀ (p : List Int), value (a : Rat) (toQ p) = ((vz a p : Int) : Rat)
  | [] => by simp [toQ, value, vz]
  | c :: p => by
    show (c : Rat) + (a : Rat) * value (a : Rat) (toQ p) = ((c + a * vz a p : Int) : Rat)
    rw [val_toQ a p, Rat.intCast_add, Rat.intCast_mul]

/-- its numbers, if they are whole -/
def nums (p : P) : List Int := p.1.map (·.num)
theorem nums_spec {p : P} {z : List Int} (h : Zof p z) : toQ (nums p) = p.1 ∧ Zof p (nums p) ∧ ∀ i, coZ (nums p) i = coZ z i := by
  have h1 : ∀ x ∈ p.1, ((x.num : Int) : Rat) = x := by
    intro x hx
    obtain ⟨i, hi, e⟩ := List.getElem_of_mem hx
    have : p.c i = x := by
      show p.1.getD i 0 = x
      rw [List.getD_eq_getElem?_getD, List.getElem?_eq_getElem hi, e]; rfl
    rw [h i] at this
    rw [← this]; simp
  have e : toQ (nums p) = p.1 := by
    unfold toQ nums
    rw [List.map_map]
    conv => rhs; rw [← List.map_id p.1]
    exact List.map_congr_left (fun x hx => h1 x hx)
  have h2 : Zof p (nums p) := fun i => by
    show co p.1 i = _
    rw [← e, co_toQ]
  refine ⟨e, h2, fun i => ?_⟩
  have := h2 i
  rw [h i] at this
  exact (Rat.intCast_inj.mp this).symm

theorem val_nums {p : P} {z : List Int} (h : Zof p z) (a : Int) : value (a : Rat) p.1 = ((vz a (nums p) : Int) : Rat) := by
  rw [← val_toQ, (nums_spec h).1]

/-- beyond all roots -/
theorem vz_ne {m : Nat} {a : Int} (ha : (m : Int) < a) : ∀ (p : List Int), (∀ x ∈ p, x.natAbs ≤ m) → (∃ x ∈ p, x ≠ 0) → vz a p ≠ 0
  | [], _, h => by obtain ⟨x, hx, _⟩ := h; simp at hx
  | c :: p, h1, h2 => by
    by_cases hp : ∃ x ∈ p, x ≠ 0
    · have ih := vz_ne ha p (fun x hx => h1 x (by simp [hx])) hp
      have hc := h1 c (by simp)
      intro h0
      have h0' : c + a * vz a p = 0 := h0
      have h3 : c = a * (-(vz a p)) := by grind
      have h4 : c.natAbs = a.natAbs * (vz a p).natAbs := by rw [h3, Int.natAbs_mul, Int.natAbs_neg]
      have h5 : 1 ≤ (vz a p).natAbs := by omega
      have h6 : a.natAbs * 1 ≤ a.natAbs * (vz a p).natAbs := Nat.mul_le_mul_left _ h5
      omega
    · have hz : vz a p = 0 := by
        have : ∀ (q : List Int), (¬ ∃ x ∈ q, x ≠ 0) → vz a q = 0 := by
          intro q
          induction q with
          | nil => intro _; rfl
          | cons d q ih =>
            intro hq
            have e1 : d = 0 := Classical.byContradiction fun hd => hq ⟨d, by simp, hd⟩
            have e2 := ih (fun ⟨x, hx, hx0⟩ => hq ⟨x, by simp [hx], hx0⟩)
            show d + a * vz a q = 0
            rw [e1, e2]; simp
        exact this p hp
      show c + a * vz a p ≠ 0
      rw [hz]
      obtain ⟨x, hx, hx0⟩ := h2
      rcases List.mem_cons.mp hx with e | e
      · subst e; simpa using hx0
      · exact absurd ⟨x, e, hx0⟩ hp

theorem vz_B {b : Nat} {a : Int} (ha : B a (b + 1)) : ∀ (p : List Int) (n : Nat), (∀ x ∈ p, B x b) → p.length ≤ n + 1 → B (vz a p) (b + n * (b + 2))
  | [], n, _, _ => B.zero _
  | [c], n, h, _ => by
    have := h c (by simp)
    show B (c + a * 0) _
    rw [Int.mul_zero, Int.add_zero]
    exact this.mono (by omega)
  | c :: d :: p, n, h, hl => by
    cases n with
    | zero => simp at hl
    | succ n =>
      have ih := vz_B ha (d :: p) n (fun x hx => h x (List.mem_cons_of_mem _ hx)) (by simp only [List.length_cons] at *; omega)
      have hc := h c (by simp)
      have h1 : B (a * vz a (d :: p)) (b + 1 + (b + n * (b + 2))) := ha.mul ih
      have h2 : B c (b + 1 + (b + n * (b + 2))) := hc.mono (by omega)
      have := h2.add h1
      refine this.mono ?_
      rw [Nat.succ_mul]; omega

/-- numbers from values at five places -/
theorem five (c0 c1 c2 c3 c4 t : Int) (n b : Nat) (hb : 3 ≤ b) (ht : B t b)
    (h : ∀ k : Nat, 1 ≤ k → k ≤ 5 → B (vz (t + k) [c0, c1, c2, c3, c4]) n) :
    B c0 (n + 10 * b + 100) ∧ B c1 (n + 10 * b + 100) ∧ B c2 (n + 10 * b + 100) ∧ B c3 (n + 10 * b + 100) ∧ B c4 (n + 10 * b + 100) := by
  have v1 := h 1 (by omega) (by omega)
  have v2 := h 2 (by omega) (by omega)
  have v3 := h 3 (by omega) (by omega)
  have v4 := h 4 (by omega) (by omega)
  have v5 := h 5 (by omega) (by omega)
  have hk : ∀ k : Nat, k ≤ 5 → B ((k : Nat) : Int) b := by
    intro k hk
    unfold B
    have : 2 ^ 3 ≤ 2 ^ b := Nat.pow_le_pow_right (by omega) hb
    have e : ((k : Nat) : Int).natAbs = k := Int.natAbs_natCast k
    rw [e]; omega
  have hT : ∀ k : Nat, k ≤ 5 → B (t + ((k : Nat) : Int)) (b + 1) := fun k hk' => ht.add (hk k hk')
  have num : ∀ (k : Nat), B ((k : Nat) : Int) k := by
    intro k
    unfold B
    rw [Int.natAbs_natCast]
    exact Nat.le_of_lt Nat.lt_two_pow_self
  generalize e1 : vz (t + (1 : Nat)) [c0, c1, c2, c3, c4] = w1 at v1
  generalize e2 : vz (t + (2 : Nat)) [c0, c1, c2, c3, c4] = w2 at v2
  generalize e3 : vz (t + (3 : Nat)) [c0, c1, c2, c3, c4] = w3 at v3
  generalize e4 : vz (t + (4 : Nat)) [c0, c1, c2, c3, c4] = w4 at v4
  generalize e5 : vz (t + (5 : Nat)) [c0, c1, c2, c3, c4] = w5 at v5
  simp only [vz] at e1 e2 e3 e4 e5
  have t1 := hT 1 (by omega)
  have t2 := hT 2 (by omega)
  have t3 := hT 3 (by omega)
  have t4 := hT 4 (by omega)
  have t5 := hT 5 (by omega)
  generalize hs1 : t + ((1 : Nat) : Int) = s1 at e1 t1
  generalize hs2 : t + ((2 : Nat) : Int) = s2 at e2 t2
  generalize hs3 : t + ((3 : Nat) : Int) = s3 at e3 t3
  generalize hs4 : t + ((4 : Nat) : Int) = s4 at e4 t4
  generalize hs5 : t + ((5 : Nat) : Int) = s5 at e5 t5
  have a2 : s2 = s1 + 1 := by omega
  have a3 : s3 = s1 + 2 := by omega
  have a4 : s4 = s1 + 3 := by omega
  have a5 : s5 = s1 + 4 := by omega
  have k4 : B c4 (n + 14) := by
    refine B.of_mul (k := 24) (by omega) ?_
    have : (24 : Int) * c4 = (w5 + w1) + (((6 : Nat) : Int) * w3 - ((4 : Nat) : Int) * (w4 + w2)) := by
      rw [← e1, ← e2, ← e3, ← e4, ← e5, a2, a3, a4, a5]; grind
    rw [this]
    have b1 := (v5.add v1).mono (show n + 1 ≤ n + 8 by omega)
    have b2 := ((num 6).mul v3).mono (show 6 + n ≤ n + 6 by omega)
    have b3 := ((num 4).mul (v4.add v2)).mono (show 4 + (n + 1) ≤ n + 6 by omega)
    exact (b1.add ((b2.sub b3).mono (by omega))).mono (by omega)
  have q4 : ∀ {s w : Int}, B s (b + 1) → B w n → B (w - s * (s * (s * (s * c4)))) (n + 4 * b + 20) := by
    intro s w hs hw
    have := hs.mul (hs.mul (hs.mul (hs.mul k4)))
    exact ((hw.mono (show n ≤ n + 4 * b + 19 by omega)).sub (this.mono (by omega))).mono (by omega)
  have u1 := q4 t1 v1
  have u2 := q4 t2 v2
  have u3 := q4 t3 v3
  have u4 := q4 t4 v4
  generalize f1 : w1 - s1 * (s1 * (s1 * (s1 * c4))) = x1 at u1
  generalize f2 : w2 - s2 * (s2 * (s2 * (s2 * c4))) = x2 at u2
  generalize f3 : w3 - s3 * (s3 * (s3 * (s3 * c4))) = x3 at u3
  generalize f4 : w4 - s4 * (s4 * (s4 * (s4 * c4))) = x4 at u4
  have k3 : B c3 (n + 4 * b + 26) := by
    refine B.of_mul (k := 6) (by omega) ?_
    have : (6 : Int) * c3 = (x4 - x1) + ((3 : Nat) : Int) * (x2 - x3) := by
      rw [← f1, ← f2, ← f3, ← f4, ← e1, ← e2, ← e3, ← e4, a2, a3, a4]; grind
    rw [this]
    exact (((u4.sub u1).mono (by omega)).add (((num 3).mul (u2.sub u3)).mono (show 3 + (n + 4 * b + 20 + 1) ≤ n + 4 * b + 24 by omega))).mono (by omega)
  have q3 : ∀ {s w : Int}, B s (b + 1) → B w (n + 4 * b + 20) → B (w - s * (s * (s * c3))) (n + 7 * b + 30) := by
    intro s w hs hw
    have := hs.mul (hs.mul (hs.mul k3))
    exact ((hw.mono (show _ ≤ n + 7 * b + 29 by omega)).sub (this.mono (by omega))).mono (by omega)
  have y1 := q3 t1 u1
  have y2 := q3 t2 u2
  have y3 := q3 t3 u3
  generalize g1 : x1 - s1 * (s1 * (s1 * c3)) = z1 at y1
  generalize g2 : x2 - s2 * (s2 * (s2 * c3)) = z2 at y2
  generalize g3 : x3 - s3 * (s3 * (s3 * c3)) = z3 at y3
  have k2 : B c2 (n + 7 * b + 35) := by
    refine B.of_mul (k := 2) (by omega) ?_
    have : (2 : Int) * c2 = (z3 + z1) - ((2 : Nat) : Int) * z2 := by
      rw [← g1, ← g2, ← g3, ← f1, ← f2, ← f3, ← e1, ← e2, ← e3, a2, a3]; grind
    rw [this]
    exact (((y3.add y1).mono (by omega)).sub (((num 2).mul y2).mono (show 2 + (n + 7 * b + 30) ≤ n + 7 * b + 33 by omega))).mono (by omega)
  have q2 : ∀ {s w : Int}, B s (b + 1) → B w (n + 7 * b + 30) → B (w - s * (s * c2)) (n + 9 * b + 40) := by
    intro s w hs hw
    have := hs.mul (hs.mul k2)
    exact ((hw.mono (show _ ≤ n + 9 * b + 38 by omega)).sub (this.mono (by omega))).mono (by omega)
  have r1 := q2 t1 y1
  have r2 := q2 t2 y2
  have k1 : B c1 (n + 9 * b + 41) := by
    have : c1 = (z2 - s2 * (s2 * c2)) - (z1 - s1 * (s1 * c2)) := by
      rw [← g1, ← g2, ← f1, ← f2, ← e1, ← e2, a2]; grind
    rw [this]
    exact (r2.sub r1).mono (by omega)
  have k0 : B c0 (n + 10 * b + 50) := by
    have : c0 = (z1 - s1 * (s1 * c2)) - s1 * c1 := by
      rw [← g1, ← f1, ← e1]; grind
    rw [this]
    exact ((r1.mono (show _ ≤ n + 10 * b + 49 by omega)).sub ((t1.mul k1).mono (by omega))).mono (by omega)
  exact ⟨k0.mono (by omega), k1.mono (by omega), k2.mono (by omega), k3.mono (by omega), k4.mono (by omega)⟩

/-- how large: a number that makes all whole, and they -/
def Ht (p : P) (b : Nat) : Prop := ∃ D : Nat, 0 < D ∧ D ≤ 2 ^ b ∧ ∃ z : List Int, Zof (P.cst (D : Rat) * p) z ∧ ∀ i, B (coZ z i) b

theorem cst_mul (a b : Rat) : P.cst a * P.cst b = P.cst (a * b) := by
  apply P.ext'
  intro i
  rw [P.mul_cst, P.c_cst, P.c_cst]; grind

theorem cst_c (a : Rat) (p : P) (i : Nat) : (P.cst a * p).c i = a * p.c i := by
  have : P.cst a * p = p * P.cst a := by grind
  rw [this, P.mul_cst]

theorem cst_ne {a : Rat} (h : a ≠ 0) : P.cst a ≠ 0 := by
  intro h0; have := P.len_cst h; rw [h0, P.len_zero] at this; omega

theorem natCast_ne {n : Nat} (h : 0 < n) : (n : Rat) ≠ 0 := by
  intro h0
  have : n = 0 := by
    have h1 : ((n : Nat) : Rat) = ((0 : Nat) : Rat) := h0
    exact Rat.natCast_inj.mp h1
  omega

theorem coZ_map_div {l : Int} (z : List Int) (i : Nat) : coZ (z.map (fun y => y / l)) i = coZ z i / l := by
  simp only [coZ, List.getD_eq_getElem?_getD, List.getElem?_map]
  cases z[i]? <;> simp

/-- made whole by a least number: no prime goes into all -/
theorem primitive {p : P} {e : Nat} {z : List Int} (he : 0 < e) (hz : Zof (P.cst (e : Rat) * p) z)
    (hmin : ∀ k, k < e → ¬ (0 < k ∧ ∃ z, Zof (P.cst (k : Rat) * p) z)) {l : Nat} (hl : Pri l) (hle : l ∣ e) : ¬ ∀ i, (l : Int) ∣ coZ z i := by
  intro h
  obtain ⟨k, hk⟩ := hle
  have h2 := hl.two
  have hk0 : 0 < k := by
    rcases Nat.eq_zero_or_pos k with h0 | h0
    · subst h0; omega
    · exact h0
  have hlt : k < e := by
    rw [hk]
    calc k = 1 * k := by omega
      _ < l * k := Nat.mul_lt_mul_of_pos_right (by omega) hk0
  refine hmin k hlt ⟨hk0, z.map (fun y => y / (l : Int)), fun i => ?_⟩
  rw [coZ_map_div, cst_c]
  obtain ⟨y, hy⟩ := h i
  have e1 := hz i
  rw [cst_c, hy, hk] at e1
  have hl0 : (l : Int) ≠ 0 := by omega
  rw [hy, Int.mul_ediv_cancel_left y hl0]
  rw [Rat.natCast_mul, Rat.intCast_mul] at e1
  have e2 : ((l : Int) : Rat) = (l : Rat) := rfl
  rw [e2] at e1
  have := natCast_ne (n := l) (by omega)
  have e3 : (l : Rat) * ((k : Rat) * p.c i) = (l : Rat) * (y : Rat) := by grind
  grind

theorem gauss_div {G H p : P} {zg zp : List Int} (hg : Zof G zg) (hp : Zof p zp) (h : G * H = p)
    (prim : ∀ l, Pri l → ¬ ∀ i, (l : Int) ∣ coZ zg i) : ∃ z, Zof H z := by
  obtain ⟨f0, hf0⟩ := exists_whole H
  obtain ⟨f, ⟨hf, zf, hzf⟩, hmin⟩ := least_of (fun k => 0 < k ∧ ∃ z, Zof (P.cst (k : Rat) * H) z) f0 hf0
  by_cases h1 : f = 1
  · subst h1
    refine ⟨zf, fun i => ?_⟩
    rw [← hzf i, cst_c]
    have : (((1 : Nat) : Rat)) = 1 := rfl
    rw [this]; grind
  · obtain ⟨l, hl, hle⟩ := pri_of (n := f) (by omega)
    exfalso
    have hz' : Zof (P.cst (f : Rat) * p) (zp.map (fun y => (f : Int) * y)) := fun i => by
      have e1 : coZ (zp.map (fun y => (f : Int) * y)) i = (f : Int) * coZ zp i := by
        simp only [coZ, List.getD_eq_getElem?_getD, List.getElem?_map]
        cases zp[i]? <;> simp
      rw [cst_c, e1, Rat.intCast_mul, hp i]; rfl
    have hm := zof_mul hg hzf hz' (by rw [← h]; grind)
    have hd : ∀ i, (l : Int) ∣ MZ zg (coZ zf) i := fun i => by
      rw [hm i]
      have e1 : coZ (zp.map (fun y => (f : Int) * y)) i = (f : Int) * coZ zp i := by
        simp only [coZ, List.getD_eq_getElem?_getD, List.getElem?_map]
        cases zp[i]? <;> simp
      rw [e1]
      exact Int.dvd_trans (Int.ofNat_dvd.mpr hle) (Int.dvd_mul_right _ _)
    rcases gauss hl _ zg zf (Nat.le_refl _) hd with h2 | h2
    · exact prim l hl h2
    · exact primitive hf hzf hmin hl hle h2

theorem coZ_mem {z : List Int} {x : Int} (h : x ∈ z) : ∃ i, coZ z i = x := by
  obtain ⟨i, hi, e⟩ := List.getElem_of_mem h
  exact ⟨i, by simp [coZ, hi, e]⟩

theorem ld_c (p : P) : p.ld = p.c (p.len - 1) := lead_eq p.1

/-- **the numbers of a divisor** -/
theorem ht_dvd {p g : P} {b : Nat} (hb : 3 ≤ b) (hp : p ≠ 0) (hl : p.len ≤ 5) (hh : Ht p b) (hg : g.ld = 1) (hd : P.Dvd g p) : Ht g (15 * b + 120) := by
  obtain ⟨h, hgh⟩ := hd
  obtain ⟨D, hD, hDb, zp, hzp, hzb⟩ := hh
  have hg0 : g ≠ 0 := by intro e; subst e; apply hp; grind
  have hh0 : h ≠ 0 := by intro e; subst e; apply hp; grind
  obtain ⟨e0, he0⟩ := exists_whole g
  obtain ⟨e, ⟨he, zg, hzg⟩, hmin⟩ := least_of (fun k => 0 < k ∧ ∃ z, Zof (P.cst (k : Rat) * g) z) e0 he0
  have heq := natCast_ne he
  have hDq := natCast_ne hD
  -- the top number of e * g is e
  have htop : coZ zg (g.len - 1) = (e : Int) := by
    have := hzg (g.len - 1)
    rw [cst_c, ← ld_c, hg] at this
    have h2 : ((e : Int) : Rat) = ((coZ zg (g.len - 1) : Int) : Rat) := by
      rw [← this]
      show (e : Rat) = _
      grind
    exact (Rat.intCast_inj.mp h2).symm
  have prim : ∀ l, Pri l → ¬ ∀ i, (l : Int) ∣ coZ zg i := by
    intro l hl' hall
    have h1 := hall (g.len - 1)
    rw [htop] at h1
    exact primitive he hzg hmin hl' (Int.ofNat_dvd.mp h1) hall
  have hprod : (P.cst (e : Rat) * g) * (P.cst ((D : Rat) / (e : Rat)) * h) = P.cst (D : Rat) * p := by
    rw [hgh]
    have e1 : P.cst (e : Rat) * P.cst ((D : Rat) / (e : Rat)) = P.cst (D : Rat) := by
      rw [cst_mul]; congr 1; grind
    grind
  obtain ⟨zh, hzh⟩ := gauss_div hzg hzp hprod prim
  generalize hG : P.cst (e : Rat) * g = G at hzg hprod
  generalize hH : P.cst ((D : Rat) / (e : Rat)) * h = H at hzh hprod
  generalize hp' : P.cst (D : Rat) * p = p' at hzp hprod
  have hG0 : G ≠ 0 := by rw [← hG]; exact P.mul_ne_zero (cst_ne heq) hg0
  have hH0 : H ≠ 0 := by
    rw [← hH]
    refine P.mul_ne_zero (cst_ne ?_) hh0
    intro h0
    have : (D : Rat) / (e : Rat) * (e : Rat) = D := by grind
    rw [h0] at this; grind
  have hp0 : p' ≠ 0 := by rw [← hp']; exact P.mul_ne_zero (cst_ne hDq) hp
  have lenG : G.len = g.len := by
    rw [← hG, P.len_mul (cst_ne heq) hg0, P.len_cst heq]; omega
  have lenp : p'.len = p.len := by
    rw [← hp', P.len_mul (cst_ne hDq) hp, P.len_cst hDq]; omega
  have nG := nums_spec hzg
  have nH := nums_spec hzh
  have np := nums_spec hzp
  have lG : (nums G).length ≤ 5 := by
    have h1 : G.len ≤ p'.len := P.Dvd.len ⟨H, hprod.symm⟩ hp0
    have h2 : (nums G).length = G.len := by unfold nums; rw [List.length_map]; rfl
    omega
  -- e is not large
  have heb : e ≤ 2 ^ b := by
    have h1 := P.ld_mul hG0 hH0
    rw [hprod, ld_c p', ld_c G, ld_c H, hzp _, hzg _, hzh _, lenG, htop, ← Rat.intCast_mul] at h1
    have h2 := Rat.intCast_inj.mp h1
    have h3 := hzb (p'.len - 1)
    have h4 : coZ zp (p'.len - 1) ≠ 0 := by
      intro h0
      have := P.ld_ne hp0
      rw [ld_c, hzp _, h0] at this
      exact this rfl
    rw [h2] at h3 h4
    have h5 : coZ zh (H.len - 1) ≠ 0 := by intro h0; rw [h0] at h4; simp at h4
    have h6 : B (e : Int) b := by
      rw [Int.mul_comm] at h3
      exact B.of_mul h5 h3
    unfold B at h6
    rwa [Int.natAbs_natCast] at h6
  refine ⟨e, he, Nat.le_trans heb (Nat.pow_le_pow_right (by omega) (by omega)), nums G, by rw [hG]; exact nG.2.1, ?_⟩
  -- values at five places
  have hval : ∀ k : Nat, 1 ≤ k → k ≤ 5 → B (vz (((2 ^ b : Nat) : Int) + (k : Int)) (nums G)) (b + 4 * (b + 2)) := by
    intro k h1 h2
    generalize ha : ((2 ^ b : Nat) : Int) + (k : Int) = a
    have hmul : vz a (nums G) * vz a (nums H) = vz a (nums p') := by
      have h3 : value (a : Rat) p'.1 = value (a : Rat) G.1 * value (a : Rat) H.1 := by
        rw [← hprod]; exact val_mul _ _ _
      rw [val_nums hzg, val_nums hzh, val_nums hzp, ← Rat.intCast_mul] at h3
      exact (Rat.intCast_inj.mp h3).symm
    have hmem : ∀ x ∈ nums p', B x b := by
      intro x hx
      obtain ⟨i, hi⟩ := coZ_mem hx
      rw [← hi, np.2.2 i]; exact hzb i
    have hne : vz a (nums p') ≠ 0 := by
      refine vz_ne (m := 2 ^ b) (by omega) _ hmem ?_
      refine ⟨coZ (nums p') (p'.len - 1), ?_, ?_⟩
      · have h4 : p'.len - 1 < (nums p').length := by
          have := P.len_pos hp0
          have h5 : (nums p').length = p'.len := by unfold nums; rw [List.length_map]; rfl
          omega
        unfold coZ
        rw [List.getD_eq_getElem?_getD, List.getElem?_eq_getElem h4]
        exact List.getElem_mem h4
      · intro h0
        have := P.ld_ne hp0
        rw [ld_c, np.2.1 _, h0] at this
        exact this rfl
    have haB : B a (b + 1) := by
      rw [← ha]
      refine B.add ?_ ?_
      · unfold B; rw [Int.natAbs_natCast]; exact Nat.le_refl _
      · unfold B
        rw [Int.natAbs_natCast]
        have : 2 ^ 3 ≤ 2 ^ b := Nat.pow_le_pow_right (by omega) hb
        omega
    have hB := vz_B haB (nums p') 4 hmem (by
      have h5 : (nums p').length = p'.len := by unfold nums; rw [List.length_map]; rfl
      omega)
    rw [← hmul, Int.mul_comm] at hB
    refine B.of_mul ?_ hB
    intro h0
    rw [h0, Int.mul_zero] at hmul
    exact hne hmul.symm
  -- written out to five numbers
  obtain ⟨c0, c1, c2, c3, c4, hc, hv⟩ : ∃ c0 c1 c2 c3 c4 : Int, (∀ i, coZ (nums G) i = coZ [c0, c1, c2, c3, c4] i) ∧ (∀ a, vz a (nums G) = vz a [c0, c1, c2, c3, c4]) := by
    generalize nums G = w at lG
    match w, lG with
    | [], _ => exact ⟨0, 0, 0, 0, 0, fun i => by
        match i with
        | 0 | 1 | 2 | 3 | 4 => rfl
        | _ + 5 => rfl, fun a => by simp [vz]⟩
    | [x0], _ => exact ⟨x0, 0, 0, 0, 0, fun i => by
        match i with
        | 0 | 1 | 2 | 3 | 4 => rfl
        | _ + 5 => rfl, fun a => by simp [vz]⟩
    | [x0, x1], _ => exact ⟨x0, x1, 0, 0, 0, fun i => by
        match i with
        | 0 | 1 | 2 | 3 | 4 => rfl
        | _ + 5 => rfl, fun a => by simp [vz]⟩
    | [x0, x1, x2], _ => exact ⟨x0, x1, x2, 0, 0, fun i => by
        match i with
        | 0 | 1 | 2 | 3 | 4 => rfl
        | _ + 5 => rfl, fun a => by simp [vz]⟩
    | [x0, x1, x2, x3], _ => exact ⟨x0, x1, x2, x3, 0, fun i => by
        match i with
        | 0 | 1 | 2 | 3 | 4 => rfl
        | _ + 5 => rfl, fun a => by simp [vz]⟩
    | [x0, x1, x2, x3, x4], _ => exact ⟨x0, x1, x2, x3, x4, fun i => rfl, fun a => rfl⟩
  have htb : B (((2 ^ b : Nat) : Int)) b := by unfold B; rw [Int.natAbs_natCast]; exact Nat.le_refl _
  have f := five c0 c1 c2 c3 c4 _ (b + 4 * (b + 2)) b hb htb (fun k h1 h2 => by rw [← hv]; exact hval k h1 h2)
  obtain ⟨f0, f1, f2, f3, f4⟩ := f
  intro i
  rw [hc i]
  match i with
  | 0 => exact f0.mono (by omega)
  | 1 => exact f1.mono (by omega)
  | 2 => exact f2.mono (by omega)
  | 3 => exact f3.mono (by omega)
  | 4 => exact f4.mono (by omega)
  | _ + 5 => exact B.zero _

end Ma
/-! Determinants of tables of polynomials; what the minors have in common. -/
namespace Ma
open AlOne

abbrev Mat := List (List P)
def vals (m : Mat) : List (List Uni) := m.map fun r => r.map fun p => p.1

/-- one term of a determinant -/
def term (d : P) (j : Nat) : P := if j % 2 = 0 then d else -d

def detP : Nat → Mat → P
  | 0, _ => 1
  | n + 1, rows => (((rows.headD []).zip (List.range (n + 1))).map fun x => term (x.1 * detP n (rows.tail.map fun r => r.eraseIdx x.2)) x.2).foldl (· + ·) 0

theorem foldl_val : ∀ (l : List P) (s : P), (l.map fun p => p.1).foldl add s.1 = (l.foldl (· + ·) s).1
  | [], _ => rfl
  | p :: l, s => foldl_val l (s + p)

theorem vals_headD (m : Mat) : (vals m).headD [] = (m.headD []).map fun p => p.1 := by cases m <;> rfl
theorem vals_tail (m : Mat) : (vals m).tail = vals m.tail := by cases m <;> rfl
theorem map_eraseIdx {A C : Type} (f : A → C) : ∀ (l : List A) (i : Nat), (l.eraseIdx i).map f = (l.map f).eraseIdx i
  | [], i => by simp
  | a :: l, 0 => rfl
  | a :: l, i + 1 => by simp [List.eraseIdx, map_eraseIdx f l i]

theorem det_val : ∀ (n : Nat) (m : Mat), Al09.det n (vals m) = (detP n m).1
  | 0, m => by
    show one = (1 : P).1
    rw [P.one_val]
  | n + 1, m => by
    unfold Al09.det detP
    rw [vals_headD, vals_tail, ← P.zero_val, ← foldl_val]
    congr 1
    rw [List.map_map, List.zip_map_left, List.map_map]
    refine List.map_congr_left fun x _ => ?_
    show (if x.2 % 2 = 0 then _ else _) = (term _ _).1
    have ih := det_val n (m.tail.map fun r => r.eraseIdx x.2)
    have e : (vals m.tail).map (fun r => r.eraseIdx x.2) = vals (m.tail.map fun r => r.eraseIdx x.2) := by
      unfold vals
      rw [List.map_map, List.map_map]
      refine List.map_congr_left fun r _ => ?_
      exact (map_eraseIdx _ r x.2).symm
    unfold term
    show (if x.2 % 2 = 0 then mul x.1.1 (Al09.det n ((vals m.tail).map fun r => r.eraseIdx x.2)) else neg (mul x.1.1 (Al09.det n ((vals m.tail).map fun r => r.eraseIdx x.2)))) = _
    rw [e, ih]
    split <;> rfl

/-- sums -/
theorem dvd_foldl {g : P} : ∀ (l : List P) (s : P), P.Dvd g s → (∀ p ∈ l, P.Dvd g p) → P.Dvd g (l.foldl (· + ·) s)
  | [], _, hs, _ => hs
  | p :: l, s, hs, h => dvd_foldl l (s + p) (hs.add (h p (by simp))) (fun q hq => h q (by simp [hq]))

theorem dvd_term {g d : P} (h : P.Dvd g d) (j : Nat) : P.Dvd g (term d j) := by
  unfold term; split
  · exact h
  · exact h.neg

theorem dvd_det {g : P} {n : Nat} {rows : Mat} (h : ∀ j, j < (rows.headD []).length → P.Dvd g (detP n (rows.tail.map fun r => r.eraseIdx j))) : P.Dvd g (detP (n + 1) rows) := by
  unfold detP
  refine dvd_foldl _ _ (P.Dvd.zero g) ?_
  intro p hp
  rw [List.mem_map] at hp
  obtain ⟨x, hx, e⟩ := hp
  rw [← e]
  refine dvd_term ((h x.2 ?_).mul _) _
  obtain ⟨i, hi, e2⟩ := List.getElem_of_mem hx
  have h1 : x.2 = i := by
    rw [← e2, List.getElem_zip]; simp
  rw [List.length_zip, List.length_range] at hi
  omega

/-- the numbers chosen from a table -/
def pick (rows : Mat) (cols : List Nat) : Mat := rows.map fun r => cols.map fun j => r.getD j 0

theorem pick_tail_erase (rows : Mat) (cols : List Nat) (j : Nat) : (pick rows cols).tail.map (fun r => r.eraseIdx j) = pick rows.tail (cols.eraseIdx j) := by
  unfold pick
  rw [← List.map_tail, List.map_map]
  refine List.map_congr_left fun r _ => ?_
  exact (map_eraseIdx _ _ _).symm

theorem mem_choose {A : Type} : ∀ (k : Nat) (l m : List A), m ∈ Al09.choose k l ↔ m.Sublist l ∧ m.length = k
  | 0, l, m => by
    simp only [Al09.choose, List.mem_singleton]
    constructor
    · intro h; subst h; exact ⟨List.nil_sublist l, rfl⟩
    · intro h; exact List.eq_nil_of_length_eq_zero h.2
  | k + 1, [], m => by
    simp only [Al09.choose, List.not_mem_nil, false_iff]
    intro h
    have := h.1.length_le
    simp at this
    rw [this] at h; simp at h
  | k + 1, x :: l, m => by
    simp only [Al09.choose, List.mem_append, List.mem_map]
    rw [mem_choose (k + 1) l m]
    constructor
    · rintro (⟨n, hn, e⟩ | h)
      · rw [mem_choose k l n] at hn
        subst e
        exact ⟨hn.1.cons_cons x, by simp [hn.2]⟩
      · exact ⟨h.1.cons x, h.2⟩
    · rintro ⟨h1, h2⟩
      cases h1 with
      | cons _ h => exact Or.inr ⟨h, h2⟩
      | @cons_cons l1 _ _ h => exact Or.inl ⟨l1, (mem_choose k l l1).mpr ⟨h, by simpa using h2⟩, rfl⟩

/-- goes into all determinants of k rows and columns, so into all of one more -/
theorem dvd_next {g : P} {k : Nat} {L : Mat} {C : List Nat}
    (h : ∀ R S, List.Sublist R L → R.length = k → List.Sublist S C → S.length = k → P.Dvd g (detP k (pick R S))) :
    ∀ R S, List.Sublist R L → R.length = k + 1 → List.Sublist S C → S.length = k + 1 → P.Dvd g (detP (k + 1) (pick R S)) := by
  intro R S h1 h2 h3 h4
  refine dvd_det fun j hj => ?_
  rw [pick_tail_erase]
  cases R with
  | nil => simp at h2
  | cons r R =>
    have hj' : j < S.length := by
      have : ((pick (r :: R) S).headD []).length = S.length := by simp [pick]
      omega
    refine h R (S.eraseIdx j) ((List.sublist_cons_self r R).trans h1) (by simpa using h2) ((List.eraseIdx_sublist S j).trans h3) ?_
    rw [List.length_eraseIdx_of_lt hj']; omega

/-! what all of a list have in common -/
def comL (l : List P) (s : P) : P := l.foldl com s
theorem comL_val : ∀ (l : List P) (s : P), (l.map fun p => p.1).foldl common s.1 = (comL l s).1
  | [], _ => rfl
  | p :: l, s => comL_val l (com s p)

structure IsComL (l : List P) (s g : P) : Prop where
  start : P.Dvd g s
  each : ∀ p ∈ l, P.Dvd g p
  all : ∀ h, P.Dvd h s → (∀ p ∈ l, P.Dvd h p) → P.Dvd h g
  top : (g = 0 ∨ g.ld = 1) ∨ l = []

theorem comL_spec : ∀ (l : List P) (s : P), IsComL l s (comL l s)
  | [], s => ⟨P.Dvd.refl s, by simp, fun h h1 _ => h1, Or.inr rfl⟩
  | p :: l, s => by
    have c := com_spec s p
    have ih := comL_spec l (com s p)
    refine ⟨ih.start.trans c.left, ?_, ?_, ?_⟩
    · intro q hq
      rcases List.mem_cons.mp hq with e | e
      · subst e; exact ih.start.trans c.right
      · exact ih.each q e
    · intro h h1 h2
      exact ih.all h (c.all h h1 (h2 p (by simp))) (fun q hq => h2 q (by simp [hq]))
    · rcases ih.top with h | h
      · exact Or.inl h
      · subst h
        exact Or.inl c.top

/-- lengths of determinants: each row of numbers, or with one more -/
theorem len_foldl {n : Nat} : ∀ (l : List P) (s : P), s.len ≤ n → (∀ p ∈ l, p.len ≤ n) → (l.foldl (· + ·) s).len ≤ n
  | [], _, hs, _ => hs
  | p :: l, s, hs, h => by
    refine len_foldl l (s + p) ?_ (fun q hq => h q (by simp [hq]))
    have := P.len_add s p
    have := h p (by simp)
    omega

theorem len_neg (p : P) : (-p).len = p.len := by
  have h1 : ∀ q : P, (-q).len ≤ q.len := fun q => by
    refine len_le (-q).2 fun i hi => ?_
    have := P.c_neg q i
    unfold P.c at this
    rw [this, co_ge hi]; grind
  have h2 := h1 (-p)
  have h3 : - -p = p := by grind
  rw [h3] at h2
  have := h1 p
  omega

theorem len_term (d : P) (j : Nat) : (term d j).len = d.len := by unfold term; split; rfl; exact len_neg d

theorem len_mul_le {p q : P} {a b : Nat} (hp : p.len ≤ a) (hq : q.len ≤ b + 1) : (p * q).len ≤ a + b := by
  by_cases h1 : p = 0
  · subst h1; have : (0 : P) * q = 0 := by grind
    rw [this, P.len_zero]; omega
  · by_cases h2 : q = 0
    · subst h2; have : p * (0 : P) = 0 := by grind
      rw [this, P.len_zero]; omega
    · rw [P.len_mul h1 h2]; have := P.len_pos h1; have := P.len_pos h2; omega

/-- a row's weight -/
def Rw (r : List P) (w : Nat) : Prop := ∀ p ∈ r, p.len ≤ w + 1

def Rws : Mat → List Nat → Prop
  | [], [] => True
  | r :: m, w :: ws => Rw r w ∧ Rws m ws
  | _, _ => False

theorem rws_erase (j : Nat) : ∀ (m : Mat) (ws : List Nat), Rws m ws → Rws (m.map fun r => r.eraseIdx j) ws
  | [], [], _ => trivial
  | r :: m, w :: ws, h => ⟨fun p hp => h.1 p ((List.eraseIdx_sublist _ _).subset hp), rws_erase j m ws h.2⟩
  | [], _ :: _, h => h.elim
  | _ :: _, [], h => h.elim

theorem len_det : ∀ (n : Nat) (m : Mat) (ws : List Nat), m.length = n → Rws m ws → (detP n m).len ≤ ws.sum + 1
  | 0, m, ws, _, _ => by show (1 : P).len ≤ _; rw [P.len_one]; omega
  | n + 1, [], ws, h, _ => by simp at h
  | n + 1, r :: m, [], _, h => h.elim
  | n + 1, r :: m, w :: ws, h, hf => by
    unfold detP
    refine len_foldl _ _ (by rw [P.len_zero]; omega) ?_
    intro p hp
    rw [List.mem_map] at hp
    obtain ⟨x, hx, e⟩ := hp
    rw [← e, len_term]
    have hx1 : x.1 ∈ r := (List.of_mem_zip (a := x.1) (b := x.2) hx).1
    have ih := len_det n (m.map fun r => r.eraseIdx x.2) ws (by simpa using h) (rws_erase x.2 m ws hf.2)
    have := len_mul_le (hf.1 x.1 hx1) ih
    rw [List.sum_cons]
    show (x.1 * detP n ((r :: m).tail.map fun r => r.eraseIdx x.2)).len ≤ _
    simp only [List.tail_cons]
    omega

end Ma
/-! x less a table: its determinant has 1 at its highest power. -/
namespace Ma
open AlOne

theorem add_short {p q : P} (h : q.len < p.len) : (p + q).len = p.len ∧ (p + q).ld = p.ld := by
  have hp : p ≠ 0 := by intro e; subst e; rw [P.len_zero] at h; omega
  have h1 : (p + q).c (p.len - 1) = p.ld := by
    rw [P.c_add, ← ld_c]
    have : q.c (p.len - 1) = 0 := co_ge (show q.len ≤ p.len - 1 by omega)
    rw [this]; grind
  have e : (p + q).len = (p.len - 1) + 1 := by
    refine len_eq (p + q).2 (fun i hi => ?_) ?_
    · show (p + q).c i = 0
      rw [P.c_add]
      have h3 : p.c i = 0 := co_ge (show p.len ≤ i by omega)
      have h4 : q.c i = 0 := co_ge (show q.len ≤ i by omega)
      rw [h3, h4]; grind
    · show (p + q).c _ ≠ 0
      rw [h1]; exact P.ld_ne hp
  have hpos := P.len_pos hp
  refine ⟨by omega, ?_⟩
  rw [ld_c, e]; exact h1

theorem foldl_short {n : Nat} : ∀ (l : List P) (s : P), n < s.len → (∀ p ∈ l, p.len ≤ n) → (l.foldl (· + ·) s).len = s.len ∧ (l.foldl (· + ·) s).ld = s.ld
  | [], _, _, _ => ⟨rfl, rfl⟩
  | p :: l, s, hs, h => by
    have h1 := h p (by simp)
    have a := add_short (p := s) (q := p) (by omega)
    have := foldl_short l (s + p) (by omega) (fun q hq => h q (by simp [hq]))
    exact ⟨by rw [← a.1]; exact this.1, by rw [← a.2]; exact this.2⟩

structure IsX (n : Nat) (m : Mat) : Prop where
  rows : m.length = n
  wid : ∀ r ∈ m, r.length = n
  diag : ∀ i, i < n → ((m.getD i []).getD i 0).len = 2 ∧ ((m.getD i []).getD i 0).ld = 1
  off : ∀ i j, i < n → j < n → i ≠ j → ((m.getD i []).getD j 0).len ≤ 1

theorem IsX.mem {n : Nat} {m : Mat} (h : IsX n m) {i : Nat} (hi : i < n) : m.getD i [] ∈ m := by
  have : i < m.length := by rw [h.rows]; exact hi
  rw [List.getD_eq_getElem?_getD, List.getElem?_eq_getElem this]
  exact List.getElem_mem this

theorem rws_of (w : Nat → Nat) : ∀ (m : Mat) (k : Nat), (∀ i, i < m.length → Rw (m.getD i []) (w (k + i))) → Rws m ((List.range' k m.length).map w)
  | [], _, _ => trivial
  | r :: m, k, h => by
    refine ⟨?_, ?_⟩
    · have := h 0 (by simp)
      simpa using this
    · have := rws_of w m (k + 1) (fun i hi => by
        have := h (i + 1) (by simp; omega)
        have e : k + (i + 1) = k + 1 + i := by omega
        rw [e] at this
        simpa using this)
      simpa using this

theorem sum_but (j : Nat) : ∀ (n k : Nat), ((List.range' k n).map fun i => if i = j then 0 else 1).sum + (if k ≤ j ∧ j < k + n then 1 else 0) = n
  | 0, k => by
    have : ¬ (k ≤ j ∧ j < k + 0) := by omega
    simp [this]
  | n + 1, k => by
    have ih := sum_but j n (k + 1)
    rw [List.range'_succ, List.map_cons, List.sum_cons]
    by_cases h : k = j
    · have h1 : ¬ (k + 1 ≤ j ∧ j < k + 1 + n) := by omega
      have h2 : k ≤ j ∧ j < k + (n + 1) := by omega
      rw [if_neg h1] at ih
      rw [if_pos h, if_pos h2]; omega
    · rw [if_neg h]
      by_cases h1 : k + 1 ≤ j ∧ j < k + 1 + n
      · have h2 : k ≤ j ∧ j < k + (n + 1) := by omega
        rw [if_pos h1] at ih
        rw [if_pos h2]; omega
      · have h2 : ¬ (k ≤ j ∧ j < k + (n + 1)) := by omega
        rw [if_neg h1] at ih
        rw [if_neg h2]; omega

theorem getD_map_erase (m : Mat) (i j : Nat) : (m.map fun r => r.eraseIdx j).getD i [] = (m.getD i []).eraseIdx j := by
  simp only [List.getD_eq_getElem?_getD, List.getElem?_map]
  cases m[i]? <;> simp

theorem getD_erase_zero (r : List P) (j : Nat) : (r.eraseIdx 0).getD j 0 = r.getD (j + 1) 0 := by
  cases r <;> simp

/-- without its first row and column -/
theorem IsX.less {n : Nat} {r : List P} {m : Mat} (h : IsX (n + 1) (r :: m)) : IsX n (m.map fun r => r.eraseIdx 0) := by
  have hl : m.length = n := by have := h.rows; simpa using this
  refine ⟨by simpa using hl, ?_, ?_, ?_⟩
  · intro s hs
    rw [List.mem_map] at hs
    obtain ⟨t, ht, e⟩ := hs
    have := h.wid t (by simp [ht])
    rw [← e, List.length_eraseIdx_of_lt (by omega)]; omega
  · intro i hi
    have := h.diag (i + 1) (by omega)
    rw [getD_map_erase, getD_erase_zero]
    simpa using this
  · intro i j hi hj hij
    have := h.off (i + 1) (j + 1) (by omega) (by omega) (by omega)
    rw [getD_map_erase, getD_erase_zero]
    simpa using this

theorem IsX.len_erase {n : Nat} {r : List P} {m : Mat} (h : IsX (n + 1) (r :: m)) {j : Nat} (h0 : 0 < j) (hj : j < n + 1) :
    (detP n (m.map fun r => r.eraseIdx j)).len ≤ n := by
  have hl : m.length = n := by have := h.rows; simpa using this
  have hr := rws_of (fun i => if i = j then 0 else 1) (m.map fun r => r.eraseIdx j) 1 (fun i hi p hp => by
    rw [getD_map_erase] at hp
    rw [List.length_map, hl] at hi
    have hw : (m.getD i []).length = n + 1 := by
      have := h.mem (i := i + 1) (by omega)
      have e : (r :: m).getD (i + 1) [] = m.getD i [] := by simp
      rw [e] at this
      exact h.wid _ this
    rw [List.mem_eraseIdx_iff_getElem] at hp
    obtain ⟨k, hk, hne, e⟩ := hp
    have e2 : p = (m.getD i []).getD k 0 := by
      rw [List.getD_eq_getElem?_getD (l := m.getD i []), List.getElem?_eq_getElem hk, ← e]; rfl
    have e3 : (r :: m).getD (i + 1) [] = m.getD i [] := by simp
    show p.len ≤ (if 1 + i = j then 0 else 1) + 1
    by_cases hik : i + 1 = k
    · have hd := (h.diag (i + 1) (by omega)).1
      rw [e3] at hd
      subst hik
      rw [← e2] at hd
      rw [if_neg (by omega)]; omega
    · have := h.off (i + 1) k (by omega) (by omega) hik
      rw [e3, ← e2] at this
      omega)
  rw [List.length_map, hl] at hr
  have := len_det n _ _ (by simpa using hl) hr
  have hs := sum_but j n 1
  rw [if_pos (by omega)] at hs
  omega

/-- **the polynomial of a table**: one more number than rows, 1 at its top -/
theorem IsX.det : ∀ {n : Nat} {m : Mat}, IsX n m → (detP n m).len = n + 1 ∧ (detP n m).ld = 1
  | 0, m, _ => ⟨P.len_one, P.ld_one⟩
  | n + 1, [], h => by have := h.rows; simp at this
  | n + 1, r :: m, h => by
    have hr : r.length = n + 1 := h.wid r (by simp)
    have hd := h.diag 0 (by omega)
    have ih := IsX.det h.less
    have he : ∀ j, 0 < j → j < n + 1 → (detP n (m.map fun r => r.eraseIdx j)).len ≤ n := fun j h0 hj => h.len_erase h0 hj
    have ho : ∀ j, 0 < j → j < n + 1 → (r.getD j 0).len ≤ 1 := fun j h0 hj => by
      have := h.off 0 j (by omega) hj (by omega)
      simpa using this
    cases r with
    | nil => simp at hr
    | cons e0 r =>
      have hd' : e0.len = 2 ∧ e0.ld = 1 := by simpa using hd
      have ne0 : e0 ≠ 0 := by intro e; have := hd'.1; rw [e, P.len_zero] at this; omega
      have nd : detP n (m.map fun r => r.eraseIdx 0) ≠ 0 := by intro e; have := ih.1; rw [e, P.len_zero] at this; omega
      have l1 := P.len_mul ne0 nd
      have l2 := P.ld_mul ne0 nd
      rw [hd'.1, ih.1] at l1
      rw [hd'.2, ih.2] at l2
      unfold detP
      rw [List.headD_cons, List.range_succ_eq_map, List.zip_cons_cons, List.map_cons, List.foldl_cons, List.tail_cons]
      have es : (0 : P) + term (e0 * detP n (m.map fun r => r.eraseIdx 0)) 0 = e0 * detP n (m.map fun r => r.eraseIdx 0) := by
        show (0 : P) + (e0 * detP n (m.map fun r => r.eraseIdx 0)) = _
        grind
      rw [es]
      have fs := foldl_short (n := n) ((r.zip ((List.range n).map Nat.succ)).map fun x => term (x.1 * detP n (m.map fun r => r.eraseIdx x.2)) x.2)
        (e0 * detP n (m.map fun r => r.eraseIdx 0)) (by omega) (by
          intro p hp
          rw [List.mem_map] at hp
          obtain ⟨x, hx, e⟩ := hp
          rw [← e, len_term]
          obtain ⟨i, hi, e2⟩ := List.getElem_of_mem hx
          rw [List.getElem_zip] at e2
          rw [List.length_zip, List.length_map, List.length_range] at hi
          have e3 : x.2 = i + 1 := by rw [← e2]; simp
          have e4 : x.1 = r.getD i 0 := by
            rw [← e2]
            show r[i] = _
            rw [List.getD_eq_getElem?_getD, List.getElem?_eq_getElem (by omega)]; rfl
          have h5 := ho (i + 1) (by omega) (by omega)
          have e5 : (e0 :: r).getD (i + 1) 0 = r.getD i 0 := by simp
          rw [e5, ← e4] at h5
          have h6 := he (i + 1) (by omega) (by omega)
          rw [← e3] at h6
          have hn : 0 < n := by omega
          have := len_mul_le (p := x.1) (q := detP n (m.map fun r => r.eraseIdx x.2)) (a := 1) (b := n - 1) h5 (by omega)
          omega)
      refine ⟨?_, ?_⟩
      · rw [fs.1]; omega
      · rw [fs.2, l2]; grind

end Ma
/-! The specification's forms, by what they are. -/
namespace Ma
open AlOne

def xEntry (c : Rat) (d : Bool) : P := if d then ⟨trim [-c, 1], tr_trim _⟩ else ⟨trim [-c], tr_trim _⟩

/-- x less a table -/
def lessP (a : Al09.Table) : Mat := (a.zip (List.range a.length)).map fun r => (r.1.zip (List.range a.length)).map fun x => xEntry x.1 (decide (x.2 = r.2))

theorem lessP_vals (a : Al09.Table) : vals (lessP a) = Al09.lessX a := by
  unfold vals lessP Al09.lessX
  rw [List.map_map]
  refine List.map_congr_left fun r _ => ?_
  show ((r.1.zip (List.range a.length)).map _).map _ = _
  rw [List.map_map]
  refine List.map_congr_left fun x _ => ?_
  show (xEntry x.1 (decide (x.2 = r.2))).1 = _
  unfold xEntry
  by_cases h : x.2 = r.2
  · simp [h]
  · simp [h]

/-- a square table -/
structure Sq (n : Nat) (a : Al09.Table) : Prop where
  rows : a.length = n
  wid : ∀ r ∈ a, r.length = n

theorem lessP_row {n : Nat} {a : Al09.Table} (h : Sq n a) {i : Nat} (hi : i < n) :
    (lessP a).getD i [] = ((a.getD i []).zip (List.range n)).map fun x => xEntry x.1 (decide (x.2 = i)) := by
  unfold lessP
  have h1 : i < a.length := by rw [h.rows]; exact hi
  rw [List.getD_eq_getElem?_getD, List.getElem?_map]
  have e : (a.zip (List.range a.length))[i]? = some (a.getD i [], i) := by
    rw [List.getElem?_eq_getElem (by simp; omega), List.getElem_zip]
    simp [List.getD_eq_getElem?_getD, h1]
  rw [e, h.rows]; rfl

theorem row_len {n : Nat} {a : Al09.Table} (h : Sq n a) {i : Nat} (hi : i < n) : (a.getD i []).length = n := by
  have h1 : i < a.length := by rw [h.rows]; exact hi
  refine h.wid _ ?_
  rw [List.getD_eq_getElem?_getD, List.getElem?_eq_getElem h1]
  exact List.getElem_mem h1

theorem lessP_entry {n : Nat} {a : Al09.Table} (h : Sq n a) {i j : Nat} (hi : i < n) (hj : j < n) :
    ((lessP a).getD i []).getD j 0 = xEntry ((a.getD i []).getD j 0) (decide (j = i)) := by
  rw [lessP_row h hi]
  have hl := row_len h hi
  generalize a.getD i [] = r at hl
  rw [List.getD_eq_getElem?_getD, List.getElem?_map]
  have e : (r.zip (List.range n))[j]? = some (r.getD j 0, j) := by
    rw [List.getElem?_eq_getElem (by simp; omega), List.getElem_zip]
    simp [List.getD_eq_getElem?_getD, show j < r.length by omega]
  rw [e]; rfl

theorem xEntry_true (c : Rat) : (xEntry c true).len = 2 ∧ (xEntry c true).ld = 1 := by
  have : trim [-c, 1] = [-c, 1] := by rw [trim_cons]; simp [trim]
  constructor
  · show (trim [-c, 1]).length = 2
    rw [this]; rfl
  · show lead (trim [-c, 1]) = 1
    rw [this]; rfl

theorem xEntry_false (c : Rat) : (xEntry c false).len ≤ 1 := by
  show (trim [-c]).length ≤ 1
  rw [trim_cons]; simp only [trim, if_true]; split <;> simp

theorem lessP_isX {n : Nat} {a : Al09.Table} (h : Sq n a) : IsX n (lessP a) := by
  refine ⟨?_, ?_, ?_, ?_⟩
  · unfold lessP; simp [h.rows]
  · intro r hr
    unfold lessP at hr
    rw [List.mem_map] at hr
    obtain ⟨x, hx, e⟩ := hr
    have hx1 : x.1 ∈ a := (List.of_mem_zip (a := x.1) (b := x.2) hx).1
    rw [← e]; simp [h.rows, h.wid x.1 hx1]
  · intro i hi
    rw [lessP_entry h hi hi]
    simp only [decide_true]
    exact xEntry_true _
  · intro i j hi hj hij
    rw [lessP_entry h hi hj, decide_eq_false (by omega)]
    exact xEntry_false _

theorem choose_map {A C : Type} (f : A → C) : ∀ (k : Nat) (l : List A), Al09.choose k (l.map f) = (Al09.choose k l).map (List.map f)
  | 0, l => by simp [Al09.choose]
  | k + 1, [] => by simp [Al09.choose]
  | k + 1, x :: l => by
    simp only [List.map_cons, Al09.choose, List.map_append, List.map_map]
    rw [choose_map f k l, choose_map f (k + 1) l, List.map_map]
    congr 1

/-- the determinants of k rows and columns -/
def minorsP (a : Al09.Table) (k : Nat) : List P :=
  (Al09.choose k (lessP a)).flatMap fun R => (Al09.choose k (List.range a.length)).map fun S => detP k (pick R S)

theorem pick_val (R : Mat) (S : List Nat) : (vals R).map (fun r => S.map fun j => r.getD j []) = vals (pick R S) := by
  unfold vals pick
  rw [List.map_map, List.map_map]
  refine List.map_congr_left fun r _ => ?_
  show S.map _ = (S.map _).map _
  rw [List.map_map]
  refine List.map_congr_left fun j _ => ?_
  show (r.map fun p => p.1).getD j [] = (r.getD j 0).1
  simp only [List.getD_eq_getElem?_getD, List.getElem?_map]
  cases r[j]? with
  | none => exact P.zero_val.symm
  | some x => rfl

theorem minors_val (a : Al09.Table) (k : Nat) :
    ((Al09.choose k (Al09.lessX a)).flatMap fun rows => (Al09.choose k (List.range a.length)).map fun cols => Al09.det k (rows.map fun r => cols.map fun j => r.getD j []))
      = (minorsP a k).map fun p => p.1 := by
  unfold minorsP
  rw [← lessP_vals]
  unfold vals
  rw [choose_map, List.map_flatMap, List.flatMap_map]
  congr 1
  funext R
  rw [List.map_map]
  refine List.map_congr_left fun S _ => ?_
  show Al09.det k _ = (detP k (pick R S)).1
  rw [← det_val]
  congr 1
  exact pick_val R S

/-- what they have in common -/
def dP (a : Al09.Table) (k : Nat) : P := comL (minorsP a k) 0

theorem dP_val (a : Al09.Table) (k : Nat) : Al09.divisor a k = (dP a k).1 := by
  unfold Al09.divisor dP
  rw [minors_val, ← P.zero_val, comL_val]

theorem mem_minors {a : Al09.Table} {k : Nat} {p : P} : p ∈ minorsP a k ↔ ∃ R S, List.Sublist R (lessP a) ∧ R.length = k ∧ List.Sublist S (List.range a.length) ∧ S.length = k ∧ p = detP k (pick R S) := by
  unfold minorsP
  simp only [List.mem_flatMap, List.mem_map, mem_choose]
  constructor
  · rintro ⟨R, ⟨h1, h2⟩, S, ⟨h3, h4⟩, e⟩
    exact ⟨R, S, h1, h2, h3, h4, e.symm⟩
  · rintro ⟨R, S, h1, h2, h3, h4, e⟩
    exact ⟨R, ⟨h1, h2⟩, S, ⟨h3, h4⟩, e.symm⟩

theorem dP_each {a : Al09.Table} {k : Nat} {p : P} (h : p ∈ minorsP a k) : P.Dvd (dP a k) p := (comL_spec (minorsP a k) 0).each p h

/-- **each goes into the next** -/
theorem dP_next (a : Al09.Table) (k : Nat) : P.Dvd (dP a k) (dP a (k + 1)) := by
  refine (comL_spec (minorsP a (k + 1)) 0).all _ (P.Dvd.zero _) ?_
  intro p hp
  obtain ⟨R, S, h1, h2, h3, h4, e⟩ := mem_minors.mp hp
  rw [e]
  refine dvd_next (L := lessP a) (C := List.range a.length) ?_ R S h1 h2 h3 h4
  intro R S h1 h2 h3 h4
  exact dP_each (mem_minors.mpr ⟨R, S, h1, h2, h3, h4, rfl⟩)

theorem sublist_full {A : Type} {l m : List A} (h : List.Sublist l m) (e : l.length = m.length) : l = m := h.eq_of_length e

theorem pick_self {n : Nat} {m : Mat} (h : IsX n m) : pick m (List.range n) = m := by
  unfold pick
  conv => rhs; rw [← List.map_id m]
  refine List.map_congr_left fun r hr => ?_
  have hl := h.wid r hr
  apply List.ext_getElem
  · simp [hl]
  · intro i h1 h2
    simp only [List.length_map, List.length_range] at h1
    simp [List.getD_eq_getElem?_getD, show i < r.length by omega]

def charP (a : Al09.Table) : P := detP a.length (lessP a)
theorem charP_val (a : Al09.Table) : Al09.char_ a = (charP a).1 := by
  unfold Al09.char_ charP
  rw [← det_val, lessP_vals]

theorem choose_len {A : Type} : ∀ (l : List A), Al09.choose l.length l = [l]
  | [] => rfl
  | x :: l => by
    have h : ∀ (l : List A) (k : Nat), l.length < k → Al09.choose k l = [] := by
      intro l k hk
      apply List.eq_nil_iff_forall_not_mem.mpr
      intro m hm
      rw [mem_choose] at hm
      have := hm.1.length_le
      omega
    simp only [List.length_cons, Al09.choose]
    rw [choose_len l, h l (l.length + 1) (by omega)]; rfl

theorem com_zero_left {p : P} (h : p.ld = 1) : com 0 p = p :=
  com_eq ⟨P.Dvd.zero p, P.Dvd.refl p, fun _ _ h2 => h2, Or.inr h⟩

theorem minors_last {n : Nat} {a : Al09.Table} (h : Sq n a) : minorsP a n = [charP a] := by
  unfold minorsP charP
  have hx := lessP_isX h
  have e1 : Al09.choose n (lessP a) = [lessP a] := by
    have := choose_len (lessP a); rwa [hx.rows] at this
  have e2 : Al09.choose n (List.range a.length) = [List.range n] := by
    have := choose_len (List.range n)
    rw [List.length_range] at this
    rw [h.rows]; exact this
  rw [e1, e2, h.rows]
  simp [pick_self hx]

theorem charP_top {n : Nat} {a : Al09.Table} (h : Sq n a) : (charP a).len = n + 1 ∧ (charP a).ld = 1 := by
  have := (lessP_isX h).det
  unfold charP
  rw [h.rows]; exact this

theorem dP_last {n : Nat} {a : Al09.Table} (h : Sq n a) : dP a n = charP a := by
  unfold dP
  rw [minors_last h]
  exact com_zero_left (charP_top h).2

theorem dP_zero (a : Al09.Table) : dP a 0 = 1 := by
  unfold dP minorsP
  have : ((Al09.choose 0 (lessP a)).flatMap fun R => (Al09.choose 0 (List.range a.length)).map fun S => detP 0 (pick R S)) = [(1 : P)] := by
    simp [Al09.choose, detP]
  rw [this]
  exact com_zero_left P.ld_one

theorem dP_le (a : Al09.Table) (k : Nat) : ∀ d, P.Dvd (dP a k) (dP a (k + d))
  | 0 => P.Dvd.refl _
  | d + 1 => (dP_le a k d).trans (dP_next a (k + d))

theorem dP_char {n : Nat} {a : Al09.Table} (h : Sq n a) {k : Nat} (hk : k ≤ n) : P.Dvd (dP a k) (charP a) := by
  have := dP_le a k (n - k)
  rw [show k + (n - k) = n by omega, dP_last h] at this
  exact this

theorem charP_ne {n : Nat} {a : Al09.Table} (h : Sq n a) : charP a ≠ 0 := by
  intro e; have := (charP_top h).1; rw [e, P.len_zero] at this; omega

theorem dP_ne {n : Nat} {a : Al09.Table} (h : Sq n a) {k : Nat} (hk : k ≤ n) : dP a k ≠ 0 := by
  intro e
  have := dP_char h hk
  rw [e] at this
  exact charP_ne h this.of_zero

theorem dP_ld {n : Nat} {a : Al09.Table} (h : Sq n a) {k : Nat} (hk : k ≤ n) : (dP a k).ld = 1 := by
  rcases (comL_spec (minorsP a k) 0).top with h1 | h1
  · rcases h1 with h1 | h1
    · exact absurd h1 (dP_ne h hk)
    · exact h1
  · exfalso
    apply dP_ne h hk
    unfold dP
    rw [h1]; rfl

/-- **the quotient**: each is the one before times the form -/
theorem fP_spec {n : Nat} {a : Al09.Table} (h : Sq n a) {k : Nat} (hk : k < n) :
    ∃ f : P, dP a (k + 1) = f * dP a k ∧ f.ld = 1 ∧ Al09.factor a (k + 1) = f.1 ∧ over (dP a (k + 1)).1 (dP a k).1 = f.1 ∧ P.Dvd f (charP a) := by
  obtain ⟨f, hf⟩ := dP_next a k
  have h0 := dP_ne h (show k ≤ n by omega)
  have h1 := dP_ne h (show k + 1 ≤ n by omega)
  have hf0 : f ≠ 0 := by intro e; apply h1; rw [hf, e]; grind
  have hf' : dP a (k + 1) = f * dP a k := by rw [hf]; grind
  have hl : f.ld = 1 := by
    have := P.ld_mul h0 hf0
    rw [← hf, dP_ld h (show k ≤ n by omega), dP_ld h (show k + 1 ≤ n by omega)] at this
    grind
  have ho : over (dP a (k + 1)).1 (dP a k).1 = f.1 := by
    rw [hf']; exact over_mul f _ h0
  refine ⟨f, hf', hl, ?_, ho, ?_⟩
  · unfold Al09.factor
    rw [dP_val, dP_val, show k + 1 - 1 = k by omega, ho]
    have := mon_of_ld hl
    exact congrArg Subtype.val this
  · exact P.Dvd.trans ⟨dP a k, hf'⟩ (dP_char h (show k + 1 ≤ n by omega))

def fP (a : Al09.Table) (k : Nat) : P := ⟨over (dP a (k + 1)).1 (dP a k).1, by
  unfold over
  by_cases h : dP a k = 0
  · have : ((dP a k).1) = [] := P.eq_zero_iff.mp h
    rw [this]
    unfold divMod
    cases hl : (dP a (k + 1)).1.length with
    | zero => exact tr_nil
    | succ m => unfold divFrom; rw [if_pos (Or.inr rfl)]; exact tr_nil
  · obtain ⟨s, r, e, _⟩ := divMod_spec (dP a (k + 1)) (dP a k) h
    rw [e]; exact s.2⟩

theorem fP_all {n : Nat} {a : Al09.Table} (h : Sq n a) {k : Nat} (hk : k < n) :
    dP a (k + 1) = fP a k * dP a k ∧ (fP a k).ld = 1 ∧ Al09.factor a (k + 1) = (fP a k).1 ∧ P.Dvd (fP a k) (charP a) := by
  obtain ⟨f, h1, h2, h3, h4, h5⟩ := fP_spec h hk
  have e : fP a k = f := Subtype.ext h4
  rw [e]; exact ⟨h1, h2, h3, h5⟩

/-- **the forms** -/
def formsP (a : Al09.Table) : List P := ((List.range a.length).map fun k => fP a k).filter fun p => decide (2 ≤ p.1.length)

theorem forms_val {n : Nat} {a : Al09.Table} (h : Sq n a) : Al09.forms a = (formsP a).map fun p => p.1 := by
  unfold Al09.forms formsP
  have e : ((List.range a.length).map fun k => Al09.factor a (k + 1)) = ((List.range a.length).map fun k => fP a k).map fun p => p.1 := by
    rw [List.map_map]
    refine List.map_congr_left fun k hk => ?_
    rw [List.mem_range, h.rows] at hk
    exact (fP_all h hk).2.2.1
  rw [e, List.filter_map]
  rfl

end Ma
/-! How large the numbers of the determinants are. -/
namespace Ma
open AlOne

/-- made whole by D, then no larger than 2^m -/
def HtD (p : P) (D m : Nat) : Prop := ∃ z, Zof (P.cst (D : Rat) * p) z ∧ ∀ i, B (coZ z i) m

theorem HtD.ht {p : P} {D m b : Nat} (h : HtD p D m) (hD : 0 < D) (hb : D ≤ 2 ^ b) (hm : m ≤ b) : Ht p b := by
  obtain ⟨z, h1, h2⟩ := h
  exact ⟨D, hD, hb, z, h1, fun i => (h2 i).mono hm⟩
theorem HtD.mono {p : P} {D m n : Nat} (h : HtD p D m) (hm : m ≤ n) : HtD p D n := by
  obtain ⟨z, h1, h2⟩ := h
  exact ⟨z, h1, fun i => (h2 i).mono hm⟩

/-- the number at a power is whole, and so large -/
theorem htD_iff {p : P} {D m : Nat} : HtD p D m ↔ ∀ i, ∃ y : Int, (D : Rat) * p.c i = (y : Rat) ∧ B y m := by
  constructor
  · rintro ⟨z, h1, h2⟩ i
    exact ⟨coZ z i, by rw [← h1 i, cst_c], h2 i⟩
  · intro h
    have e : ∀ i, P.c (P.cst (D : Rat) * p) i = (((P.c (P.cst (D : Rat) * p) i).num : Int) : Rat) := by
      intro i
      obtain ⟨y, hy, _⟩ := h i
      rw [cst_c, hy]; simp
    have hz : ∀ i, coZ (nums (P.cst (D : Rat) * p)) i = (P.c (P.cst (D : Rat) * p) i).num := by
      intro i
      unfold nums P.c co coZ
      simp only [List.getD_eq_getElem?_getD, List.getElem?_map]
      cases (P.cst (D : Rat) * p).1[i]? <;> simp
    refine ⟨nums (P.cst (D : Rat) * p), fun i => ?_, fun i => ?_⟩
    · rw [hz i]; exact e i
    · obtain ⟨y, hy, hb⟩ := h i
      rw [hz i, cst_c, hy]; simpa using hb

theorem HtD.zero (D m : Nat) : HtD 0 D m := htD_iff.mpr fun i => ⟨0, by
  have : (0 : P).c i = 0 := by unfold P.c; rw [P.zero_val, co_nil]
  rw [this]; simp, B.zero _⟩
theorem HtD.add {p q : P} {D m : Nat} (h : HtD p D m) (h2 : HtD q D m) : HtD (p + q) D (m + 1) := by
  rw [htD_iff] at *
  intro i
  obtain ⟨y, e, b⟩ := h i
  obtain ⟨y2, e2, b2⟩ := h2 i
  refine ⟨y + y2, ?_, b.add b2⟩
  rw [P.c_add, Rat.intCast_add, ← e, ← e2]; grind
theorem HtD.neg {p : P} {D m : Nat} (h : HtD p D m) : HtD (-p) D m := by
  rw [htD_iff] at *
  intro i
  obtain ⟨y, e, b⟩ := h i
  refine ⟨-y, ?_, b.neg⟩
  rw [P.c_neg, Rat.intCast_neg, ← e]; grind
theorem HtD.one : HtD 1 1 0 := by
  rw [htD_iff]
  intro i
  have : (1 : P).c i = delta i := by unfold P.c; rw [P.one_val, co_one]
  rw [this]
  have h1 : (((1 : Nat) : Rat)) = 1 := rfl
  cases i with
  | zero => exact ⟨1, by rw [h1]; simp [delta], by unfold B; simp⟩
  | succ i => exact ⟨0, by simp [delta], B.zero _⟩

theorem MZ_B {m n : Nat} {f : Nat → Int} (hf : ∀ i, B (f i) n) : ∀ (a : List Int), (∀ x ∈ a, B x m) → ∀ i, B (MZ a f i) (m + n + a.length)
  | [], _, _ => B.zero _
  | c :: a, h, i => by
    have ih := MZ_B hf a (fun x hx => h x (by simp [hx]))
    have h1 : B (c * f i) (m + n + a.length) := ((h c (by simp)).mul (hf i)).mono (by omega)
    have h2 : B (shZ (MZ a f) i) (m + n + a.length) := by
      cases i with
      | zero => exact B.zero _
      | succ i => exact ih i
    exact h1.add h2

theorem HtD.mul {p q : P} {D E m n L : Nat} (h : HtD p D m) (h2 : HtD q E n) (hL : p.len ≤ L) (hD : 0 < D) : HtD (p * q) (D * E) (m + n + L) := by
  obtain ⟨z, h1, hb⟩ := h
  obtain ⟨y, h3, hb2⟩ := h2
  have ns := nums_spec h1
  rw [htD_iff]
  intro i
  refine ⟨MZ (nums (P.cst (D : Rat) * p)) (coZ y) i, ?_, ?_⟩
  · have e : (P.cst (D : Rat) * p) * (P.cst (E : Rat) * q) = P.cst ((D * E : Nat) : Rat) * (p * q) := by
      have e1 : P.cst ((D * E : Nat) : Rat) = P.cst (D : Rat) * P.cst (E : Rat) := by rw [cst_mul, Rat.natCast_mul]
      rw [e1]; grind
    rw [← cst_c, ← e, P.c_mul]
    have e1 : (P.cst (E : Rat) * q).c = fun j => ((coZ y j : Int) : Rat) := by funext j; exact h3 j
    have e2 := M_toQ (nums (P.cst (D : Rat) * p)) (coZ y) i
    rw [ns.1] at e2
    rw [e1]; exact e2
  · have hlen : (nums (P.cst (D : Rat) * p)).length ≤ L := by
      unfold nums
      rw [List.length_map]
      show (P.cst (D : Rat) * p).len ≤ L
      by_cases h0 : p = 0
      · subst h0
        have : P.cst (D : Rat) * (0 : P) = 0 := by grind
        rw [this, P.len_zero]; omega
      · have := natCast_ne hD
        rw [P.len_mul (cst_ne this) h0, P.len_cst this]; omega
    exact (MZ_B hb2 _ (fun x hx => by
      obtain ⟨j, hj⟩ := coZ_mem hx
      rw [← hj, ns.2.2 j]; exact hb j) i).mono (by omega)

theorem htD_foldl {D t : Nat} : ∀ (l : List P) (s : P) (k : Nat), HtD s D (t + k) → (∀ p ∈ l, HtD p D t) → HtD (l.foldl (· + ·) s) D (t + k + l.length)
  | [], _, _, hs, _ => hs
  | p :: l, s, k, hs, h => by
    have := htD_foldl l (s + p) (k + 1) (hs.add ((h p (by simp)).mono (by omega))) (fun q hq => h q (by simp [hq]))
    exact this.mono (by simp only [List.length_cons]; omega)

theorem htD_term {d : P} {D m : Nat} (h : HtD d D m) (j : Nat) : HtD (term d j) D m := by
  unfold term; split
  · exact h
  · exact h.neg

/-- rows with what makes each whole -/
def RowsD (m0 : Nat) : Mat → List Nat → Prop
  | [], [] => True
  | r :: m, D :: Ds => (0 < D ∧ ∀ p ∈ r, p.len ≤ 2 ∧ HtD p D m0) ∧ RowsD m0 m Ds
  | _, _ => False

theorem rowsD_erase {m0 : Nat} (j : Nat) : ∀ (m : Mat) (Ds : List Nat), RowsD m0 m Ds → RowsD m0 (m.map fun r => r.eraseIdx j) Ds
  | [], [], _ => trivial
  | _ :: m, _ :: Ds, h => ⟨⟨h.1.1, fun p hp => h.1.2 p ((List.eraseIdx_sublist _ _).subset hp)⟩, rowsD_erase j m Ds h.2⟩
  | [], _ :: _, h => h.elim
  | _ :: _, [], h => h.elim

def prod : List Nat → Nat
  | [] => 1
  | d :: l => d * prod l

def bt (m0 : Nat) : Nat → Nat
  | 0 => 0
  | n + 1 => m0 + bt m0 n + 2 + (n + 1)

theorem htD_det {m0 : Nat} : ∀ (n : Nat) (m : Mat) (Ds : List Nat), m.length = n → RowsD m0 m Ds → HtD (detP n m) (prod Ds) (bt m0 n)
  | 0, [], [], _, _ => HtD.one
  | 0, [], _ :: _, _, h => h.elim
  | 0, _ :: _, _, h, _ => by simp at h
  | n + 1, [], _, h, _ => by simp at h
  | n + 1, _ :: _, [], _, h => h.elim
  | n + 1, r :: m, D :: Ds, h, hr => by
    unfold detP
    have := htD_foldl (D := prod (D :: Ds)) (t := m0 + bt m0 n + 2)
      (((r.zip (List.range (n + 1))).map fun x => term (x.1 * detP n (m.map fun r => r.eraseIdx x.2)) x.2)) 0 0 (HtD.zero _ _) (by
        intro p hp
        rw [List.mem_map] at hp
        obtain ⟨x, hx, e⟩ := hp
        rw [← e]
        have hx1 : x.1 ∈ r := (List.of_mem_zip (a := x.1) (b := x.2) hx).1
        have ih := htD_det n (m.map fun r => r.eraseIdx x.2) Ds (by simpa using h) (rowsD_erase x.2 m Ds hr.2)
        exact htD_term ((hr.1.2 x.1 hx1).2.mul ih (hr.1.2 x.1 hx1).1 hr.1.1) _)
    refine this.mono ?_
    simp only [List.length_map, List.length_zip, List.length_range, bt]
    omega

/-- a number as the document lets it be -/
def Small (c : Rat) : Prop := c.num.natAbs ≤ 2 ^ 20 ∧ c.den ≤ 2 ^ 20
def SmallT (a : Al09.Table) : Prop := ∀ r ∈ a, ∀ c ∈ r, Small c

theorem prod_pos : ∀ {l : List Nat}, (∀ d ∈ l, 0 < d) → 0 < prod l
  | [], _ => by simp [prod]
  | d :: l, h => Nat.mul_pos (h d (by simp)) (prod_pos fun e he => h e (by simp [he]))
theorem prod_le {k : Nat} : ∀ {l : List Nat}, (∀ d ∈ l, d ≤ 2 ^ k) → prod l ≤ 2 ^ (k * l.length)
  | [], _ => by simp [prod]
  | d :: l, h => by
    have := Nat.mul_le_mul (h d (by simp)) (prod_le (l := l) fun e he => h e (by simp [he]))
    rw [List.length_cons, Nat.mul_succ, Nat.add_comm, Nat.pow_add]
    exact this
theorem dvd_prod : ∀ {l : List Nat} {d : Nat}, d ∈ l → d ∣ prod l
  | e :: l, d, h => by
    rcases List.mem_cons.mp h with e1 | e1
    · subst e1; exact Nat.dvd_mul_right _ _
    · exact Nat.dvd_trans (dvd_prod e1) (Nat.dvd_mul_left _ _)

/-- one row of x less a table -/
theorem row_htD {r : List Rat} {n : Nat} (hr : r.length = n) (hn : n ≤ 4) (hs : ∀ c ∈ r, Small c) (c : Rat) (hc : c ∈ r) (d : Bool) :
    (xEntry c d).len ≤ 2 ∧ HtD (xEntry c d) (prod (r.map (·.den))) 100 := by
  have hD := prod_le (k := 20) (l := r.map (·.den)) (fun e he => by
    rw [List.mem_map] at he
    obtain ⟨x, hx, e1⟩ := he
    rw [← e1]; exact (hs x hx).2)
  have hD80 : prod (r.map (·.den)) ≤ 2 ^ 80 := by
    refine Nat.le_trans hD (Nat.pow_le_pow_right (by omega) ?_)
    rw [List.length_map]; omega
  have hdv : c.den ∣ prod (r.map (·.den)) := dvd_prod (List.mem_map.mpr ⟨c, hc, rfl⟩)
  generalize hDe : prod (r.map (·.den)) = D at *
  obtain ⟨q, hq⟩ := hdv
  have hq80 : q ≤ 2 ^ 80 := by
    have : q ≤ D := by rw [hq]; exact Nat.le_mul_of_pos_left _ (Nat.pos_of_ne_zero c.den_nz)
    omega
  have hneg : ∃ y : Int, (D : Rat) * (-c) = (y : Rat) ∧ B y 100 := by
    refine ⟨-(c.num * q), ?_, ?_⟩
    · have h1 := mul_den c
      rw [Rat.intCast_neg, Rat.intCast_mul, ← h1, hq, Rat.natCast_mul]
      have : ((q : Int) : Rat) = (q : Rat) := rfl
      rw [this]; grind
    · refine B.neg ?_
      have h1 : B c.num 20 := (hs c hc).1
      have h2 : B (q : Int) 80 := by unfold B; rw [Int.natAbs_natCast]; exact hq80
      exact h1.mul h2
  have hone : ∃ y : Int, (D : Rat) * 1 = (y : Rat) ∧ B y 100 := ⟨(D : Int), by
    have : ((D : Int) : Rat) = (D : Rat) := rfl
    rw [this]; grind, by
    unfold B; rw [Int.natAbs_natCast]
    exact Nat.le_trans hD80 (Nat.pow_le_pow_right (by omega) (by omega))⟩
  have hzero : ∃ y : Int, (D : Rat) * 0 = (y : Rat) ∧ B y 100 := ⟨0, by simp, B.zero _⟩
  cases d with
  | true =>
    refine ⟨by rw [(xEntry_true c).1]; omega, ?_⟩
    rw [htD_iff]
    intro i
    have : (xEntry c true).c i = co [-c, 1] i := co_trim _ _
    rw [this]
    match i with
    | 0 => exact hneg
    | 1 => exact hone
    | i + 2 => exact hzero
  | false =>
    refine ⟨by have := xEntry_false c; omega, ?_⟩
    rw [htD_iff]
    intro i
    have : (xEntry c false).c i = co [-c] i := co_trim _ _
    rw [this]
    match i with
    | 0 => exact hneg
    | i + 1 => exact hzero

theorem rows_exist {m0 k : Nat} : ∀ (R : Mat), (∀ r ∈ R, ∃ D, 0 < D ∧ D ≤ 2 ^ k ∧ ∀ p ∈ r, p.len ≤ 2 ∧ HtD p D m0) →
    ∃ Ds, RowsD m0 R Ds ∧ Ds.length = R.length ∧ (∀ d ∈ Ds, 0 < d) ∧ (∀ d ∈ Ds, d ≤ 2 ^ k)
  | [], _ => ⟨[], trivial, rfl, by simp, by simp⟩
  | r :: R, h => by
    obtain ⟨D, h1, h2, h3⟩ := h r (by simp)
    obtain ⟨Ds, h4, h5, h6, h7⟩ := rows_exist R (fun s hs => h s (by simp [hs]))
    refine ⟨D :: Ds, ⟨⟨h1, h3⟩, h4⟩, by simp [h5], ?_, ?_⟩
    · intro d hd
      rcases List.mem_cons.mp hd with e | e
      · subst e; exact h1
      · exact h6 d e
    · intro d hd
      rcases List.mem_cons.mp hd with e | e
      · subst e; exact h2
      · exact h7 d e

theorem lessP_good {n : Nat} {a : Al09.Table} (h : Sq n a) (hn : n ≤ 4) (hs : SmallT a) : ∀ r ∈ lessP a, ∃ D, 0 < D ∧ D ≤ 2 ^ 80 ∧ ∀ p ∈ r, p.len ≤ 2 ∧ HtD p D 100 := by
  intro r hr
  unfold lessP at hr
  rw [List.mem_map] at hr
  obtain ⟨x, hx, e⟩ := hr
  have hx1 : x.1 ∈ a := (List.of_mem_zip (a := x.1) (b := x.2) hx).1
  have hw := h.wid x.1 hx1
  refine ⟨prod (x.1.map (·.den)), ?_, ?_, ?_⟩
  · refine prod_pos fun d hd => ?_
    rw [List.mem_map] at hd
    obtain ⟨c, _, e2⟩ := hd
    rw [← e2]; exact Nat.pos_of_ne_zero c.den_nz
  · refine Nat.le_trans (prod_le (k := 20) (fun d hd => ?_)) (Nat.pow_le_pow_right (by omega) ?_)
    · rw [List.mem_map] at hd
      obtain ⟨c, hc, e2⟩ := hd
      rw [← e2]; exact (hs x.1 hx1 c hc).2
    · rw [List.length_map]; omega
  · intro p hp
    rw [← e, List.mem_map] at hp
    obtain ⟨y, hy, e2⟩ := hp
    have hy1 : y.1 ∈ x.1 := (List.of_mem_zip (a := y.1) (b := y.2) hy).1
    rw [← e2]
    exact row_htD hw hn (hs x.1 hx1) y.1 hy1 _

theorem pick_good {m0 k : Nat} {R : Mat} {S : List Nat} (h : ∀ r ∈ R, ∃ D, 0 < D ∧ D ≤ 2 ^ k ∧ ∀ p ∈ r, p.len ≤ 2 ∧ HtD p D m0) :
    ∀ r ∈ pick R S, ∃ D, 0 < D ∧ D ≤ 2 ^ k ∧ ∀ p ∈ r, p.len ≤ 2 ∧ HtD p D m0 := by
  intro r hr
  unfold pick at hr
  rw [List.mem_map] at hr
  obtain ⟨t, ht, e⟩ := hr
  obtain ⟨D, h1, h2, h3⟩ := h t ht
  refine ⟨D, h1, h2, fun p hp => ?_⟩
  rw [← e, List.mem_map] at hp
  obtain ⟨j, _, e2⟩ := hp
  rw [← e2, List.getD_eq_getElem?_getD]
  cases hj : t[j]? with
  | none => exact ⟨by show (0 : P).len ≤ 2; rw [P.len_zero]; omega, HtD.zero _ _⟩
  | some q => exact h3 q (List.mem_of_getElem? hj)

theorem bt_mono {m0 : Nat} : ∀ {k n : Nat}, k ≤ n → bt m0 k ≤ bt m0 n
  | k, 0, h => by
    have : k = 0 := by omega
    subst this; omega
  | k, n + 1, h => by
    rcases Nat.lt_or_ge k (n + 1) with h1 | h1
    · have := bt_mono (m0 := m0) (k := k) (n := n) (by omega)
      simp only [bt]; omega
    · have : k = n + 1 := by omega
      subst this; omega

theorem det_ht {R : Mat} {k : Nat} (hk : k ≤ 4) (hR : R.length = k) (h : ∀ r ∈ R, ∃ D, 0 < D ∧ D ≤ 2 ^ 80 ∧ ∀ p ∈ r, p.len ≤ 2 ∧ HtD p D 100) :
    Ht (detP k R) 418 ∧ (detP k R).len ≤ 5 := by
  obtain ⟨Ds, h1, h2, h3, h4⟩ := rows_exist R h
  have hd := htD_det k R Ds hR h1
  refine ⟨hd.ht (prod_pos h3) ?_ ?_, ?_⟩
  · refine Nat.le_trans (prod_le h4) (Nat.pow_le_pow_right (by omega) ?_)
    rw [h2, hR]
    have : 80 * k ≤ 80 * 4 := Nat.mul_le_mul_left _ hk
    omega
  · have := bt_mono (m0 := 100) hk
    have e : bt 100 4 = 418 := by decide
    omega
  · have hw : ∀ (R : Mat), (∀ r ∈ R, ∃ D, 0 < D ∧ D ≤ 2 ^ 80 ∧ ∀ p ∈ r, p.len ≤ 2 ∧ HtD p D 100) → Rws R (List.replicate R.length 1) := by
      intro R
      induction R with
      | nil => intro _; exact trivial
      | cons r R ih =>
        intro h
        obtain ⟨D, _, _, h5⟩ := h r (by simp)
        exact ⟨fun p hp => (h5 p hp).1, ih fun s hs => h s (by simp [hs])⟩
    have := len_det k R _ hR (hw R h)
    simp [hR] at this
    omega

/-- **the determinants' numbers** -/
theorem minor_ht {n : Nat} {a : Al09.Table} (h : Sq n a) (hn : n ≤ 4) (hs : SmallT a) {k : Nat} {p : P} (hp : p ∈ minorsP a k) : Ht p 418 ∧ p.len ≤ 5 := by
  obtain ⟨R, S, h1, h2, h3, h4, e⟩ := mem_minors.mp hp
  rw [e]
  have hk : k ≤ 4 := by
    have := h3.length_le
    rw [List.length_range, h.rows] at this
    omega
  refine det_ht hk (by unfold pick; simpa using h2) (pick_good ?_)
  intro r hr
  exact lessP_good h hn hs r (h1.subset hr)

theorem ht_zero (b : Nat) : Ht 0 b := by
  have := (HtD.zero 1 0).ht (b := b) (by omega) (Nat.one_le_two_pow) (by omega)
  exact this

theorem comL_zero : ∀ (l : List P) (s : P), s ≠ 0 → comL l s ≠ 0
  | [], s, h => h
  | p :: l, s, h => by
    refine comL_zero l (com s p) ?_
    intro e
    have := (com_spec s p).left
    rw [e] at this
    exact h this.of_zero

/-- **what some of them have in common** -/
theorem comL_ht {b : Nat} (hb : 3 ≤ b) : ∀ (l : List P), (∀ p ∈ l, Ht p b ∧ p.len ≤ 5) → Ht (comL l 0) (15 * b + 120) ∧ (comL l 0).len ≤ 5 := by
  intro l h
  have c := comL_spec l 0
  by_cases h0 : comL l 0 = 0
  · rw [h0]; exact ⟨ht_zero _, by rw [P.len_zero]; omega⟩
  · have hex : ∃ p ∈ l, p ≠ 0 := by
      apply Classical.byContradiction
      intro hn
      apply h0
      have : P.Dvd 0 (comL l 0) := c.all 0 (P.Dvd.zero 0) (fun p hp => by
        have : p = 0 := Classical.byContradiction fun hp0 => hn ⟨p, hp, hp0⟩
        rw [this]; exact P.Dvd.zero 0)
      exact this.of_zero
    obtain ⟨p, hp, hp0⟩ := hex
    have hl : (comL l 0).ld = 1 := by
      rcases c.top with h1 | h1
      · rcases h1 with h1 | h1
        · exact absurd h1 h0
        · exact h1
      · rw [h1] at hp; simp at hp
    have hpp := h p hp
    exact ⟨ht_dvd hb hp0 hpp.2 hpp.1 hl (c.each p hp), Nat.le_trans (P.Dvd.len (c.each p hp) hp0) hpp.2⟩

/-- **the forms' numbers** -/
theorem form_ht {n : Nat} {a : Al09.Table} (h : Sq n a) (hn : n ≤ 4) (hs : SmallT a) {k : Nat} (hk : k < n) : Ht (fP a k) 6390 ∧ (fP a k).len ≤ 5 := by
  have f := fP_all h hk
  have hc : charP a ∈ minorsP a n := by rw [minors_last h]; simp
  have hcc := minor_ht h hn hs hc
  have := ht_dvd (by omega) (charP_ne h) hcc.2 hcc.1 f.2.1 f.2.2.2
  exact ⟨this, Nat.le_trans (P.Dvd.len f.2.2.2 (charP_ne h)) hcc.2⟩

/-- a number's own size from what makes it whole -/
theorem num_den_le {c : Rat} {D b : Nat} {y : Int} (hD : 0 < D) (hDb : D ≤ 2 ^ b) (e : (D : Rat) * c = (y : Rat)) (hy : B y b) : c.num.natAbs ≤ 2 ^ b ∧ c.den ≤ 2 ^ b := by
  have h1 := mul_den c
  have h2 : (D : Int) * c.num = y * (c.den : Int) := by
    have : (((D : Int) * c.num : Int) : Rat) = ((y * (c.den : Int) : Int) : Rat) := by
      rw [Rat.intCast_mul, Rat.intCast_mul, ← h1, ← e]
      have e1 : ((D : Int) : Rat) = (D : Rat) := rfl
      have e2 : ((c.den : Int) : Rat) = (c.den : Rat) := rfl
      rw [e1, e2]; grind
    exact Rat.intCast_inj.mp this
  have h3 : D * c.num.natAbs = y.natAbs * c.den := by
    have := congrArg Int.natAbs h2
    rwa [Int.natAbs_mul, Int.natAbs_mul, Int.natAbs_natCast, Int.natAbs_natCast] at this
  have hcop : Nat.Coprime c.den c.num.natAbs := Nat.Coprime.symm c.reduced
  have hdv : c.den ∣ D := by
    refine hcop.dvd_of_dvd_mul_right (k := c.den) (m := D) (n := c.num.natAbs) ?_
    rw [h3]; exact Nat.dvd_mul_left _ _
  obtain ⟨q, hq⟩ := hdv
  have hdp : 0 < c.den := Nat.pos_of_ne_zero c.den_nz
  refine ⟨?_, Nat.le_trans (Nat.le_of_dvd hD ⟨q, hq⟩) hDb⟩
  have h4 : c.den * (q * c.num.natAbs) = c.den * y.natAbs := by
    rw [← Nat.mul_assoc, ← hq, h3, Nat.mul_comm]
  have h5 : q * c.num.natAbs = y.natAbs := Nat.eq_of_mul_eq_mul_left hdp h4
  have hq0 : 0 < q := by
    rcases Nat.eq_zero_or_pos q with h0 | h0
    · rw [h0, Nat.mul_zero] at hq; omega
    · exact h0
  have : c.num.natAbs ≤ y.natAbs := by rw [← h5]; exact Nat.le_mul_of_pos_left _ hq0
  exact Nat.le_trans this hy

theorem ht_num {p : P} {b : Nat} (h : Ht p b) (i : Nat) : (p.c i).num.natAbs ≤ 2 ^ b ∧ (p.c i).den ≤ 2 ^ b := by
  obtain ⟨D, h1, h2, z, h3, h4⟩ := h
  exact num_den_le h1 h2 (by rw [← cst_c, h3 i]) (h4 i)

end Ma
/-! A sharper bound: five small places in a row where the polynomial isn't 0. -/
namespace Ma
open AlOne

/-- x less a number -/
def lin (a : Rat) : P := ⟨[-a, 1], tr_of_lead fun _ => by show (1 : Rat) ≠ 0; decide⟩
theorem lin_len (a : Rat) : (lin a).len = 2 := rfl
theorem lin_ne (a : Rat) : lin a ≠ 0 := by intro e; have := lin_len a; rw [e, P.len_zero] at this; omega
theorem lin_val (x a : Rat) : value x (lin a).1 = x - a := by
  show -a + x * (1 + x * 0) = x - a
  grind
theorem val_add (x : Rat) (p q : P) : value x (p + q).1 = value x p.1 + value x q.1 := by
  show value x (add p.1 q.1) = _
  unfold add
  rw [val_trim, val_addRaw]

/-- a root goes out as a factor -/
theorem root_factor {p : P} {a : Rat} (h : value a p.1 = 0) : ∃ q, p = q * lin a := by
  obtain ⟨s, r, _, e, hr⟩ := divMod_spec p (lin a) (lin_ne a)
  rw [lin_len] at hr
  have h1 : value a p.1 = value a s.1 * value a (lin a).1 + value a r.1 := by
    rw [e, val_add]; congr 1; exact val_mul _ _ _
  rw [h, lin_val] at h1
  have hr0 : value a r.1 = 0 := by grind
  have : r = 0 := by
    rcases Nat.lt_or_ge r.len 1 with h2 | h2
    · exact P.eq_zero_iff.mpr (List.eq_nil_of_length_eq_zero (by show r.len = 0; omega))
    · have e1 := P.eq_cst (p := r) (by omega)
      obtain ⟨l, hl⟩ := r
      have hl1 : l.length = 1 := by
        have : l.length < 2 := hr
        have : 1 ≤ l.length := h2
        omega
      match l, hl1, hl with
      | [c], _, hl =>
        have : c + a * 0 = 0 := hr0
        have hc : c = 0 := by grind
        exact absurd hc (tr_one_ne hl)
  refine ⟨s, ?_⟩
  rw [e, this]; grind

/-- no more roots than its length less 1 -/
theorem few_roots : ∀ (l : List Rat) (p : P), l.Nodup → (∀ a ∈ l, value a p.1 = 0) → p ≠ 0 → l.length < p.len
  | [], p, _, _, hp => P.len_pos hp
  | a :: l, p, hn, h, hp => by
    obtain ⟨q, hq⟩ := root_factor (h a (by simp))
    have hq0 : q ≠ 0 := by intro e; apply hp; rw [hq, e]; grind
    have hl := P.len_mul hq0 (lin_ne a)
    rw [← hq, lin_len] at hl
    rw [List.nodup_cons] at hn
    have := few_roots l q hn.2 (fun b hb => by
      have h1 := h b (by simp [hb])
      rw [hq] at h1
      have h2 : value b (q * lin a).1 = value b q.1 * value b (lin a).1 := val_mul _ _ _
      rw [h2, lin_val] at h1
      rcases Rat.mul_eq_zero.mp h1 with h3 | h3
      · exact h3
      · exfalso
        apply hn.1
        have : b = a := by grind
        rw [← this]; exact hb) hq0
    rw [List.length_cons]; omega

/-- five in a row without a root -/
theorem block {p : P} (hp : p ≠ 0) (hl : p.len ≤ 5) : ∃ t : Nat, t ≤ 20 ∧ ∀ k : Nat, 1 ≤ k → k ≤ 5 → value (((t + k : Nat) : Int) : Rat) p.1 ≠ 0 := by
  apply Classical.byContradiction
  intro hn
  have hb : ∀ j : Nat, j ≤ 4 → ∃ k : Nat, 1 ≤ k ∧ k ≤ 5 ∧ value (((5 * j + k : Nat) : Int) : Rat) p.1 = 0 := by
    intro j hj
    apply Classical.byContradiction
    intro hk
    exact hn ⟨5 * j, by omega, fun k h1 h2 h3 => hk ⟨k, h1, h2, h3⟩⟩
  obtain ⟨k0, a0, b0, c0⟩ := hb 0 (by omega)
  obtain ⟨k1, a1, b1, c1⟩ := hb 1 (by omega)
  obtain ⟨k2, a2, b2, c2⟩ := hb 2 (by omega)
  obtain ⟨k3, a3, b3, c3⟩ := hb 3 (by omega)
  obtain ⟨k4, a4, b4, c4⟩ := hb 4 (by omega)
  have ne : ∀ {m n : Nat}, m ≠ n → (((m : Nat) : Int) : Rat) ≠ (((n : Nat) : Int) : Rat) := by
    intro m n h e
    have := Rat.intCast_inj.mp e
    omega
  have := few_roots [(((5 * 0 + k0 : Nat) : Int) : Rat), (((5 * 1 + k1 : Nat) : Int) : Rat), (((5 * 2 + k2 : Nat) : Int) : Rat), (((5 * 3 + k3 : Nat) : Int) : Rat), (((5 * 4 + k4 : Nat) : Int) : Rat)] p (by
    simp only [List.nodup_cons, List.mem_cons, List.not_mem_nil, or_false, not_or, List.nodup_nil, and_true]
    refine ⟨⟨ne (by omega), ne (by omega), ne (by omega), ne (by omega)⟩, ⟨ne (by omega), ne (by omega), ne (by omega)⟩, ⟨ne (by omega), ne (by omega)⟩, ne (by omega), by simp⟩) (by
    intro a ha
    simp only [List.mem_cons, List.not_mem_nil, or_false] at ha
    rcases ha with e | e | e | e | e <;> subst e <;> assumption) hp
  simp at this
  omega

theorem vz_B2 {b : Nat} {a : Int} (ha : B a 5) : ∀ (p : List Int) (n : Nat), (∀ x ∈ p, B x b) → p.length ≤ n + 1 → B (vz a p) (b + n * 6)
  | [], n, _, _ => B.zero _
  | [c], n, h, _ => by
    have := h c (by simp)
    show B (c + a * 0) _
    rw [Int.mul_zero, Int.add_zero]
    exact this.mono (by omega)
  | c :: d :: p, n, h, hl => by
    cases n with
    | zero => simp at hl
    | succ n =>
      have ih := vz_B2 ha (d :: p) n (fun x hx => h x (List.mem_cons_of_mem _ hx)) (by simp only [List.length_cons] at *; omega)
      have hc := h c (by simp)
      have h1 : B (a * vz a (d :: p)) (5 + (b + n * 6)) := ha.mul ih
      have h2 : B c (5 + (b + n * 6)) := hc.mono (by omega)
      exact (h2.add h1).mono (by omega)

/-- **the numbers of a divisor** -/
theorem ht_dvd2 {p g : P} {b : Nat} (hp : p ≠ 0) (hl : p.len ≤ 5) (hh : Ht p b) (hg : g.ld = 1) (hd : P.Dvd g p) : Ht g (b + 180) := by
  obtain ⟨h, hgh⟩ := hd
  obtain ⟨D, hD, hDb, zp, hzp, hzb⟩ := hh
  have hg0 : g ≠ 0 := by intro e; subst e; apply hp; grind
  have hh0 : h ≠ 0 := by intro e; subst e; apply hp; grind
  obtain ⟨e0, he0⟩ := exists_whole g
  obtain ⟨e, ⟨he, zg, hzg⟩, hmin⟩ := least_of (fun k => 0 < k ∧ ∃ z, Zof (P.cst (k : Rat) * g) z) e0 he0
  have heq := natCast_ne he
  have hDq := natCast_ne hD
  have htop : coZ zg (g.len - 1) = (e : Int) := by
    have := hzg (g.len - 1)
    rw [cst_c, ← ld_c, hg] at this
    have h2 : ((e : Int) : Rat) = ((coZ zg (g.len - 1) : Int) : Rat) := by
      rw [← this]
      show (e : Rat) = _
      grind
    exact (Rat.intCast_inj.mp h2).symm
  have prim : ∀ l, Pri l → ¬ ∀ i, (l : Int) ∣ coZ zg i := by
    intro l hl' hall
    have h1 := hall (g.len - 1)
    rw [htop] at h1
    exact primitive he hzg hmin hl' (Int.ofNat_dvd.mp h1) hall
  have hprod : (P.cst (e : Rat) * g) * (P.cst ((D : Rat) / (e : Rat)) * h) = P.cst (D : Rat) * p := by
    rw [hgh]
    have e1 : P.cst (e : Rat) * P.cst ((D : Rat) / (e : Rat)) = P.cst (D : Rat) := by
      rw [cst_mul]; congr 1; grind
    grind
  obtain ⟨zh, hzh⟩ := gauss_div hzg hzp hprod prim
  generalize hG : P.cst (e : Rat) * g = G at hzg hprod
  generalize hH : P.cst ((D : Rat) / (e : Rat)) * h = H at hzh hprod
  generalize hp' : P.cst (D : Rat) * p = p' at hzp hprod
  have hG0 : G ≠ 0 := by rw [← hG]; exact P.mul_ne_zero (cst_ne heq) hg0
  have hH0 : H ≠ 0 := by
    rw [← hH]
    refine P.mul_ne_zero (cst_ne ?_) hh0
    intro h0
    have : (D : Rat) / (e : Rat) * (e : Rat) = D := by grind
    rw [h0] at this; grind
  have hp0 : p' ≠ 0 := by rw [← hp']; exact P.mul_ne_zero (cst_ne hDq) hp
  have lenG : G.len = g.len := by
    rw [← hG, P.len_mul (cst_ne heq) hg0, P.len_cst heq]; omega
  have lenp : p'.len = p.len := by
    rw [← hp', P.len_mul (cst_ne hDq) hp, P.len_cst hDq]; omega
  have nG := nums_spec hzg
  have nH := nums_spec hzh
  have np := nums_spec hzp
  have lG : (nums G).length ≤ 5 := by
    have h1 : G.len ≤ p'.len := P.Dvd.len ⟨H, hprod.symm⟩ hp0
    have h2 : (nums G).length = G.len := by unfold nums; rw [List.length_map]; rfl
    omega
  have heb : e ≤ 2 ^ b := by
    have h1 := P.ld_mul hG0 hH0
    rw [hprod, ld_c p', ld_c G, ld_c H, hzp _, hzg _, hzh _, lenG, htop, ← Rat.intCast_mul] at h1
    have h2 := Rat.intCast_inj.mp h1
    have h3 := hzb (p'.len - 1)
    have h4 : coZ zp (p'.len - 1) ≠ 0 := by
      intro h0
      have := P.ld_ne hp0
      rw [ld_c, hzp _, h0] at this
      exact this rfl
    rw [h2] at h3 h4
    have h5 : coZ zh (H.len - 1) ≠ 0 := by intro h0; rw [h0] at h4; simp at h4
    have h6 : B (e : Int) b := by
      rw [Int.mul_comm] at h3
      exact B.of_mul h5 h3
    unfold B at h6
    rwa [Int.natAbs_natCast] at h6
  refine ⟨e, he, Nat.le_trans heb (Nat.pow_le_pow_right (by omega) (by omega)), nums G, by rw [hG]; exact nG.2.1, ?_⟩
  obtain ⟨t, ht, hblk⟩ := block hp0 (by omega)
  have hval : ∀ k : Nat, 1 ≤ k → k ≤ 5 → B (vz ((t : Int) + (k : Int)) (nums G)) (b + 24) := by
    intro k h1 h2
    have hne0 := hblk k h1 h2
    have ha : ((t + k : Nat) : Int) = (t : Int) + (k : Int) := by omega
    rw [ha] at hne0
    generalize hae : (t : Int) + (k : Int) = a at hne0
    have hmul : vz a (nums G) * vz a (nums H) = vz a (nums p') := by
      have h3 : value (a : Rat) p'.1 = value (a : Rat) G.1 * value (a : Rat) H.1 := by
        rw [← hprod]; exact val_mul _ _ _
      rw [val_nums hzg, val_nums hzh, val_nums hzp, ← Rat.intCast_mul] at h3
      exact (Rat.intCast_inj.mp h3).symm
    have hmem : ∀ x ∈ nums p', B x b := by
      intro x hx
      obtain ⟨i, hi⟩ := coZ_mem hx
      rw [← hi, np.2.2 i]; exact hzb i
    have hne : vz a (nums p') ≠ 0 := by
      intro h0
      apply hne0
      rw [val_nums hzp, h0]; rfl
    have haB : B a 5 := by
      unfold B
      have : a.natAbs ≤ 25 := by omega
      have : (2 : Nat) ^ 5 = 32 := by decide
      omega
    have hB := vz_B2 haB (nums p') 4 hmem (by
      have h5 : (nums p').length = p'.len := by unfold nums; rw [List.length_map]; rfl
      omega)
    rw [← hmul, Int.mul_comm] at hB
    refine B.of_mul ?_ hB
    intro h0
    rw [h0, Int.mul_zero] at hmul
    exact hne hmul.symm
  obtain ⟨c0, c1, c2, c3, c4, hc, hv⟩ : ∃ c0 c1 c2 c3 c4 : Int, (∀ i, coZ (nums G) i = coZ [c0, c1, c2, c3, c4] i) ∧ (∀ a, vz a (nums G) = vz a [c0, c1, c2, c3, c4]) := by
    generalize nums G = w at lG
    match w, lG with
    | [], _ => exact ⟨0, 0, 0, 0, 0, fun i => by
        match i with
        | 0 | 1 | 2 | 3 | 4 => rfl
        | _ + 5 => rfl, fun a => by simp [vz]⟩
    | [x0], _ => exact ⟨x0, 0, 0, 0, 0, fun i => by
        match i with
        | 0 | 1 | 2 | 3 | 4 => rfl
        | _ + 5 => rfl, fun a => by simp [vz]⟩
    | [x0, x1], _ => exact ⟨x0, x1, 0, 0, 0, fun i => by
        match i with
        | 0 | 1 | 2 | 3 | 4 => rfl
        | _ + 5 => rfl, fun a => by simp [vz]⟩
    | [x0, x1, x2], _ => exact ⟨x0, x1, x2, 0, 0, fun i => by
        match i with
        | 0 | 1 | 2 | 3 | 4 => rfl
        | _ + 5 => rfl, fun a => by simp [vz]⟩
    | [x0, x1, x2, x3], _ => exact ⟨x0, x1, x2, x3, 0, fun i => by
        match i with
        | 0 | 1 | 2 | 3 | 4 => rfl
        | _ + 5 => rfl, fun a => by simp [vz]⟩
    | [x0, x1, x2, x3, x4], _ => exact ⟨x0, x1, x2, x3, x4, fun i => rfl, fun a => rfl⟩
  have htb : B (t : Int) 5 := by
    unfold B
    rw [Int.natAbs_natCast]
    have : (2 : Nat) ^ 5 = 32 := by decide
    omega
  have f := five c0 c1 c2 c3 c4 _ (b + 24) 5 (by omega) htb (fun k h1 h2 => by rw [← hv]; exact hval k h1 h2)
  obtain ⟨f0, f1, f2, f3, f4⟩ := f
  intro i
  rw [hc i]
  match i with
  | 0 => exact f0.mono (by omega)
  | 1 => exact f1.mono (by omega)
  | 2 => exact f2.mono (by omega)
  | 3 => exact f3.mono (by omega)
  | 4 => exact f4.mono (by omega)
  | _ + 5 => exact B.zero _

end Ma
/-! Numbers' texts: the one text of each number, and who reads it. -/
namespace Ma
open AlBase (digits digitsFrom readDigits split)

/-- the digits, the last one behind -/
def dg (n : Nat) : List Nat := if h : n < 10 then [48 + n] else dg (n / 10) ++ [48 + n % 10]
termination_by n
decreasing_by omega

theorem digitsFrom_eq : ∀ (f n : Nat) (l : List Nat), n < f → digitsFrom f n l = dg n ++ l
  | 0, n, l, h => by omega
  | f + 1, n, l, h => by
    unfold digitsFrom
    rw [dg]
    split
    · rfl
    · rw [digitsFrom_eq f (n / 10) _ (by omega), List.append_assoc]; rfl

theorem digits_eq (n : Nat) : digits n = dg n := by
  unfold digits; rw [digitsFrom_eq _ _ _ (by omega), List.append_nil]

theorem dg_mem : ∀ (n : Nat), ∀ b ∈ dg n, 48 ≤ b ∧ b ≤ 57 := by
  intro n
  induction n using Nat.strongRecOn with
  | _ n ih =>
    intro b hb
    rw [dg] at hb
    split at hb
    · simp at hb; omega
    · rw [List.mem_append] at hb
      rcases hb with h | h
      · exact ih (n / 10) (by omega) b h
      · simp at h; omega

theorem dg_ne (n : Nat) : dg n ≠ [] := by
  rw [dg]; split <;> simp

/-- the value of digits -/
def dval (n : Nat) (w : List Nat) : Nat := w.foldl (fun (n b : Nat) => 10 * n + (b - 48)) n

theorem dval_dg : ∀ (n : Nat), dval 0 (dg n) = n := by
  intro n
  induction n using Nat.strongRecOn with
  | _ n ih =>
    rw [dg]
    split
    · simp [dval]
    · have := ih (n / 10) (by omega)
      unfold dval at *
      rw [List.foldl_append, this]
      simp only [List.foldl_cons, List.foldl_nil]
      omega

theorem dg_head : ∀ (n : Nat), 0 < n → (dg n).headD 0 ≠ 48 := by
  intro n
  induction n using Nat.strongRecOn with
  | _ n ih =>
    intro h
    rw [dg]
    split
    · simp; omega
    · have := ih (n / 10) (by omega) (by omega)
      cases hd : dg (n / 10) with
      | nil => exact absurd hd (dg_ne _)
      | cons a l => rw [hd] at this; simpa using this

theorem dg_zero : dg 0 = [48] := by rw [dg]; simp

/-- digits without a zero before -/
structure Dig (w : List Nat) : Prop where
  ne : w ≠ []
  mem : ∀ b ∈ w, 48 ≤ b ∧ b ≤ 57
  lead : w.headD 0 = 48 → w.length = 1

theorem dig_dg (n : Nat) : Dig (dg n) := by
  refine ⟨dg_ne n, dg_mem n, fun h => ?_⟩
  rcases Nat.eq_zero_or_pos n with h0 | h0
  · subst h0; rw [dg_zero]; rfl
  · exact absurd h (dg_head n h0)

theorem dval_append (n : Nat) (v : List Nat) (b : Nat) : dval n (v ++ [b]) = 10 * dval n v + (b - 48) := by
  unfold dval; rw [List.foldl_append]; rfl

theorem snoc_cases {A : Type} (l : List A) : l = [] ∨ ∃ v b, l = v ++ [b] := by
  rcases List.eq_nil_or_concat l with h | ⟨v, b, h⟩
  · exact Or.inl h
  · exact Or.inr ⟨v, b, by simpa using h⟩

theorem dg_dval : ∀ (k : Nat) (w : List Nat), w.length = k → Dig w → dg (dval 0 w) = w
  | 0, w, hk, h => absurd (List.eq_nil_of_length_eq_zero hk) h.ne
  | k + 1, w, hk, h => by
    rcases snoc_cases w with e | ⟨v, b, e⟩
    · exact absurd e h.ne
    · subst e
      have hb := h.mem b (by simp)
      rcases snoc_cases v with ev | ⟨v', b', ev⟩
      · subst ev
        rw [dg]
        have e1 : dval 0 ([] ++ [b]) = b - 48 := by simp [dval]
        rw [e1]
        rw [dif_pos (by omega)]
        simp; omega
      · have hvne : v ≠ [] := by rw [ev]; simp
        have hv : Dig v := by
          refine ⟨hvne, fun x hx => h.mem x (by simp [hx]), fun hx => ?_⟩
          have : (v ++ [b]).headD 0 = 48 := by
            cases v with
            | nil => exact absurd rfl hvne
            | cons a l => simpa using hx
          have := h.lead this
          simp at this
          exact absurd this hvne
        have ih := dg_dval k v (by simpa using hk) hv
        rw [dval_append]
        have hpos : 0 < dval 0 v := by
          rcases Nat.eq_zero_or_pos (dval 0 v) with h0 | h0
          · rw [h0, dg_zero] at ih
            have h1 : (v ++ [b]).headD 0 = 48 := by rw [← ih]; rfl
            have := h.lead h1
            rw [← ih] at this
            simp at this
          · exact h0
        rw [dg, dif_neg (by omega)]
        have e1 : (10 * dval 0 v + (b - 48)) / 10 = dval 0 v := by omega
        have e2 : 48 + (10 * dval 0 v + (b - 48)) % 10 = b := by omega
        rw [e1, e2, ih]

theorem readDigits_dg (n : Nat) : readDigits (dg n) = some n := by
  unfold readDigits
  rw [if_neg (dg_ne n), if_neg]
  · have := dval_dg n
    unfold dval at this
    rw [this]
  · rw [Bool.not_eq_false, List.all_eq_true]
    intro b hb
    have := dg_mem n b hb
    simp [this.1, this.2]

theorem dg_inj {m n : Nat} (h : dg m = dg n) : m = n := by
  rw [← dval_dg m, h, dval_dg]

/-! splits -/
theorem split_none {sep : Nat} : ∀ {w : List Nat}, sep ∉ w → split sep w = [w]
  | [], _ => rfl
  | b :: l, h => by
    have h1 : b ≠ sep := fun e => h (by simp [e])
    have h2 : sep ∉ l := fun e => h (by simp [e])
    unfold split
    rw [if_neg h1, split_none h2]

theorem split_one {sep : Nat} {v : List Nat} : ∀ {w : List Nat}, sep ∉ w → split sep (w ++ sep :: v) = w :: split sep v
  | [], _ => by
    show split sep (sep :: v) = _
    rw [split]; simp
  | b :: l, h => by
    have h1 : b ≠ sep := fun e => h (by simp [e])
    have h2 : sep ∉ l := fun e => h (by simp [e])
    show split sep (b :: (l ++ sep :: v)) = _
    rw [split, if_neg h1, split_one h2]

theorem dg_notin {n b : Nat} (hb : b < 48 ∨ 57 < b) : b ∉ dg n := fun h => by
  have := dg_mem n b h; omega

/-! the text of a number -/
def numT (c : Rat) : List Nat := dg c.num.natAbs ++ (if c.den = 1 then [] else 47 :: dg c.den)
def sgnT (c : Rat) : List Nat := (if c.num < 0 then [45] else []) ++ numT c

theorem numberText_eq {c : Rat} (h : 0 ≤ c.num) : AlBase.numberText c = numT c := by
  unfold AlBase.numberText numT
  rw [digits_eq, digits_eq]
  have : c.num.toNat = c.num.natAbs := by omega
  rw [this]

theorem numText_eq (c : Rat) : AlOne.numText c = sgnT c := by
  unfold AlOne.numText AlBase.const AlBase.plus
  by_cases h0 : c = 0
  · subst h0
    simp only [if_true]
    show [48] = sgnT 0
    unfold sgnT numT
    simp [dg_zero]
  · rw [if_neg h0]
    show (if c < 0 then 45 :: AlBase.termText [] (-c) else AlBase.termText [] c) ++ [] = _
    rw [List.append_nil]
    have hlt : c < 0 ↔ c.num < 0 := by
      rw [Rat.lt_iff]; simp
    unfold sgnT
    by_cases h : c < 0
    · rw [if_pos h, if_pos (hlt.mp h)]
      show 45 :: AlBase.numberText (-c) = _
      have hn := hlt.mp h
      rw [numberText_eq (by rw [Rat.neg_num]; omega)]
      unfold numT
      rw [Rat.neg_num, Rat.neg_den, Int.natAbs_neg]; rfl
    · rw [if_neg h, if_neg (fun h' => h (hlt.mpr h'))]
      show AlBase.numberText c = _
      have hn : 0 ≤ c.num := by
        have : ¬ c.num < 0 := fun h' => h (hlt.mpr h')
        omega
      rw [numberText_eq hn]; rfl

theorem numT_notin {c : Rat} {b : Nat} (hb : b < 47 ∨ 57 < b) : b ∉ numT c := by
  unfold numT
  rw [List.mem_append]
  rintro (h | h)
  · exact dg_notin (by omega) h
  · split at h
    · simp at h
    · rcases List.mem_cons.mp h with e | e
      · omega
      · exact dg_notin (by omega) e

theorem sgnT_notin {c : Rat} {b : Nat} (hb : b < 45 ∨ 57 < b) : b ∉ sgnT c := by
  unfold sgnT
  rw [List.mem_append]
  rintro (h | h)
  · split at h
    · simp at h; omega
    · simp at h
  · exact numT_notin (by omega) h

theorem numT_head (c : Rat) : ∃ b l, numT c = b :: l ∧ 48 ≤ b ∧ b ≤ 57 := by
  unfold numT
  cases h : dg c.num.natAbs with
  | nil => exact absurd h (dg_ne _)
  | cons b l =>
    have := dg_mem c.num.natAbs b (by rw [h]; simp)
    exact ⟨b, _, rfl, this.1, this.2⟩

theorem mkRat_abs {c : Rat} (h : 0 ≤ c.num) : ((c.num.natAbs : Nat) : Rat) / ((c.den : Nat) : Rat) = c := by
  have e1 : ((c.num.natAbs : Nat) : Rat) = ((c.num : Int) : Rat) := by
    have : ((c.num.natAbs : Nat) : Int) = c.num := by omega
    rw [← this]; rfl
  rw [e1, Rat.div_def]
  have := Rat.num_divInt_den c
  rw [Rat.divInt_eq_div, Rat.div_def] at this
  exact this

theorem readNumber_numT {c : Rat} (h : 0 ≤ c.num) : AlBase.readNumber (numT c) = some c := by
  unfold AlBase.readNumber numT
  by_cases hd : c.den = 1
  · rw [if_pos hd, List.append_nil, split_none (dg_notin (by omega))]
    show (readDigits _).map _ = _
    rw [readDigits_dg]
    show some ((c.num.natAbs : Nat) : Rat) = _
    congr 1
    have := mkRat_abs h
    rw [hd] at this
    have e : (((1 : Nat) : Rat)) = 1 := rfl
    rw [e] at this
    grind
  · rw [if_neg hd, split_one (dg_notin (by omega)), split_none (dg_notin (by omega))]
    show (readDigits _).bind _ = _
    rw [readDigits_dg]
    show (readDigits _).bind _ = _
    rw [readDigits_dg]
    show (if c.den = 0 then none else some _) = _
    rw [if_neg c.den_nz, mkRat_abs h]

end Ma
/-! Who reads a number: just its one text. -/
namespace Ma
open AlBase (Mono Poly)

def GoodM (m : Mono) : Prop := ∀ y ∈ m, 0 < y.2
/-- the number alone stands last -/
def LN : Poly → Prop
  | [] => True
  | (m, _) :: p => (m = [] → p = []) ∧ LN p
def GoodT (p : Poly) : Prop := ∀ x ∈ p, GoodM x.1
structure GoodP (p : Poly) : Prop where
  t : GoodT p
  l : LN p

theorem degree_nil : AlBase.degree [] = 0 := rfl
theorem degree_pos {m : Mono} (h : GoodM m) (hn : m ≠ []) : 0 < AlBase.degree m := by
  cases m with
  | nil => exact absurd rfl hn
  | cons y m =>
    have := h y (by simp)
    simp only [AlBase.degree, List.map_cons, List.sum_cons]; omega

theorem above_nil_right {m : Mono} (h : GoodM m) (hn : m ≠ []) : AlBase.above m [] = true := by
  have := degree_pos h hn
  unfold AlBase.above
  rw [degree_nil, if_neg (by omega)]; simp [this]
theorem above_nil_left (n : Mono) : AlBase.above [] n = false := by
  unfold AlBase.above
  rw [degree_nil]
  split
  · rfl
  · simp

theorem plus_nil (m : Mono) (c : Rat) : AlBase.plus m c [] = if c = 0 then [] else [(m, c)] := by unfold AlBase.plus; rfl
theorem plus_cons (m : Mono) (c : Rat) (n : Mono) (d : Rat) (p : Poly) : AlBase.plus m c ((n, d) :: p) =
    if c = 0 then (n, d) :: p else if m = n then (if c + d = 0 then p else (n, c + d) :: p) else if AlBase.above m n = true then (m, c) :: (n, d) :: p else (n, d) :: AlBase.plus m c p := by
  rw [AlBase.plus]

theorem plus_good {m : Mono} (hm : GoodM m) (c : Rat) : ∀ {p : Poly}, GoodP p → GoodP (AlBase.plus m c p)
  | [], _ => by
    rw [plus_nil]
    split
    · exact ⟨by intro x hx; simp at hx, trivial⟩
    · exact ⟨by intro x hx; simp at hx; subst hx; exact hm, ⟨fun _ => rfl, trivial⟩⟩
  | (n, d) :: p, h => by
    have hp : GoodP p := ⟨fun x hx => h.t x (by simp [hx]), h.l.2⟩
    have hn : GoodM n := h.t (n, d) (by simp)
    rw [plus_cons]
    split
    · exact h
    · split
      · rename_i e
        split
        · exact hp
        · refine ⟨fun x hx => ?_, ⟨h.l.1, h.l.2⟩⟩
          rcases List.mem_cons.mp hx with e2 | e2
          · subst e2; exact hn
          · exact hp.t x e2
      · rename_i hne
        split
        · rename_i ha
          refine ⟨fun x hx => ?_, ⟨fun e => ?_, h.l⟩⟩
          · rcases List.mem_cons.mp hx with e2 | e2
            · subst e2; exact hm
            · exact h.t x e2
          · rw [e, above_nil_left] at ha; simp at ha
        · rename_i ha
          have ih := plus_good hm c hp
          refine ⟨fun x hx => ?_, ⟨fun e => ?_, ih.l⟩⟩
          · rcases List.mem_cons.mp hx with e2 | e2
            · subst e2; exact hn
            · exact ih.t x e2
          · exfalso
            apply ha
            rw [e]
            exact above_nil_right hm (fun e2 => hne (by rw [e2, e]))

theorem add_good {q : Poly} (hq : GoodT q) : ∀ {p : Poly}, GoodP p → GoodP (AlBase.add p q) := by
  unfold AlBase.add
  induction q with
  | nil => intro p hp; exact hp
  | cons x q ih =>
    intro p hp
    rw [List.foldl_cons]
    exact ih (fun y hy => hq y (by simp [hy])) (plus_good (hq x (by simp)) _ hp)

theorem scale_good {c : Rat} {p : Poly} (h : GoodP p) : GoodP (AlBase.scale c p) := by
  unfold AlBase.scale
  split
  · exact ⟨by intro x hx; simp at hx, trivial⟩
  · refine ⟨fun x hx => ?_, ?_⟩
    · rw [List.mem_map] at hx
      obtain ⟨y, hy, e⟩ := hx
      rw [← e]; exact h.t y hy
    · have := h.l
      clear h
      induction p with
      | nil => exact trivial
      | cons x p ih =>
        exact ⟨fun e => by rw [this.1 e]; rfl, ih this.2⟩

theorem put_good {a i : Nat} (hi : 0 < i) : ∀ {m : Mono}, GoodM m → GoodM (AlBase.put a i m)
  | [], _ => by intro y hy; simp [AlBase.put] at hy; subst hy; exact hi
  | (b, j) :: m, h => by
    have hm : GoodM m := fun y hy => h y (by simp [hy])
    have hj : 0 < j := h (b, j) (by simp)
    unfold AlBase.put
    split
    · intro y hy
      rcases List.mem_cons.mp hy with e | e
      · subst e; exact hi
      · exact h y e
    · split
      · intro y hy
        rcases List.mem_cons.mp hy with e | e
        · subst e; show 0 < i + j; omega
        · exact hm y e
      · intro y hy
        rcases List.mem_cons.mp hy with e | e
        · subst e; exact hj
        · exact put_good hi hm y e

theorem times_good {n : Mono} (hn : GoodM n) : ∀ {m : Mono}, GoodM m → GoodM (AlBase.times m n) := by
  unfold AlBase.times
  induction n with
  | nil => intro m hm; exact hm
  | cons x n ih =>
    intro m hm
    rw [List.foldl_cons]
    exact ih (fun y hy => hn y (by simp [hy])) (put_good (hn x (by simp)) hm)

theorem termTimes_good {x : Mono × Rat} {p : Poly} (hx : GoodM x.1) (h : GoodP p) : GoodT (AlBase.termTimes x p) := by
  unfold AlBase.termTimes
  intro y hy
  rw [List.mem_map] at hy
  obtain ⟨z, hz, e⟩ := hy
  rw [← e]
  exact times_good ((scale_good h).t z hz) hx

theorem mul_good {p q : Poly} (hp : GoodT p) (hq : GoodP q) : GoodP (AlBase.mul p q) := by
  unfold AlBase.mul
  have : ∀ (s : Poly), GoodP s → GoodP (p.foldl (fun (s : Poly) (x : Mono × Rat) => AlBase.add s (AlBase.termTimes x q)) s) := by
    induction p with
    | nil => intro s hs; exact hs
    | cons x p ih =>
      intro s hs
      rw [List.foldl_cons]
      exact ih (fun y hy => hp y (by simp [hy])) _ (add_good (termTimes_good (hp x (by simp)) hq) hs)
  exact this [] ⟨by intro x hx; simp at hx, trivial⟩

theorem const_good (c : Rat) : GoodP (AlBase.const c) := plus_good (by intro y hy; simp at hy) c ⟨by intro x hx; simp at hx, trivial⟩
theorem one_good : GoodP AlBase.one := ⟨by intro x hx; simp [AlBase.one] at hx; subst hx; intro y hy; simp at hy, ⟨fun _ => rfl, trivial⟩⟩
theorem mono_good {a n : Nat} (h : 0 < n) : GoodP [([(a, n)], 1)] :=
  ⟨by intro x hx; simp at hx; subst hx; intro y hy; simp at hy; subst hy; exact h, ⟨fun e => by simp at e, trivial⟩⟩

theorem readFactor_good {w : List Nat} {p : Poly} (h : AlBase.readFactor w = some p) : GoodP p := by
  unfold AlBase.readFactor at h
  split at h
  · split at h
    · simp at h; subst h; exact mono_good (by omega)
    · rw [Option.map_eq_some_iff] at h
      obtain ⟨c, _, e⟩ := h
      subst e; exact const_good c
  · rw [Option.bind_eq_some_iff] at h
    obtain ⟨a, _, h⟩ := h
    rw [Option.map_eq_some_iff] at h
    obtain ⟨n, _, e⟩ := h
    subst e
    split
    · exact one_good
    · exact mono_good (by omega)
  · simp at h

theorem mapM_all {A C : Type} {f : A → Option C} {G : C → Prop} (hf : ∀ a c, f a = some c → G c) : ∀ (l : List A) (r : List C), l.mapM f = some r → ∀ c ∈ r, G c
  | [], r, h => by simp at h; subst h; simp
  | a :: l, r, h => by
    rw [List.mapM_cons] at h
    simp only [Option.bind_eq_bind, Option.pure_def, Option.bind_eq_some_iff] at h
    obtain ⟨c, hc, r', hr, e⟩ := h
    simp at e; subst e
    intro d hd
    rcases List.mem_cons.mp hd with e | e
    · subst e; exact hf a d hc
    · exact mapM_all hf l r' hr d e

theorem readTerm_good {w : List Nat} {p : Poly} (h : AlBase.readTerm w = some p) : GoodP p := by
  unfold AlBase.readTerm at h
  rw [Option.map_eq_some_iff] at h
  obtain ⟨l, hl, e⟩ := h
  have hg := mapM_all (G := GoodP) (fun a c hc => readFactor_good hc) _ _ hl
  subst e
  clear hl
  have : ∀ s : Poly, GoodP s → GoodP (l.foldl AlBase.mul s) := by
    induction l with
    | nil => intro s hs; exact hs
    | cons q l ih =>
      intro s hs
      rw [List.foldl_cons]
      exact ih (fun c hc => hg c (by simp [hc])) _ (mul_good hs.t (hg q (by simp)))
  exact this _ one_good

theorem neg_good {p : Poly} (h : GoodP p) : GoodP (AlBase.neg p) := scale_good h

theorem readMore_good : ∀ (n : Nat) (s : Poly) (l : List (List Nat)) (p : Poly), l.length ≤ n → GoodP s → AlBase.readMore s l = some p → GoodP p
  | _, s, [], p, _, hs, h => by simp [AlBase.readMore] at h; subst h; exact hs
  | _, s, [_], p, _, hs, h => by simp [AlBase.readMore] at h
  | 0, s, a :: w :: l, p, hn, hs, h => by simp at hn
  | n + 1, s, a :: w :: l, p, hn, hs, h => by
    unfold AlBase.readMore at h
    simp only [List.length_cons] at hn
    split at h
    · rw [Option.bind_eq_some_iff] at h
      obtain ⟨q, hq, h⟩ := h
      exact readMore_good n _ l p (by omega) (add_good (readTerm_good hq).t hs) h
    · split at h
      · rw [Option.bind_eq_some_iff] at h
        obtain ⟨q, hq, h⟩ := h
        exact readMore_good n _ l p (by omega) (add_good (neg_good (readTerm_good hq)).t hs) h
      · simp at h

theorem readSum_good {t : List Nat} {p : Poly} (h : AlBase.readSum t = some p) : GoodP p := by
  unfold AlBase.readSum at h
  split at h
  · simp at h
  · split at h
    · rw [Option.bind_eq_some_iff] at h
      obtain ⟨q, hq, h⟩ := h
      exact readMore_good _ _ _ p (Nat.le_refl _) (neg_good (readTerm_good hq)) h
    · rw [Option.bind_eq_some_iff] at h
      obtain ⟨q, hq, h⟩ := h
      exact readMore_good _ _ _ p (Nat.le_refl _) (readTerm_good hq) h

theorem foldl_max_le : ∀ (p : Poly) (s : Nat), s ≤ p.foldl (fun (s : Nat) (x : Mono × Rat) => max s (AlBase.degree x.1)) s
  | [], s => Nat.le_refl s
  | x :: p, s => by
    rw [List.foldl_cons]
    exact Nat.le_trans (Nat.le_max_left _ _) (foldl_max_le p _)

theorem deg_zero {p : Poly} (h : GoodP p) (hd : AlBase.polyDegree p = 0) : p = [] ∨ ∃ c, p = [([], c)] := by
  cases p with
  | nil => exact Or.inl rfl
  | cons x p =>
    right
    obtain ⟨m, c⟩ := x
    have h1 : AlBase.degree m = 0 := by
      unfold AlBase.polyDegree at hd
      rw [List.foldl_cons] at hd
      have h2 := foldl_max_le p (max 0 (AlBase.degree m))
      have h3 : p.foldl (fun (s : Nat) (x : Mono × Rat) => max s (AlBase.degree x.1)) (max 0 (AlBase.degree m)) = 0 := hd
      omega
    have hm : m = [] := Classical.byContradiction fun hn => by
      have h2 : 0 < AlBase.degree m := degree_pos (h.t (m, c) (by simp)) hn
      omega
    have := h.l.1 hm
    rw [hm, this]
    exact ⟨c, rfl⟩

theorem text_one (c : Rat) : AlBase.text [([], c)] = sgnT c := by
  by_cases h0 : c = 0
  · subst h0
    show (if (0 : Rat) < 0 then _ else AlBase.termText [] 0) ++ [] = _
    rw [if_neg (by decide)]
    show AlBase.numberText 0 ++ [] = _
    rw [numberText_eq (by decide)]
    unfold sgnT
    simp
  · have := numText_eq c
    unfold AlOne.numText AlBase.const AlBase.plus at this
    rw [if_neg h0] at this
    exact this

theorem value_const (c : Rat) : AlBase.value (fun _ => 0) [([], c)] = c := by
  show (0 : Rat) + c * 1 = c
  grind

theorem readNum_text {t : List Nat} {c : Rat} (h : AlOne.readNum t = some c) : t = sgnT c := by
  unfold AlOne.readNum AlBase.read at h
  rw [Option.bind_eq_some_iff] at h
  obtain ⟨p, hp, h⟩ := h
  rw [Option.bind_eq_some_iff] at hp
  obtain ⟨q, hq, hp⟩ := hp
  have hg := readSum_good hq
  split at hp
  · rename_i ht
    simp at hp; subst hp
    split at h
    · rename_i hd
      rcases deg_zero hg hd with e | ⟨d, e⟩
      · subst e
        simp [AlBase.value] at h
        rw [← ht, ← h]
        show [48] = sgnT 0
        unfold sgnT numT; simp [dg_zero]
      · subst e
        rw [value_const] at h
        simp at h
        rw [← ht, text_one, h]
    · simp at h
  · simp at hp

/-! the other way -/
theorem const_ne {c : Rat} (h : c ≠ 0) : AlBase.const c = [([], c)] := by unfold AlBase.const; rw [plus_nil, if_neg h]
theorem const_zero : AlBase.const 0 = [] := by unfold AlBase.const; rw [plus_nil, if_pos rfl]

theorem mul_one_const (c : Rat) : AlBase.mul AlBase.one (AlBase.const c) = AlBase.const c := by
  by_cases h : c = 0
  · subst h; rw [const_zero]; rfl
  · rw [const_ne h]
    show AlBase.add [] (AlBase.termTimes ([], 1) [([], c)]) = _
    unfold AlBase.termTimes AlBase.scale
    rw [if_neg (by decide)]
    show AlBase.plus [] (1 * c) [] = _
    rw [plus_nil, Rat.one_mul, if_neg h]

theorem neg_const (c : Rat) : AlBase.neg (AlBase.const c) = AlBase.const (-c) := by
  by_cases h : c = 0
  · subst h; rw [Rat.neg_zero, const_zero]; rfl
  · have h2 : -c ≠ 0 := by grind
    rw [const_ne h, const_ne h2]
    unfold AlBase.neg AlBase.scale
    rw [if_neg (by decide)]
    show [(([] : Mono), (-1) * c)] = _
    have : (-1) * c = -c := by grind
    rw [this]

theorem readLetter_none {w : List Nat} (h : ∀ b ∈ w, b ≤ 57) : AlBase.readLetter w = none := by
  unfold AlBase.readLetter
  split
  · rename_i b
    have := h b (by simp)
    rw [if_neg (by omega)]
  · rfl

theorem numT_le {c : Rat} : ∀ b ∈ numT c, b ≤ 57 := by
  intro b hb
  apply Classical.byContradiction
  intro h
  exact numT_notin (c := c) (b := b) (by omega) hb

theorem readFactor_numT {c : Rat} (h : 0 ≤ c.num) : AlBase.readFactor (numT c) = some (AlBase.const c) := by
  unfold AlBase.readFactor
  rw [split_none (numT_notin (by omega))]
  show (match AlBase.readLetter (numT c) with | some a => some (AlBase.letter a) | none => (AlBase.readNumber (numT c)).map AlBase.const) = _
  rw [readLetter_none numT_le, readNumber_numT h]; rfl

theorem readTerm_numT {c : Rat} (h : 0 ≤ c.num) : AlBase.readTerm (numT c) = some (AlBase.const c) := by
  unfold AlBase.readTerm
  rw [split_none (numT_notin (by omega))]
  show (List.mapM AlBase.readFactor [numT c]).map _ = _
  rw [List.mapM_cons, readFactor_numT h, List.mapM_nil]
  show some (AlBase.mul AlBase.one (AlBase.const c)) = _
  rw [mul_one_const]

theorem readSum_sgnT (c : Rat) : AlBase.readSum (sgnT c) = some (AlBase.const c) := by
  unfold AlBase.readSum
  rw [split_none (sgnT_notin (by omega))]
  show (if (sgnT c).headD 0 = 45 then (AlBase.readTerm (sgnT c).tail).bind fun p => AlBase.readMore (AlBase.neg p) [] else (AlBase.readTerm (sgnT c)).bind fun p => AlBase.readMore p []) = _
  by_cases h : c.num < 0
  · have e : sgnT c = 45 :: numT (-c) := by
      unfold sgnT numT
      rw [if_pos h, Rat.neg_num, Rat.neg_den, Int.natAbs_neg]; rfl
    rw [e, if_pos (show (45 :: numT (-c)).headD 0 = 45 from rfl), List.tail_cons, readTerm_numT (by rw [Rat.neg_num]; omega)]
    show AlBase.readMore (AlBase.neg (AlBase.const (-c))) [] = _
    rw [neg_const, Rat.neg_neg]; rfl
  · have e : sgnT c = numT c := by unfold sgnT; rw [if_neg h]; rfl
    obtain ⟨b, l, e2, h1, h2⟩ := numT_head c
    rw [e, if_neg (by rw [e2]; show b ≠ 45; omega), readTerm_numT (by omega)]
    rfl

theorem readNum_sgnT (c : Rat) : AlOne.readNum (sgnT c) = some c := by
  unfold AlOne.readNum AlBase.read
  rw [readSum_sgnT]
  have e : AlBase.text (AlBase.const c) = sgnT c := numText_eq c
  show (if AlBase.text (AlBase.const c) = sgnT c then some (AlBase.const c) else none).bind _ = _
  rw [if_pos e]
  show (if AlBase.polyDegree (AlBase.const c) = 0 then some (AlBase.value (fun _ => 0) (AlBase.const c)) else none) = _
  by_cases h : c = 0
  · subst h; rw [const_zero]; rfl
  · rw [const_ne h, value_const]; rfl

/-- **a number is read from its text alone** -/
theorem readNum_iff {t : List Nat} {c : Rat} : AlOne.readNum t = some c ↔ t = sgnT c :=
  ⟨readNum_text, fun h => by rw [h, readNum_sgnT]⟩

end Ma
/-! The text of a polynomial, power by power from the highest one down. -/
namespace Ma
open AlBase (Mono Poly)

def mo (k : Nat) : Mono := if k = 0 then [] else [(AlOne.X, k)]
/-- the terms, the higher powers first -/
def termsD : List Rat → Nat → Poly
  | [], _ => []
  | c :: p, k => termsD p (k + 1) ++ (if c = 0 then [] else [(mo k, c)])

theorem degree_mo (k : Nat) : AlBase.degree (mo k) = k := by
  unfold mo
  split
  · rename_i h; rw [h]; rfl
  · simp [AlBase.degree]

theorem plus_top {k : Nat} {c : Rat} {s : Poly} (h : ∀ x ∈ s, AlBase.degree x.1 < k) : AlBase.plus (mo k) c s = (if c = 0 then [] else [(mo k, c)]) ++ s := by
  cases s with
  | nil => rw [plus_nil, List.append_nil]
  | cons x s =>
    obtain ⟨n, d⟩ := x
    have hd : AlBase.degree n < k := h (n, d) (by simp)
    rw [plus_cons]
    split
    · rfl
    · have hne : mo k ≠ n := by intro e; rw [← e, degree_mo] at hd; omega
      rw [if_neg hne]
      have : AlBase.above (mo k) n = true := by
        unfold AlBase.above
        rw [degree_mo, if_neg (by omega)]; simp [hd]
      rw [if_pos this]; rfl

theorem gather_eq : ∀ (p : List Rat) (k : Nat) (s : Poly), (∀ x ∈ s, AlBase.degree x.1 < k) →
    AlBase.add s ((p.zip (List.range' k p.length)).map fun x => (mo x.2, x.1)) = termsD p k ++ s
  | [], k, s, _ => rfl
  | c :: p, k, s, h => by
    rw [List.length_cons, List.range'_succ, List.zip_cons_cons, List.map_cons]
    unfold AlBase.add
    rw [List.foldl_cons]
    have e := plus_top (c := c) h
    show List.foldl _ (AlBase.plus (mo k) c s) _ = _
    rw [e]
    have := gather_eq p (k + 1) ((if c = 0 then [] else [(mo k, c)]) ++ s) (by
      intro x hx
      rw [List.mem_append] at hx
      rcases hx with hx | hx
      · split at hx
        · simp at hx
        · simp at hx; subst hx; show AlBase.degree (mo k) < k + 1; rw [degree_mo]; omega
      · have := h x hx; omega)
    unfold AlBase.add at this
    rw [this]
    show _ = (termsD p (k + 1) ++ _) ++ s
    rw [List.append_assoc]

theorem toPoly_eq (p : List Rat) : AlOne.toPoly p = termsD p 0 := by
  unfold AlOne.toPoly AlBase.gather
  have := gather_eq p 0 [] (by simp)
  rw [List.append_nil] at this
  rw [← this, List.range_eq_range']
  rfl

/-- one more term behind a text -/
def stepT (acc : List Nat) (x : Mono × Rat) : List Nat :=
  acc ++ (if acc = [] then (if x.2 < 0 then [45] else []) else (if x.2 < 0 then [32, 45, 32] else [32, 43, 32])) ++ AlBase.termText x.1 (if x.2 < 0 then -x.2 else x.2)

theorem termText_ne (m : Mono) (c : Rat) : AlBase.termText m c ≠ [] := by
  have hn : AlBase.numberText c ≠ [] := by
    unfold AlBase.numberText
    rw [digits_eq]
    intro h
    rw [List.append_eq_nil_iff] at h
    exact dg_ne _ h.1
  unfold AlBase.termText
  split
  · exact hn
  · rename_i h0
    split
    · unfold AlBase.monoText
      cases m with
      | nil => exact absurd rfl h0
      | cons y m =>
        rw [List.map_cons]
        cases m with
        | nil => simp [AlBase.join]
        | cons z m => simp [AlBase.join]
    · simp

theorem stepT_ne (acc : List Nat) (x : Mono × Rat) : stepT acc x ≠ [] := by
  unfold stepT
  intro h
  rw [List.append_eq_nil_iff] at h
  exact termText_ne _ _ h.2

theorem foldl_step : ∀ (l : Poly) (acc : List Nat), acc ≠ [] → l.foldl stepT acc = acc ++ l.flatMap AlBase.moreText
  | [], acc, _ => by simp
  | x :: l, acc, h => by
    rw [List.foldl_cons, foldl_step l _ (stepT_ne acc x), List.flatMap_cons]
    unfold stepT AlBase.moreText
    rw [if_neg h]
    split <;> simp [List.append_assoc]

theorem text_fold {l : Poly} (h : l ≠ []) : AlBase.text l = l.foldl stepT [] := by
  cases l with
  | nil => exact absurd rfl h
  | cons x l =>
    obtain ⟨m, c⟩ := x
    rw [List.foldl_cons, foldl_step l _ (stepT_ne [] (m, c))]
    unfold AlBase.text stepT
    simp only [if_true, List.nil_append]
    split <;> rfl

theorem termsD_ne : ∀ {p : List Rat} {k : Nat}, Tr p → p ≠ [] → termsD p k ≠ []
  | [], _, _, h => absurd rfl h
  | [c], k, h, _ => by
    have := tr_one_ne h
    simp [termsD, this]
  | c :: d :: p, k, h, _ => by
    have := termsD_ne (k := k + 1) (tr_tail h) (by simp)
    show termsD (d :: p) (k + 1) ++ _ ≠ []
    intro e
    rw [List.append_eq_nil_iff] at e
    exact this e.1

/-- **the text of a polynomial** -/
theorem text_eq {p : List Rat} (h : Tr p) (hne : p ≠ []) : AlOne.text p = (termsD p 0).foldl stepT [] := by
  unfold AlOne.text
  rw [toPoly_eq, text_fold (termsD_ne h hne)]
theorem text_zero : AlOne.text [] = [48] := rfl

/-- the term of a power -/
def powT (k : Nat) : List Nat := 120 :: (if k = 1 then [] else 94 :: dg k)
theorem termText_mo {k : Nat} {c : Rat} (hc : 0 ≤ c.num) : AlBase.termText (mo k) c = if k = 0 then numT c else if c = 1 then powT k else numT c ++ 42 :: powT k := by
  unfold AlBase.termText mo
  by_cases h : k = 0
  · rw [if_pos h, if_pos rfl, if_pos h, numberText_eq hc]
  · rw [if_neg h, if_neg (by simp), if_neg h, numberText_eq hc]
    have : AlBase.monoText [(AlOne.X, k)] = powT k := by
      unfold AlBase.monoText powT
      simp only [List.map_cons, List.map_nil, AlBase.join]
      rw [digits_eq]
      rfl
    rw [this]

/-- power by power: what the highest n of k + n powers give -/
theorem termsD_snoc : ∀ (p : List Rat) (c : Rat) (k : Nat), termsD (p ++ [c]) k = (if c = 0 then [] else [(mo (k + p.length), c)]) ++ termsD p k
  | [], c, k => by simp [termsD]
  | d :: p, c, k => by
    show termsD (p ++ [c]) (k + 1) ++ _ = _
    rw [termsD_snoc p c (k + 1), List.append_assoc, List.length_cons, show k + 1 + p.length = k + (p.length + 1) by omega]
    rfl

end Ma
/-! A fraction in lowest terms, by whole numbers. -/
namespace Ma

def lowS (t b : Int) : Int := if b < 0 then -((Nat.gcd t.natAbs b.natAbs : Nat) : Int) else ((Nat.gcd t.natAbs b.natAbs : Nat) : Int)

theorem lowS_ne {t b : Int} (h : b ≠ 0) : lowS t b ≠ 0 := by
  have : 0 < Nat.gcd t.natAbs b.natAbs := Nat.gcd_pos_of_pos_right _ (by omega)
  unfold lowS; split <;> omega

theorem lowS_abs (t b : Int) : (lowS t b).natAbs = Nat.gcd t.natAbs b.natAbs := by
  unfold lowS; split
  · rw [Int.natAbs_neg, Int.natAbs_natCast]
  · rw [Int.natAbs_natCast]

theorem lowS_le {t b : Int} (h : b ≠ 0) : (lowS t b).natAbs ≤ b.natAbs := by
  rw [lowS_abs]; exact Nat.le_of_dvd (by omega) (Nat.gcd_dvd_right _ _)

theorem lowS_sign {t b : Int} (h : b ≠ 0) : lowS t b = b.sign * ((Nat.gcd t.natAbs b.natAbs : Nat) : Int) := by
  unfold lowS
  split
  · rename_i hb
    rw [Int.sign_eq_neg_one_of_neg hb]; omega
  · have : 0 < b := by omega
    rw [Int.sign_eq_one_of_pos this]; omega

theorem low_num {t b : Int} (h : b ≠ 0) : t.fdiv (lowS t b) = (Rat.divInt t b).num := by
  rw [Rat.num_divInt, lowS_sign h]
  have e : b.gcd t = Nat.gcd t.natAbs b.natAbs := by rw [Nat.gcd_comm]; rfl
  rw [e]
  have hg : 0 < Nat.gcd t.natAbs b.natAbs := Nat.gcd_pos_of_pos_right _ (by omega)
  generalize hge : Nat.gcd t.natAbs b.natAbs = g at *
  have hd : (g : Int) ∣ t := by rw [← hge]; exact Int.ofNat_dvd_left.mpr (Nat.gcd_dvd_left _ _)
  obtain ⟨q, hq⟩ := hd
  have hg0 : (g : Int) ≠ 0 := by omega
  rcases Int.lt_or_gt_of_ne h with hb | hb
  · rw [Int.sign_eq_neg_one_of_neg hb, hq]
    have e1 : (g : Int) * q = (-1 * (g : Int)) * (-q) := by grind
    have e2 : -1 * ((g : Int) * q) = (g : Int) * (-q) := by grind
    rw [e2, Int.mul_ediv_cancel_left _ hg0, e1, Int.mul_fdiv_cancel_left _ (by omega)]
  · rw [Int.sign_eq_one_of_pos hb, hq]
    have e1 : (g : Int) * q = (1 * (g : Int)) * q := by grind
    have e2 : 1 * ((g : Int) * q) = (g : Int) * q := by grind
    rw [e2, Int.mul_ediv_cancel_left _ hg0, e1, Int.mul_fdiv_cancel_left _ (by omega)]

theorem low_den {t b : Int} (h : b ≠ 0) : b.fdiv (lowS t b) = ((Rat.divInt t b).den : Int) := by
  rw [Rat.den_divInt, if_neg h, lowS_sign h]
  have e : b.gcd t = Nat.gcd t.natAbs b.natAbs := by rw [Nat.gcd_comm]; rfl
  rw [e]
  have hg : 0 < Nat.gcd t.natAbs b.natAbs := Nat.gcd_pos_of_pos_right _ (by omega)
  generalize hge : Nat.gcd t.natAbs b.natAbs = g at *
  have hd : g ∣ b.natAbs := by rw [← hge]; exact Nat.gcd_dvd_right _ _
  obtain ⟨q, hq⟩ := hd
  rw [hq, Nat.mul_div_cancel_left _ hg]
  have hb' : b = b.sign * (b.natAbs : Int) := (Int.sign_mul_natAbs b).symm
  rw [hq] at hb'
  have hs0 : b.sign * (g : Int) ≠ 0 := by
    intro h0
    rcases Int.mul_eq_zero.mp h0 with h1 | h1
    · exact h (Int.sign_eq_zero_iff_zero.mp h1)
    · omega
  have e3 : b = b.sign * (g : Int) * (q : Int) := by
    conv => lhs; rw [hb']
    rw [Int.natCast_mul, Int.mul_assoc]
  generalize b.sign * (g : Int) = s at *
  rw [e3, Int.mul_fdiv_cancel_left _ hs0]

theorem add_divInt (a b : Rat) : Rat.divInt (a.num * (b.den : Int) + b.num * (a.den : Int)) ((a.den : Int) * (b.den : Int)) = a + b := by
  rw [Rat.add_def', ← Int.natCast_mul, Rat.divInt_ofNat]
theorem mul_divInt (a b : Rat) : Rat.divInt (a.num * b.num) ((a.den : Int) * (b.den : Int)) = a * b := by
  rw [Rat.mul_def', ← Int.natCast_mul, Rat.divInt_ofNat]
theorem div_divInt {a b : Rat} : Rat.divInt (a.num * (b.den : Int)) ((a.den : Int) * b.num) = a / b := by
  rw [Rat.div_def, Rat.inv_def]
  conv => rhs; rw [← Rat.num_divInt_den a]
  rw [Rat.divInt_mul_divInt]
end Ma
/-! A product, number by number. -/
namespace Ma
open AlOne

theorem M_take (f : Nat → Rat) : ∀ (p : List Rat) (i k : Nat), M (p.take (i + 1)) f k = M (p.take i) f k + (if i ≤ k then co p i * f (k - i) else 0)
  | [], i, k => by simp [M, co_nil]; grind
  | c :: p, 0, k => by
    show c * f k + sh (M [] f) k = 0 + (if 0 ≤ k then co (c :: p) 0 * f (k - 0) else 0)
    have : sh (M [] f) k = 0 := by cases k <;> rfl
    rw [this, if_pos (Nat.zero_le k), co_zero, Nat.sub_zero]; grind
  | c :: p, i + 1, 0 => by
    show c * f 0 + sh (M (p.take (i + 1)) f) 0 = (c * f 0 + sh (M (p.take i) f) 0) + (if i + 1 ≤ 0 then _ else 0)
    rw [if_neg (by omega)]
    show c * f 0 + 0 = (c * f 0 + 0) + 0
    grind
  | c :: p, i + 1, k + 1 => by
    show c * f (k + 1) + M (p.take (i + 1)) f k = (c * f (k + 1) + M (p.take i) f k) + (if i + 1 ≤ k + 1 then co (c :: p) (i + 1) * f (k + 1 - (i + 1)) else 0)
    rw [M_take f p i k, co_succ]
    have e : k + 1 - (i + 1) = k - i := by omega
    rw [e]
    by_cases h : i ≤ k
    · rw [if_pos h, if_pos (by omega)]; grind
    · rw [if_neg h, if_neg (by omega)]; grind

/-- behind i whole turns and j inner ones -/
def PV (p q : List Rat) (i j k : Nat) : Rat := M (p.take i) (co q) k + (if i ≤ k ∧ k < i + j then co p i * co q (k - i) else 0)

theorem PV_zero (p q : List Rat) (k : Nat) : PV p q 0 0 k = 0 := by
  unfold PV
  rw [if_neg (by omega)]
  show 0 + 0 = (0 : Rat)
  grind
theorem PV_inner (p q : List Rat) (i j k : Nat) : PV p q i (j + 1) k = if k = i + j then PV p q i j (i + j) + co p i * co q j else PV p q i j k := by
  unfold PV
  by_cases h : k = i + j
  · subst h
    rw [if_pos (by omega), if_pos rfl, if_neg (by omega), show i + j - i = j by omega]; grind
  · rw [if_neg h]
    by_cases h2 : i ≤ k ∧ k < i + j
    · rw [if_pos h2, if_pos (by omega)]
    · rw [if_neg h2, if_neg (by omega)]
theorem PV_outer (p q : List Rat) (i k : Nat) : PV p q i q.length k = PV p q (i + 1) 0 k := by
  unfold PV
  rw [if_neg (show ¬ (i + 1 ≤ k ∧ k < i + 1 + 0) by omega), M_take]
  by_cases h : i ≤ k
  · rw [if_pos h]
    by_cases h2 : k < i + q.length
    · rw [if_pos ⟨h, h2⟩]; grind
    · rw [if_neg (by omega), co_ge (show q.length ≤ k - i by omega)]; grind
  · rw [if_neg h, if_neg (by omega)]; grind
theorem PV_last (p q : List Rat) (k : Nat) : PV p q p.length 0 k = co (mul p q) k := by
  unfold PV
  rw [if_neg (by omega), List.take_length, co_mul]; grind

theorem mul_map (p q : List Rat) {n : Nat} (h : n = p.length + q.length) : trim ((List.range n).map fun k => PV p q p.length 0 k) = mul p q := by
  refine ext (tr_trim _) (tr_mul _ _) fun i => ?_
  rw [co_trim]
  by_cases hi : i < n
  · rw [← PV_last]
    unfold co
    simp [List.getD_eq_getElem?_getD, hi]
  · have h1 : co ((List.range n).map fun k => PV p q p.length 0 k) i = 0 := co_ge (by simp; omega)
    rw [h1, co_mul]
    by_cases hp : p = []
    · subst hp; rfl
    · by_cases hq : q = []
      · subst hq
        rw [M_comm]; rfl
      · exact ((M_top p q hp hq).1 i (by omega)).symm

/-- all its numbers whole by D, then of at most m bits -/
def HtL (l : List Rat) (D m : Nat) : Prop := ∀ i, ∃ y : Int, (D : Rat) * co l i = (y : Rat) ∧ B y m

theorem HtL.mono {l : List Rat} {D m n : Nat} (h : HtL l D m) (hm : m ≤ n) : HtL l D n := fun i =>
  let ⟨y, a, b⟩ := h i; ⟨y, a, b.mono hm⟩

theorem M_htL {q : List Rat} {E b : Nat} (hq : HtL q E b) {D a : Nat} : ∀ (p : List Rat), HtL p D a → ∀ k, ∃ y : Int, ((D * E : Nat) : Rat) * M p (co q) k = (y : Rat) ∧ B y (a + b + p.length)
  | [], _, k => ⟨0, by simp [M], B.zero _⟩
  | c :: p, hp, k => by
    obtain ⟨y1, e1, b1⟩ := hp 0
    obtain ⟨y2, e2, b2⟩ := hq k
    have ih := M_htL hq p (fun i => by have := hp (i + 1); rwa [co_succ] at this)
    have hs : ∃ y : Int, ((D * E : Nat) : Rat) * sh (M p (co q)) k = (y : Rat) ∧ B y (a + b + p.length) := by
      cases k with
      | zero => exact ⟨0, by simp [sh], B.zero _⟩
      | succ k => exact ih k
    obtain ⟨y3, e3, b3⟩ := hs
    rw [co_zero] at e1
    refine ⟨y1 * y2 + y3, ?_, ?_⟩
    · show ((D * E : Nat) : Rat) * (c * co q k + sh (M p (co q)) k) = _
      rw [Rat.intCast_add, Rat.intCast_mul, ← e1, ← e2, ← e3, Rat.natCast_mul]; grind
    · exact (((b1.mul b2).mono (show a + b ≤ a + b + p.length by omega)).add b3).mono (by rw [List.length_cons]; omega)

theorem htL_take {p : List Rat} {D a : Nat} (h : HtL p D a) (i : Nat) : HtL (p.take i) D a := fun j => by
  by_cases hj : j < i
  · have : co (p.take i) j = co p j := by
      unfold co; simp [List.getD_eq_getElem?_getD, List.getElem?_take, hj]
    rw [this]; exact h j
  · have : co (p.take i) j = 0 := co_ge (by rw [List.length_take]; omega)
    rw [this]; exact ⟨0, by simp, B.zero _⟩

theorem PV_htL {p q : List Rat} {D E a b : Nat} (hp : HtL p D a) (hq : HtL q E b) (i j k : Nat) (hi : i ≤ p.length) : ∃ y : Int, ((D * E : Nat) : Rat) * PV p q i j k = (y : Rat) ∧ B y (a + b + p.length + 1) := by
  obtain ⟨y1, e1, b1⟩ := M_htL hq _ (htL_take hp i) k
  have hlen : (p.take i).length ≤ p.length := by rw [List.length_take]; omega
  have h2 : ∃ y : Int, ((D * E : Nat) : Rat) * (if i ≤ k ∧ k < i + j then co p i * co q (k - i) else 0) = (y : Rat) ∧ B y (a + b + p.length) := by
    split
    · obtain ⟨y2, e2, b2⟩ := hp i
      obtain ⟨y3, e3, b3⟩ := hq (k - i)
      refine ⟨y2 * y3, ?_, (b2.mul b3).mono (by omega)⟩
      rw [Rat.intCast_mul, ← e2, ← e3, Rat.natCast_mul]; grind
    · exact ⟨0, by simp, B.zero _⟩
  obtain ⟨y2, e2, b2⟩ := h2
  refine ⟨y1 + y2, ?_, (b1.mono (by omega)).add b2⟩
  unfold PV
  rw [Rat.intCast_add, ← e1, ← e2]; grind

theorem mul_htL {p q : List Rat} {D E a b : Nat} (hp : HtL p D a) (hq : HtL q E b) : HtL (mul p q) (D * E) (a + b + p.length) := fun k => by
  rw [co_mul]; exact M_htL hq p hp k

theorem htL_num {l : List Rat} {D m b : Nat} (h : HtL l D m) (hD : 0 < D) (hDb : D ≤ 2 ^ b) (hm : m ≤ b) : ∀ c ∈ l, c.num.natAbs ≤ 2 ^ b ∧ c.den ≤ 2 ^ b := by
  intro c hc
  obtain ⟨i, hi, e⟩ := List.getElem_of_mem hc
  obtain ⟨y, e1, b1⟩ := h i
  have : co l i = c := by unfold co; simp [List.getD_eq_getElem?_getD, hi, e]
  rw [this] at e1
  exact num_den_le hD hDb e1 (b1.mono hm)
end Ma
/-! Long division, number by number. -/
namespace Ma
open AlOne

/-- a list as a polynomial -/
def mk (l : List Rat) : P := ⟨trim l, tr_trim l⟩
theorem mk_c (l : List Rat) (i : Nat) : (mk l).c i = co l i := co_trim l i
theorem mk_tr {l : List Rat} (h : Tr l) : (mk l).1 = l := h

theorem sign_abs (l : Int) : ((l.natAbs : Nat) : Int) = l.sign * l := by
  rcases Int.lt_trichotomy l 0 with h | h | h
  · rw [Int.sign_eq_neg_one_of_neg h]; omega
  · subst h; rfl
  · rw [Int.sign_eq_one_of_pos h]; omega

theorem X_mul (q : P) : ∀ (s k : Nat), (X s * q).c k = if s ≤ k then q.c (k - s) else 0
  | 0, k => by
    rw [P.c_mul]
    show M [1] q.c k = _
    rw [if_pos (Nat.zero_le k), Nat.sub_zero]
    show 1 * q.c k + sh (M [] q.c) k = _
    have : sh (M [] q.c) k = 0 := by cases k <;> rfl
    rw [this]; grind
  | s + 1, k => by
    rw [P.c_mul]
    have e : (X (s + 1)).1 = 0 :: (X s).1 := by
      show xpow (s + 1) = 0 :: xpow s
      unfold xpow; rw [List.replicate_succ]; rfl
    rw [e]
    show 0 * q.c k + sh (M (X s).1 q.c) k = _
    cases k with
    | zero => rw [if_neg (by omega)]; show 0 * q.c 0 + 0 = _; grind
    | succ k =>
      have := X_mul q s k
      rw [P.c_mul] at this
      show 0 * q.c (k + 1) + M (X s).1 q.c k = _
      rw [this]
      by_cases h : s ≤ k
      · rw [if_pos h, if_pos (by omega), show k + 1 - (s + 1) = k - s by omega]; grind
      · rw [if_neg h, if_neg (by omega)]; grind

/-- what is left behind t turns; N turns in all -/
def RS (p q : List Rat) (N : Nat) : Nat → Nat → Rat
  | 0, k => co p k
  | t + 1, k =>
    let s := N - 1 - t
    if s ≤ k ∧ k < s + q.length then RS p q N t k - RS p q N t (s + q.length - 1) / lead q * co q (k - s) else RS p q N t k
def fct (p q : List Rat) (N t : Nat) : Rat := RS p q N t (N - 1 - t + q.length - 1) / lead q
theorem RS_succ (p q : List Rat) (N t k : Nat) : RS p q N (t + 1) k = if N - 1 - t ≤ k ∧ k < N - 1 - t + q.length then RS p q N t k - fct p q N t * co q (k - (N - 1 - t)) else RS p q N t k := rfl

def QL (p q : List Rat) (N t : Nat) : List Rat := (List.range N).map fun i => if N - t ≤ i then fct p q N (N - 1 - i) else 0
def RL (p q : List Rat) (N t : Nat) : List Rat := (List.range p.length).map fun k => RS p q N t k

theorem co_range_map (f : Nat → Rat) (n i : Nat) : co ((List.range n).map f) i = if i < n then f i else 0 := by
  unfold co
  by_cases h : i < n
  · simp [List.getD_eq_getElem?_getD, h]
  · simp [List.getD_eq_getElem?_getD, h]

section
variable {p q : List Rat} {N : Nat} (hN : N + q.length = p.length + 1) (hq : q ≠ []) (hl : lead q ≠ 0)
include hN hq hl

theorem RS_top : ∀ (t k : Nat), t ≤ N → p.length - t ≤ k → RS p q N t k = 0
  | 0, k, _, hk => co_ge (by omega)
  | t + 1, k, ht, hk => by
    have hql := pos_len hq
    rw [RS_succ]
    by_cases h : k = p.length - (t + 1)
    · rw [if_pos (by omega)]
      have e : k - (N - 1 - t) = q.length - 1 := by omega
      rw [e, ← lead_eq]
      unfold fct
      have e2 : N - 1 - t + q.length - 1 = k := by omega
      rw [e2]; grind
    · have h0 := RS_top t k (by omega) (by omega)
      rw [if_neg (by omega)]; exact h0

theorem div_step (t : Nat) (ht : t < N) : mk (QL p q N (t + 1)) * mk q + mk (RL p q N (t + 1)) = mk (QL p q N t) * mk q + mk (RL p q N t) := by
  have hql := pos_len hq
  have hQ : mk (QL p q N (t + 1)) = mk (QL p q N t) + P.cst (fct p q N t) * X (N - 1 - t) := by
    apply P.ext'
    intro i
    rw [P.c_add, mk_c, mk_c, cst_c]
    unfold QL
    rw [co_range_map, co_range_map]
    have hX : (X (N - 1 - t)).c i = if i = N - 1 - t then 1 else 0 := by
      have := X_mul 1 (N - 1 - t) i
      have e1 : X (N - 1 - t) * 1 = X (N - 1 - t) := by grind
      rw [e1] at this
      rw [this]
      have hone : ∀ j, (1 : P).c j = delta j := fun j => by unfold P.c; rw [P.one_val, co_one]
      by_cases h1 : i = N - 1 - t
      · rw [if_pos (by omega), if_pos h1, hone, show i - (N - 1 - t) = 0 by omega]; rfl
      · rw [if_neg h1]
        by_cases h2 : N - 1 - t ≤ i
        · rw [if_pos h2, hone]
          obtain ⟨d, hd⟩ : ∃ d, i - (N - 1 - t) = d + 1 := ⟨i - (N - 1 - t) - 1, by omega⟩
          rw [hd]; rfl
        · rw [if_neg h2]
    rw [hX]
    by_cases h1 : i = N - 1 - t
    · rw [if_pos h1, if_pos (by omega), if_pos (by omega), if_pos (by omega), if_neg (by omega), show N - 1 - i = t by omega]; grind
    · rw [if_neg h1]
      by_cases h2 : i < N
      · rw [if_pos h2, if_pos h2]
        by_cases h3 : N - t ≤ i
        · rw [if_pos (by omega), if_pos h3]; grind
        · rw [if_neg (by omega), if_neg h3]; grind
      · rw [if_neg h2, if_neg h2]; grind
  have hR : mk (RL p q N t) = mk (RL p q N (t + 1)) + P.cst (fct p q N t) * (X (N - 1 - t) * mk q) := by
    apply P.ext'
    intro k
    rw [P.c_add, mk_c, mk_c, cst_c, X_mul, mk_c]
    unfold RL
    rw [co_range_map, co_range_map, RS_succ]
    by_cases hk : k < p.length
    · rw [if_pos hk, if_pos hk]
      by_cases h1 : N - 1 - t ≤ k
      · rw [if_pos h1]
        by_cases h2 : k < N - 1 - t + q.length
        · rw [if_pos ⟨h1, h2⟩]; grind
        · rw [if_neg (by omega), co_ge (show q.length ≤ k - (N - 1 - t) by omega)]; grind
      · rw [if_neg h1, if_neg (by omega)]; grind
    · rw [if_neg hk, if_neg hk]
      by_cases h1 : N - 1 - t ≤ k
      · rw [if_pos h1, co_ge (show q.length ≤ k - (N - 1 - t) by omega)]; grind
      · rw [if_neg h1]; grind
  rw [hQ, hR]; grind

theorem div_all : ∀ t, t ≤ N → mk (QL p q N t) * mk q + mk (RL p q N t) = mk p
  | 0, _ => by
    have h1 : mk (QL p q N 0) = 0 := by
      apply P.ext'
      intro i
      rw [mk_c]
      unfold QL
      rw [co_range_map]
      have : (0 : P).c i = 0 := by unfold P.c; rw [P.zero_val, co_nil]
      rw [this]
      by_cases h : i < N
      · rw [if_pos h, if_neg (by omega)]
      · rw [if_neg h]
    have h2 : mk (RL p q N 0) = mk p := by
      apply P.ext'
      intro i
      rw [mk_c, mk_c]
      unfold RL
      rw [co_range_map]
      by_cases h : i < p.length
      · rw [if_pos h]; rfl
      · rw [if_neg h, co_ge (by omega)]
    rw [h1, h2]; grind
  | t + 1, ht => by
    rw [div_step hN hq hl t (by omega)]
    exact div_all t (by omega)

/-- **the last turn has the quotient and the rest** -/
theorem div_done (hp : Tr p) (htq : Tr q) : divMod p q = (trim (QL p q N N), trim (RL p q N N)) := by
  have hql := pos_len hq
  have h := div_all hN hq hl N (Nat.le_refl N)
  have hlen : (mk (RL p q N N)).len < (mk q).len := by
    have h1 : (mk q).len = q.length := by show (trim q).length = _; rw [htq]
    rw [h1]
    suffices h2 : (mk (RL p q N N)).len ≤ q.length - 1 by omega
    refine len_le (mk (RL p q N N)).2 fun i hi => ?_
    show (mk (RL p q N N)).c i = 0
    rw [mk_c]
    unfold RL
    rw [co_range_map]
    by_cases h2 : i < p.length
    · rw [if_pos h2]; exact RS_top hN hq hl N i (Nat.le_refl N) (by omega)
    · rw [if_neg h2]
  have := divMod_eq h.symm hlen
  rw [mk_tr hp, mk_tr htq] at this
  exact this
end

/-- p shorter than q -/
theorem div_short {p q : List Rat} (hp : Tr p) (hq : Tr q) (h : p.length < q.length) : divMod p q = ([], p) := by
  have := divMod_eq (p := mk p) (q := mk q) (s := 0) (r := mk p) (by grind) (by show (trim p).length < (trim q).length; rw [hp, hq]; exact h)
  rw [mk_tr hp, mk_tr hq, P.zero_val] at this
  exact this

/-! sizes -/
/-- made whole by some number, all within so many bits -/
def HtP (l : List Rat) (a : Nat) : Prop := ∃ D : Nat, 0 < D ∧ D ≤ 2 ^ a ∧ HtL l D a

theorem HtP.mono {l : List Rat} {a b : Nat} (h : HtP l a) (hb : a ≤ b) : HtP l b := by
  obtain ⟨D, h1, h2, h3⟩ := h
  exact ⟨D, h1, Nat.le_trans h2 (Nat.pow_le_pow_right (by omega) hb), h3.mono hb⟩
theorem HtP.num {l : List Rat} {a : Nat} (h : HtP l a) : ∀ c ∈ l, c.num.natAbs ≤ 2 ^ a ∧ c.den ≤ 2 ^ a := by
  obtain ⟨D, h1, h2, h3⟩ := h
  exact htL_num h3 h1 h2 (Nat.le_refl a)
theorem htP_iff {l : List Rat} {a : Nat} : HtP l a ↔ Ht (mk l) a := by
  constructor
  · rintro ⟨D, h1, h2, h3⟩
    refine HtD.ht (D := D) (m := a) (htD_iff.mpr fun i => ?_) h1 h2 (Nat.le_refl a)
    rw [mk_c]; exact h3 i
  · rintro ⟨D, h1, h2, z, h3, h4⟩
    refine ⟨D, h1, h2, fun i => ⟨coZ z i, ?_, h4 i⟩⟩
    rw [← h3 i, cst_c, mk_c]

/-- turn by turn -/
theorem RS_ht {p q : List Rat} {N D E a b : Nat} (hD : 0 < D) (hE : 0 < E) (hp : HtL p D a) (hq : HtL q E b) (hl : lead q ≠ 0) (hDa : D ≤ 2 ^ a) : ∀ t, ∃ Dt : Nat, 0 < Dt ∧ Dt ≤ 2 ^ (a + t * (b + 1)) ∧
    ∀ k, ∃ y : Int, (Dt : Rat) * RS p q N t k = (y : Rat) ∧ B y (a + t * (b + 1))
  | 0 => ⟨D, hD, by rw [Nat.zero_mul]; exact hDa, fun k => by rw [Nat.zero_mul]; exact hp k⟩
  | t + 1 => by
    obtain ⟨Dt, h1, h2, h3⟩ := RS_ht hD hE hp hq hl hDa (N := N) t
    obtain ⟨l, hle, hlb⟩ := hq (q.length - 1)
    rw [← lead_eq] at hle
    have hl0 : l ≠ 0 := by
      intro h0
      rw [h0] at hle
      have := natCast_ne hE
      rcases Rat.mul_eq_zero.mp hle with h | h
      · exact this h
      · exact hl h
    have hla : 0 < l.natAbs := by omega
    have hab : a + (t + 1) * (b + 1) = (a + t * (b + 1)) + b + 1 := by rw [Nat.succ_mul]; omega
    refine ⟨Dt * l.natAbs, Nat.mul_pos h1 hla, ?_, fun k => ?_⟩
    · have := Nat.mul_le_mul h2 hlb
      rw [← Nat.pow_add] at this
      exact Nat.le_trans this (Nat.pow_le_pow_right (by omega) (by omega))
    · have hsg : ((l.natAbs : Nat) : Rat) = ((l.sign * l : Int) : Rat) := by
        have : ((l.natAbs : Nat) : Int) = l.sign * l := sign_abs l
        rw [← this]; rfl
      have hsb : ∀ {z : Int} {m : Nat}, B z m → B (l.sign * z) m := by
        intro z m hz
        unfold B at *
        rw [Int.natAbs_mul]
        have : l.sign.natAbs = 1 := by rw [Int.natAbs_sign]; simp [hl0]
        rw [this, Nat.one_mul]; exact hz
      rw [RS_succ]
      obtain ⟨y, e, by'⟩ := h3 k
      by_cases h : N - 1 - t ≤ k ∧ k < N - 1 - t + q.length
      · rw [if_pos h]
        obtain ⟨y2, e2, b2⟩ := h3 (N - 1 - t + q.length - 1)
        obtain ⟨y3, e3, b3⟩ := hq (k - (N - 1 - t))
        refine ⟨l.sign * (y * l - y2 * y3), ?_, ?_⟩
        · rw [Rat.intCast_mul, Rat.intCast_sub, Rat.intCast_mul, Rat.intCast_mul, ← e, ← e2, ← e3, ← hle, Rat.natCast_mul, hsg, Rat.intCast_mul, ← hle]
          unfold fct
          have hEne := natCast_ne hE
          grind
        · have hb1 := (by'.mul hlb).sub (b2.mul b3)
          rw [hab]
          exact hsb hb1
      · rw [if_neg h]
        refine ⟨l.sign * (y * l), ?_, ?_⟩
        · rw [Rat.intCast_mul, Rat.intCast_mul, ← e, Rat.natCast_mul, hsg, Rat.intCast_mul]; grind
        · rw [hab]
          exact (hsb (by'.mul hlb)).mono (by omega)

theorem fct_ht {p q : List Rat} {N D E a b : Nat} (hD : 0 < D) (hE : 0 < E) (hp : HtL p D a) (hq : HtL q E b) (hl : lead q ≠ 0) (hDa : D ≤ 2 ^ a) (hEb : E ≤ 2 ^ b) (t : Nat) :
    ∀ j, ((fct p q N t * co q j).num.natAbs ≤ 2 ^ (a + (t + 1) * (b + 1)) ∧ (fct p q N t * co q j).den ≤ 2 ^ (a + (t + 1) * (b + 1))) ∧ (fct p q N t).num.natAbs ≤ 2 ^ (a + (t + 1) * (b + 1)) ∧ (fct p q N t).den ≤ 2 ^ (a + (t + 1) * (b + 1)) := by
  intro j
  obtain ⟨Dt, h1, h2, h3⟩ := RS_ht hD hE hp hq hl hDa (N := N) t
  obtain ⟨l, hle, hlb⟩ := hq (q.length - 1)
  rw [← lead_eq] at hle
  have hl0 : l ≠ 0 := by
    intro h0
    rw [h0] at hle
    have := natCast_ne hE
    rcases Rat.mul_eq_zero.mp hle with h | h
    · exact this h
    · exact hl h
  have hla : 0 < l.natAbs := by omega
  have hab : a + (t + 1) * (b + 1) = (a + t * (b + 1)) + b + 1 := by rw [Nat.succ_mul]; omega
  have hDl : Dt * l.natAbs ≤ 2 ^ (a + (t + 1) * (b + 1)) := by
    have := Nat.mul_le_mul h2 hlb
    rw [← Nat.pow_add] at this
    exact Nat.le_trans this (Nat.pow_le_pow_right (by omega) (by omega))
  have hsg : ((l.natAbs : Nat) : Rat) = ((l.sign * l : Int) : Rat) := by
    have : ((l.natAbs : Nat) : Int) = l.sign * l := sign_abs l
    rw [← this]; rfl
  have hsb : ∀ {z : Int} {m : Nat}, B z m → B (l.sign * z) m := by
    intro z m hz
    unfold B at *
    rw [Int.natAbs_mul]
    have : l.sign.natAbs = 1 := by rw [Int.natAbs_sign]; simp [hl0]
    rw [this, Nat.one_mul]; exact hz
  obtain ⟨y2, e2, b2⟩ := h3 (N - 1 - t + q.length - 1)
  obtain ⟨y3, e3, b3⟩ := hq j
  have hEne := natCast_ne hE
  refine ⟨num_den_le (y := l.sign * (y2 * y3)) (Nat.mul_pos h1 hla) hDl ?_ ?_, num_den_le (y := l.sign * (y2 * (E : Int))) (Nat.mul_pos h1 hla) hDl ?_ ?_⟩
  · rw [Rat.intCast_mul, Rat.intCast_mul, ← e2, ← e3, Rat.natCast_mul, hsg, Rat.intCast_mul, ← hle]
    unfold fct; grind
  · rw [hab]; exact (hsb (b2.mul b3)).mono (by omega)
  · rw [Rat.intCast_mul, Rat.intCast_mul, ← e2, Rat.natCast_mul, hsg, Rat.intCast_mul, ← hle]
    have : ((E : Int) : Rat) = (E : Rat) := rfl
    rw [this]
    unfold fct; grind
  · have hE2 : B (E : Int) b := by unfold B; rw [Int.natAbs_natCast]; exact hEb
    rw [hab]; exact (hsb (b2.mul hE2)).mono (by omega)
end Ma
/-! Euclid's way with sizes. -/
namespace Ma
open AlOne

theorem monic_map {p : List Rat} (h : Tr p) : (p.map fun c => c / lead p) = monic p := by
  by_cases hp : p = []
  · subst hp; rfl
  · have hl := lead_ne h hp
    have e : (p.map fun c => c / lead p) = p.map fun c => 1 / lead p * c := List.map_congr_left fun c _ => by grind
    unfold monic scale
    rw [← e]
    symm
    refine tr_of_lead fun _ => ?_
    have : lead (p.map fun c => c / lead p) = lead p / lead p := by
      rw [lead_eq, List.length_map]
      unfold co
      rw [List.getD_eq_getElem?_getD, List.getElem?_map]
      have hlen := pos_len hp
      have h2 : p[p.length - 1]? = some (lead p) := by
        rw [List.getElem?_eq_getElem (by omega)]
        have := lead_eq p
        unfold co at this
        rw [List.getD_eq_getElem?_getD, List.getElem?_eq_getElem (by omega)] at this
        rw [this]; rfl
      rw [h2]; rfl
    rw [this]
    have : lead p / lead p = 1 := by grind
    rw [this]; decide

theorem monic_len {p : List Rat} (h : Tr p) : (monic p).length = p.length := by
  rw [← monic_map h, List.length_map]
theorem tr_monic (p : List Rat) : Tr (monic p) := tr_scale _ _

theorem htP_monic {r : List Rat} {a : Nat} (ht : Tr r) (hne : r ≠ []) (h : HtP r a) : HtP (monic r) a := by
  obtain ⟨D, h1, h2, h3⟩ := h
  have hl := lead_ne ht hne
  obtain ⟨l, hle, hlb⟩ := h3 (r.length - 1)
  rw [← lead_eq] at hle
  have hD := natCast_ne h1
  have hl0 : l ≠ 0 := by
    intro h0
    rw [h0] at hle
    rcases Rat.mul_eq_zero.mp hle with h | h
    · exact hD h
    · exact hl h
  refine ⟨l.natAbs, by omega, hlb, fun i => ?_⟩
  obtain ⟨y, e, by'⟩ := h3 i
  refine ⟨l.sign * y, ?_, ?_⟩
  · have hm : co (monic r) i = 1 / lead r * co r i := co_scale _ _ _
    have hsg : ((l.natAbs : Nat) : Rat) = ((l.sign * l : Int) : Rat) := by rw [← sign_abs l]; rfl
    rw [hm, hsg, Rat.intCast_mul, Rat.intCast_mul, ← hle, ← e]
    grind
  · unfold B at *
    rw [Int.natAbs_mul]
    have : l.sign.natAbs = 1 := by rw [Int.natAbs_sign]; simp [hl0]
    rw [this, Nat.one_mul]; exact by'

theorem monic_one {r : List Rat} (ht : Tr r) (h : r.length = 1) : monic r = [1] := by
  rw [← monic_map ht]
  match r, h, ht with
  | [c], _, ht =>
    have hc := tr_one_ne ht
    show [c / lead [c]] = [1]
    have : lead [c] = c := rfl
    rw [this]
    have : c / c = 1 := by grind
    rw [this]

theorem htP_one (a : Nat) : HtP [1] a := by
  refine ⟨1, by omega, Nat.one_le_two_pow, fun i => ?_⟩
  have h1 : (((1 : Nat) : Rat)) = 1 := rfl
  cases i with
  | zero => exact ⟨1, by rw [h1]; simp [co], by unfold B; exact Nat.one_le_two_pow⟩
  | succ i => exact ⟨0, by simp [co], B.zero _⟩
theorem htP_nil (a : Nat) : HtP [] a := ⟨1, by omega, Nat.one_le_two_pow, fun i => ⟨0, by simp [co], B.zero _⟩⟩

theorem rest_spec {p q : List Rat} (hp : Tr p) (hq : Tr q) (hne : q ≠ []) : ∃ s : P, mk p = s * mk q + mk (rest p q) ∧ Tr (rest p q) ∧ (rest p q).length < q.length := by
  have h0 : mk q ≠ 0 := by
    intro e
    have := P.eq_zero_iff.mp e
    rw [mk_tr hq] at this
    exact hne this
  obtain ⟨s, r, e1, e2, e3⟩ := divMod_spec (mk p) (mk q) h0
  rw [mk_tr hp, mk_tr hq] at e1
  have er : rest p q = r.1 := by unfold rest; rw [e1]
  have em : mk (rest p q) = r := Subtype.ext (by show trim (rest p q) = _; rw [er]; exact r.2)
  refine ⟨s, by rw [em]; exact e2, by rw [er]; exact r.2, ?_⟩
  have : (mk q).len = q.length := by show (trim q).length = _; rw [hq]
  rw [er]
  show r.len < _
  omega

theorem rest_ht {p q : List Rat} {a b : Nat} (hp : Tr p) (hq : Tr q) (hne : q ≠ []) (hpa : HtP p a) (hqb : HtP q b) : HtP (rest p q) (a + (p.length + 1 - q.length) * (b + 1)) := by
  by_cases hlt : p.length < q.length
  · have : rest p q = p := by unfold rest; rw [div_short hp hq hlt]
    rw [this]
    exact hpa.mono (by omega)
  · have hl := lead_ne hq hne
    have hql := pos_len hne
    obtain ⟨D, hD, hDa, hpl⟩ := hpa
    obtain ⟨E, hE, hEb, hqll⟩ := hqb
    obtain ⟨Dt, h1, h2, h3⟩ := RS_ht hD hE hpl hqll hl hDa (N := p.length + 1 - q.length) (p.length + 1 - q.length)
    have hd := div_done (N := p.length + 1 - q.length) (by omega) hne hl hp hq
    have er : rest p q = trim (RL p q (p.length + 1 - q.length) (p.length + 1 - q.length)) := by unfold rest; rw [hd]
    refine ⟨Dt, h1, h2, fun k => ?_⟩
    rw [er, co_trim]
    unfold RL
    rw [co_range_map]
    split
    · exact h3 k
    · exact ⟨0, by simp, B.zero _⟩

/-- sizes all the way down: lengths m, k; bits a, b -/
def okE (lim : Nat) : Nat → Nat → Nat → Nat → Nat → Bool
  | 0, _, _, _, _ => false
  | f + 1, m, k, a, b => if k = 0 then decide (a ≤ lim) else
    decide (a + (m + 1 - k) * (b + 1) ≤ lim) && decide (b ≤ lim) && (List.range k).all fun k' => okE lim f k k' b (if k' ≤ 1 then 0 else a + (m + 1 - k) * (b + 1))

/-- one turn keeps what goes into both -/
theorem euc_turn {p q : List Rat} (hp : Tr p) (hq : Tr q) (hne : q ≠ []) (h : P) :
    (P.Dvd h (mk q) ∧ P.Dvd h (mk (monic (rest p q)))) ↔ (P.Dvd h (mk p) ∧ P.Dvd h (mk q)) := by
  obtain ⟨s, e, hr, _⟩ := rest_spec hp hq hne
  have hm : ∀ r : List Rat, Tr r → (P.Dvd h (mk (monic r)) ↔ P.Dvd h (mk r)) := by
    intro r hr
    by_cases h0 : r = []
    · subst h0; exact Iff.rfl
    · have n0 : mk r ≠ 0 := by
        intro e
        have := P.eq_zero_iff.mp e
        rw [mk_tr hr] at this
        exact h0 this
      have ms := mon_spec n0
      have em : mk (monic r) = mon (mk r) := by
        apply Subtype.ext
        show trim (monic r) = monic (trim r)
        rw [hr]; exact tr_monic r
      rw [em]
      exact ⟨fun hd => hd.trans ms.2.2.1, fun hd => hd.trans ms.2.2.2⟩
  rw [hm _ hr]
  constructor
  · rintro ⟨h1, h2⟩
    refine ⟨?_, h1⟩
    rw [e]; exact (h1.mul s).add h2
  · rintro ⟨h1, h2⟩
    refine ⟨h2, ?_⟩
    have : mk (rest p q) = mk p - s * mk q := by grind
    rw [this]; exact h1.sub (h2.mul s)

/-- at the end: what they have in common -/
theorem euc_done {p q L : List Rat} (hL : Tr L) (hp : Tr p) (hq : Tr q) (h : ∀ h : P, (P.Dvd h (mk L) ∧ P.Dvd h (mk [])) ↔ (P.Dvd h (mk p) ∧ P.Dvd h (mk q))) : monic L = common p q := by
  have hz : mk [] = 0 := P.eq_zero_iff.mpr rfl
  have hcom : com (mk p) (mk q) = mon (mk L) := by
    refine com_eq ?_
    by_cases h0 : mk L = 0
    · have hd := (h 0).mp ⟨by rw [h0]; exact P.Dvd.refl 0, by rw [hz]; exact P.Dvd.refl 0⟩
      rw [h0, mon_zero, hd.1.of_zero, hd.2.of_zero]
      exact ⟨P.Dvd.refl 0, P.Dvd.refl 0, fun h h1 _ => h1, Or.inl rfl⟩
    · have ms := mon_spec h0
      have hd := (h (mon (mk L))).mp ⟨ms.2.2.1, by rw [hz]; exact P.Dvd.zero _⟩
      exact ⟨hd.1, hd.2, fun g h1 h2 => ((h g).mpr ⟨h1, h2⟩).1.trans ms.2.2.2, Or.inr ms.1⟩
  have := congrArg Subtype.val hcom
  have e1 : (com (mk p) (mk q)).1 = common p q := by
    show common (trim p) (trim q) = _
    rw [hp, hq]
  have e2 : (mon (mk L)).1 = monic L := by
    show monic (trim L) = _
    rw [hL]
  rw [e1, e2] at this
  exact this.symm
end Ma
/-! A determinant column by column, with sizes. -/
namespace Ma
open AlOne

/-- the terms along the first row -/
def terms (n : Nat) (M : Mat) : List P := ((M.headD []).zip (List.range (n + 1))).map fun x => term (x.1 * detP n (M.tail.map fun r => r.eraseIdx x.2)) x.2
def tot (n : Nat) (M : Mat) (j : Nat) : P := ((terms n M).take j).foldl (· + ·) 0
theorem tot_all (n : Nat) (M : Mat) {j : Nat} (h : (M.headD []).length ≤ j) : tot n M j = detP (n + 1) M := by
  unfold tot
  rw [List.take_of_length_le]
  · rfl
  · unfold terms
    generalize M.headD [] = r at *
    simp; omega
theorem terms_get {n : Nat} {M : Mat} {j : Nat} {e : P} (hl : (M.headD []).length = n + 1) (h : (M.headD [])[j]? = some e) :
    (terms n M)[j]? = some (term (e * detP n (M.tail.map fun r => r.eraseIdx j)) j) := by
  have hj := (List.getElem?_eq_some_iff.mp h).1
  unfold terms
  rw [List.getElem?_map]
  generalize M.headD [] = r at *
  have : (r.zip (List.range (n + 1)))[j]? = some (e, j) := by
    rw [List.getElem?_eq_getElem (by simp; omega), List.getElem_zip]
    obtain ⟨h1, h2⟩ := List.getElem?_eq_some_iff.mp h
    simp [h2]
  rw [this]; rfl
theorem tot_succ {n : Nat} {M : Mat} {j : Nat} {e : P} (hl : (M.headD []).length = n + 1) (h : (M.headD [])[j]? = some e) :
    tot n M (j + 1) = tot n M j + term (e * detP n (M.tail.map fun r => r.eraseIdx j)) j := by
  unfold tot
  rw [List.take_add_one, terms_get hl h, List.foldl_append]; rfl
theorem term_zero (j : Nat) (d : P) : term (0 * d) j = 0 := by
  unfold term
  split <;> grind

structure GoodMat (n : Nat) (M : Mat) : Prop where
  rows : M.length = n
  wid : ∀ r ∈ M, r.length = n
  good : ∀ r ∈ M, ∃ D, 0 < D ∧ D ≤ 2 ^ 80 ∧ ∀ p ∈ r, p.len ≤ 2 ∧ HtD p D 100

theorem GoodMat.erase {n : Nat} {M : Mat} (h : GoodMat (n + 1) M) {j : Nat} (hj : j < n + 1) : GoodMat n (M.tail.map fun r => r.eraseIdx j) := by
  refine ⟨by have := h.rows; simp; omega, ?_, ?_⟩
  · intro r hr
    rw [List.mem_map] at hr
    obtain ⟨t, ht, e⟩ := hr
    have := h.wid t (List.mem_of_mem_tail ht)
    rw [← e, List.length_eraseIdx_of_lt (by omega)]; omega
  · intro r hr
    rw [List.mem_map] at hr
    obtain ⟨t, ht, e⟩ := hr
    obtain ⟨D, h1, h2, h3⟩ := h.good t (List.mem_of_mem_tail ht)
    exact ⟨D, h1, h2, fun p hp => h3 p (by rw [← e] at hp; exact (List.eraseIdx_sublist _ _).subset hp)⟩

theorem HtD.htL {p : P} {D m : Nat} (h : HtD p D m) : HtL p.1 D m := htD_iff.mp h
theorem Ht.htP {p : P} {a : Nat} (h : Ht p a) : HtP p.1 a := by
  rw [htP_iff]
  have : mk p.1 = p := Subtype.ext p.2
  rw [this]; exact h

/-- sizes of one determinant of at most 4 rows: what makes it whole, its bits -/
theorem GoodMat.det {n : Nat} {M : Mat} (h : GoodMat n M) (hn : n ≤ 4) : ∃ E, 0 < E ∧ E ≤ 2 ^ 320 ∧ HtD (detP n M) E 418 ∧ (detP n M).len ≤ 5 := by
  obtain ⟨Ds, h1, h2, h3, h4⟩ := rows_exist M h.good
  refine ⟨prod Ds, prod_pos h3, ?_, (htD_det n M Ds h.rows h1).mono ?_, (det_ht hn h.rows h.good).2⟩
  · refine Nat.le_trans (prod_le h4) (Nat.pow_le_pow_right (by omega) ?_)
    rw [h2, h.rows]
    have : 80 * n ≤ 80 * 4 := Nat.mul_le_mul_left _ hn
    omega
  · have := bt_mono (m0 := 100) hn
    have e : bt 100 4 = 418 := by decide
    omega

theorem len_tot {n : Nat} {M : Mat} (h : GoodMat (n + 1) M) (hn : n + 1 ≤ 4) (j : Nat) : (tot n M j).len ≤ 6 := by
  unfold tot
  refine len_foldl _ _ (by rw [P.len_zero]; omega) ?_
  intro p hp
  have hp := List.mem_of_mem_take hp
  unfold terms at hp
  rw [List.mem_map] at hp
  obtain ⟨x, hx, e⟩ := hp
  rw [← e, len_term]
  have hx1 : x.1 ∈ M.headD [] := (List.of_mem_zip (a := x.1) (b := x.2) hx).1
  have hx2 : x.2 < n + 1 := by have := (List.of_mem_zip (a := x.1) (b := x.2) hx).2; simpa using this
  have hM : M.headD [] ∈ M := by
    cases M with
    | nil => simp at hx1
    | cons r M => simp
  obtain ⟨D, h1, h2, h3⟩ := h.good _ hM
  obtain ⟨E, _, _, _, hl⟩ := (h.erase hx2).det (by omega)
  have := len_mul_le (h3 x.1 hx1).1 (b := 4) hl
  omega

/-- a sum along the first row -/
theorem ht_tot {n : Nat} {M : Mat} (h : GoodMat (n + 1) M) (hn : n + 1 ≤ 4) (j : Nat) : Ht (tot n M j) 530 := by
  cases M with
  | nil => have := h.rows; simp at this
  | cons r M =>
    obtain ⟨D, h1, h2, h3⟩ := h.good r (by simp)
    obtain ⟨Ds, g1, g2, g3, g4⟩ := rows_exist M (fun s hs => h.good s (by simp [hs]))
    have hM : M.length = n := by have := h.rows; simpa using this
    have hp := prod_le g4
    have hb : D * prod Ds ≤ 2 ^ 530 := by
      have := Nat.mul_le_mul h2 hp
      rw [← Nat.pow_add] at this
      refine Nat.le_trans this (Nat.pow_le_pow_right (by omega) ?_)
      rw [g2, hM]
      have : 80 * n ≤ 80 * 3 := Nat.mul_le_mul_left _ (by omega)
      omega
    have hbt : bt 100 n ≤ 312 := by
      have := bt_mono (m0 := 100) (show n ≤ 3 by omega)
      have e : bt 100 3 = 312 := by decide
      omega
    have := htD_foldl (D := D * prod Ds) (t := 100 + bt 100 n + 2) ((terms n (r :: M)).take j) 0 0 (HtD.zero _ _) (by
      intro p hp
      have hp := List.mem_of_mem_take hp
      unfold terms at hp
      rw [List.mem_map] at hp
      obtain ⟨x, hx, e⟩ := hp
      rw [← e]
      have hx1 : x.1 ∈ r := (List.of_mem_zip (a := x.1) (b := x.2) hx).1
      have ih := htD_det n (M.map fun r => r.eraseIdx x.2) Ds (by simpa using hM) (rowsD_erase x.2 M Ds g1)
      exact htD_term ((h3 x.1 hx1).2.mul ih (h3 x.1 hx1).1 h1) _)
    have hlen : ((terms n (r :: M)).take j).length ≤ 4 := by
      unfold terms
      simp only [List.length_take, List.length_map, List.length_zip, List.length_range, List.headD_cons]
      omega
    exact this.ht (Nat.mul_pos h1 (prod_pos g3)) hb (by omega)

theorem neg_map {p : List Rat} (h : Tr p) : (p.map fun c => -c) = neg p := by
  unfold neg scale
  have e : (p.map fun c => -c) = p.map fun c => -1 * c := List.map_congr_left fun c _ => by grind
  rw [← e]
  symm
  refine tr_of_lead fun hne => ?_
  have hp : p ≠ [] := by intro e; rw [e] at hne; exact hne rfl
  have hl := lead_ne h hp
  have : lead (p.map fun c => -c) = - lead p := by
    rw [lead_eq, lead_eq, List.length_map]
    unfold co
    rw [List.getD_eq_getElem?_getD, List.getElem?_map, List.getD_eq_getElem?_getD]
    cases p[p.length - 1]? with
    | none => show (0 : Rat) = -0; grind
    | some c => rfl
  rw [this]; grind
end Ma
/-! Sizes on the way to the forms. -/
namespace Ma
open AlOne

theorem okE_minors : ∀ m, m ≤ 4 → ∀ k, k ≤ 4 → okE 4400 10 m k (if m = 4 then 312 else 492) 312 = true := by decide +kernel
theorem okE_char : ∀ k, k ≤ 5 → okE 4400 10 0 k 0 418 = true := by decide +kernel

/-- determinants of at most 3 rows -/
theorem det_ht3 {R : Mat} {k : Nat} (hk : k ≤ 3) (h : GoodMat k R) : Ht (detP k R) 312 ∧ (detP k R).len ≤ 4 := by
  obtain ⟨Ds, h1, h2, h3, h4⟩ := rows_exist R h.good
  have hd := htD_det k R Ds h.rows h1
  refine ⟨hd.ht (prod_pos h3) ?_ ?_, ?_⟩
  · refine Nat.le_trans (prod_le h4) (Nat.pow_le_pow_right (by omega) ?_)
    rw [h2, h.rows]
    have : 80 * k ≤ 80 * 3 := Nat.mul_le_mul_left _ hk
    omega
  · have := bt_mono (m0 := 100) hk
    have e : bt 100 3 = 312 := by decide
    omega
  · have hw : ∀ (R : Mat), (∀ r ∈ R, ∃ D, 0 < D ∧ D ≤ 2 ^ 80 ∧ ∀ p ∈ r, p.len ≤ 2 ∧ HtD p D 100) → Rws R (List.replicate R.length 1) := by
      intro R
      induction R with
      | nil => intro _; exact trivial
      | cons r R ih =>
        intro h
        obtain ⟨D, _, _, h5⟩ := h r (by simp)
        exact ⟨fun p hp => (h5 p hp).1, ih fun s hs => h s (by simp [hs])⟩
    have := len_det k R _ h.rows (hw R h.good)
    rw [h.rows] at this
    simp at this
    omega

theorem good_lessP {n : Nat} {t : Al09.Table} (h : Sq n t) (hn : n ≤ 4) (hs : SmallT t) : GoodMat n (lessP t) :=
  ⟨(lessP_isX h).rows, (lessP_isX h).wid, lessP_good h hn hs⟩

theorem minor_ht3 {n : Nat} {a : Al09.Table} (h : Sq n a) (hn : n ≤ 4) (hs : SmallT a) {k : Nat} (hk : k ≤ 3) {p : P} (hp : p ∈ minorsP a k) : Ht p 312 ∧ p.len ≤ 4 := by
  obtain ⟨R, S, h1, h2, h3, h4, e⟩ := mem_minors.mp hp
  rw [e]
  refine det_ht3 hk ⟨by unfold pick; simpa using h2, ?_, pick_good fun r hr => lessP_good h hn hs r (h1.subset hr)⟩
  intro r hr
  unfold pick at hr
  rw [List.mem_map] at hr
  obtain ⟨t, _, e2⟩ := hr
  rw [← e2, List.length_map, h4]

/-- what some have in common, sharper -/
theorem comL_ht2 {b : Nat} {l : List P} (h : ∀ p ∈ l, Ht p b ∧ p.len ≤ 5) : Ht (comL l 0) (b + 180) ∧ ∀ m, (∀ p ∈ l, p.len ≤ m) → (comL l 0).len ≤ m ∧ ((comL l 0).len = m → Ht (comL l 0) b) := by
  have c := comL_spec l 0
  by_cases h0 : comL l 0 = 0
  · rw [h0]; exact ⟨ht_zero _, fun m _ => ⟨by rw [P.len_zero]; omega, fun _ => ht_zero _⟩⟩
  · have hex : ∃ p ∈ l, p ≠ 0 := by
      apply Classical.byContradiction
      intro hn
      apply h0
      have : P.Dvd 0 (comL l 0) := c.all 0 (P.Dvd.zero 0) (fun p hp => by
        have : p = 0 := Classical.byContradiction fun hp0 => hn ⟨p, hp, hp0⟩
        rw [this]; exact P.Dvd.zero 0)
      exact this.of_zero
    obtain ⟨p, hp, hp0⟩ := hex
    have hl : (comL l 0).ld = 1 := by
      rcases c.top with h1 | h1
      · rcases h1 with h1 | h1
        · exact absurd h1 h0
        · exact h1
      · rw [h1] at hp; simp at hp
    have hpp := h p hp
    refine ⟨ht_dvd2 hp0 hpp.2 hpp.1 hl (c.each p hp), fun m hm => ⟨Nat.le_trans (P.Dvd.len (c.each p hp) hp0) (hm p hp), fun he => ?_⟩⟩
    -- of full length: it's the first one by its top number
    obtain ⟨f, hf⟩ := c.each p hp
    have hf0 : f ≠ 0 := by intro e; apply hp0; rw [hf, e]; grind
    have hlen := P.len_mul h0 hf0
    rw [← hf] at hlen
    have := P.len_pos hf0
    have := hm p hp
    have hc := P.len_pos h0
    have hf1 : f.len = 1 := by omega
    have hmon : comL l 0 = mon p := by
      have ms := mon_spec hp0
      refine P.dvd_antisymm ((c.each p hp).trans ms.2.2.2) ?_ (by rw [hl, ms.1])
      have hcst := P.eq_cst hf1
      have hfl := P.ld_ne hf0
      refine ms.2.2.1.trans ⟨P.cst (1 / f.ld), ?_⟩
      rw [hf, hcst]
      have e1 : P.cst f.ld * P.cst (1 / f.ld) = 1 := by
        rw [cst_mul]
        have : f.ld * (1 / f.ld) = ((1 : Nat) : Rat) := by
          have h1 : (((1 : Nat) : Rat)) = 1 := rfl
          rw [h1]; grind
        rw [this]; rfl
      have e2 : (P.cst f.ld).ld = f.ld := P.ld_cst _
      rw [e2]
      grind
    rw [hmon]
    have hP := Ht.htP hpp.1
    have := htP_monic p.2 (fun e => hp0 (P.eq_zero_iff.mpr e)) hP
    rw [htP_iff] at this
    have e3 : mk (monic p.1) = mon p := Subtype.ext (tr_monic p.1)
    rw [e3] at this
    exact this

theorem dP_ht {n : Nat} {a : Al09.Table} (h : Sq n a) (hn : n ≤ 4) (hs : SmallT a) {k : Nat} (hk : k ≤ n) : Ht (dP a k) 598 ∧ (dP a k).len ≤ 5 := by
  have hc : charP a ∈ minorsP a n := by rw [minors_last h]; simp
  have hcc := minor_ht h hn hs hc
  exact ⟨ht_dvd2 (charP_ne h) hcc.2 hcc.1 (dP_ld h hk) (dP_char h hk), Nat.le_trans (P.Dvd.len (dP_char h hk) (charP_ne h)) hcc.2⟩
theorem fP_ht {n : Nat} {a : Al09.Table} (h : Sq n a) (hn : n ≤ 4) (hs : SmallT a) {k : Nat} (hk : k < n) : Ht (fP a k) 598 ∧ (fP a k).len ≤ 5 := by
  have f := fP_all h hk
  have hc : charP a ∈ minorsP a n := by rw [minors_last h]; simp
  have hcc := minor_ht h hn hs hc
  exact ⟨ht_dvd2 (charP_ne h) hcc.2 hcc.1 f.2.1 f.2.2.2, Nat.le_trans (P.Dvd.len f.2.2.2 (charP_ne h)) hcc.2⟩
end Ma
namespace Ma
/-! tables by their places -/
/-- what stands at a place; 0 beyond -/
def E (M : List (List Rat)) (i j : Nat) : Rat := (M[i]?.getD []).getD j 0
theorem E_of {M : List (List Rat)} {i j : Nat} {r : List Rat} {c : Rat} (h1 : M[i]? = some r) (h2 : r[j]? = some c) : E M i j = c := by
  unfold E
  rw [h1]
  show r.getD j 0 = c
  rw [List.getD_eq_getElem?_getD, h2]; rfl
theorem Sq.row {n : Nat} {M : List (List Rat)} (h : Sq n M) {i : Nat} (hi : i < n) : ∃ r, M[i]? = some r ∧ r.length = n := by
  have hi' : i < M.length := by rw [h.rows]; exact hi
  exact ⟨M[i], List.getElem?_eq_getElem hi', h.wid _ (List.getElem_mem hi')⟩
theorem Sq.ext {n : Nat} {M M' : List (List Rat)} (h : Sq n M) (h' : Sq n M') (e : ∀ i j, i < n → j < n → E M i j = E M' i j) : M = M' := by
  apply List.ext_getElem?
  intro i
  by_cases hi : i < n
  · obtain ⟨r, hr, lr⟩ := h.row hi
    obtain ⟨r', hr', lr'⟩ := h'.row hi
    rw [hr, hr']
    congr 1
    apply List.ext_getElem
    · rw [lr, lr']
    · intro j h1 h2
      have := e i j hi (by omega)
      rw [E_of hr (List.getElem?_eq_getElem h1), E_of hr' (List.getElem?_eq_getElem h2)] at this
      exact this
  · rw [List.getElem?_eq_none (by rw [h.rows]; omega), List.getElem?_eq_none (by rw [h'.rows]; omega)]
/-- a place set -/
def setE (M : List (List Rat)) (i j : Nat) (c : Rat) : List (List Rat) := M.set i ((M.getD i []).set j c)
theorem setE_sq {n : Nat} {M : List (List Rat)} (h : Sq n M) {i j : Nat} (hi : i < n) (c : Rat) : Sq n (setE M i j c) := by
  refine ⟨by unfold setE; rw [List.length_set]; exact h.rows, fun r hr => ?_⟩
  unfold setE at hr
  rcases List.mem_or_eq_of_mem_set hr with h1 | h1
  · exact h.wid r h1
  · obtain ⟨r0, hr0, l0⟩ := h.row hi
    rw [h1, List.length_set, List.getD_eq_getElem?_getD, hr0]; exact l0
theorem E_setE {n : Nat} {M : List (List Rat)} (h : Sq n M) {i j : Nat} (hi : i < n) (hj : j < n) (c : Rat) (i' j' : Nat) : E (setE M i j c) i' j' = if i' = i ∧ j' = j then c else E M i' j' := by
  obtain ⟨r0, hr0, l0⟩ := h.row hi
  unfold E setE
  rw [List.getElem?_set]
  by_cases h1 : i = i'
  · subst h1
    rw [if_pos rfl, if_pos (by rw [h.rows]; exact hi)]
    show ((M.getD i []).set j c).getD j' 0 = _
    rw [List.getD_eq_getElem?_getD (l := M), hr0]
    show (r0.set j c).getD j' 0 = if i = i ∧ j' = j then c else r0.getD j' 0
    rw [List.getD_eq_getElem?_getD, List.getElem?_set]
    by_cases h2 : j = j'
    · subst h2
      rw [if_pos rfl, if_pos (by omega), if_pos ⟨rfl, rfl⟩]; rfl
    · rw [if_neg h2, if_neg (fun x => h2 x.2.symm), List.getD_eq_getElem?_getD]
  · rw [if_neg h1, if_neg (fun x => h1 x.1.symm)]
theorem E_map_range (n m : Nat) (f : Nat → Nat → Rat) (i j : Nat) : E ((List.range n).map fun i => (List.range m).map fun j => f i j) i j = if i < n ∧ j < m then f i j else 0 := by
  unfold E
  rw [List.getElem?_map]
  by_cases hi : i < n
  · rw [List.getElem?_range hi]
    show ((List.range m).map fun j => f i j).getD j 0 = _
    rw [List.getD_eq_getElem?_getD, List.getElem?_map]
    by_cases hj : j < m
    · rw [List.getElem?_range hj, if_pos ⟨hi, hj⟩]; rfl
    · rw [List.getElem?_eq_none (by simpa using hj), if_neg (fun x => hj x.2)]; rfl
  · rw [List.getElem?_eq_none (by simpa using hi), if_neg (fun x => hi x.1)]
    simp
theorem sq_map_range (n : Nat) (f : Nat → Nat → Rat) : Sq n ((List.range n).map fun i => (List.range n).map fun j => f i j) := by
  refine ⟨by simp, fun r hr => ?_⟩
  rw [List.mem_map] at hr
  obtain ⟨i, _, rfl⟩ := hr
  simp
theorem sq_comp (p : List Rat) : Sq (AlOne.degree p) (Al09.companion p) := sq_map_range _ _
theorem E_comp (p : List Rat) (i j : Nat) : E (Al09.companion p) i j = if i < AlOne.degree p ∧ j < AlOne.degree p then (if j + 1 = AlOne.degree p then -(p.getD i 0) else if i = j + 1 then 1 else 0) else 0 := E_map_range _ _ _ _ _
theorem E_nil (i j : Nat) : E [] i j = 0 := by unfold E; simp
theorem getD_app_rep (r : List Rat) (m j : Nat) : (r ++ List.replicate m 0).getD j 0 = r.getD j 0 := by
  rw [List.getD_eq_getElem?_getD, List.getD_eq_getElem?_getD]
  by_cases h : j < r.length
  · rw [List.getElem?_append_left h]
  · rw [List.getElem?_append_right (by omega), List.getElem?_eq_none (l := r) (by omega), List.getElem?_replicate]
    split <;> rfl
theorem getD_rep_app (r : List Rat) (m j : Nat) : (List.replicate m 0 ++ r).getD j 0 = if j < m then 0 else r.getD (j - m) 0 := by
  rw [List.getD_eq_getElem?_getD]
  by_cases h : j < m
  · rw [List.getElem?_append_left (by simpa using h), if_pos h, List.getElem?_replicate, if_pos h]; rfl
  · rw [List.getElem?_append_right (by simpa using h), if_neg h, List.length_replicate, List.getD_eq_getElem?_getD]
theorem E_diag_cons {d : Nat} {A : List (List Rat)} (hA : Sq d A) (l : List (List (List Rat))) (i j : Nat) :
    E (Al09.diagonal (A :: l)) i j = if i < d then (if j < d then E A i j else 0) else (if j < d then 0 else E (Al09.diagonal l) (i - d) (j - d)) := by
  show E ((A.map fun r => r ++ List.replicate (Al09.diagonal l).length 0) ++ (Al09.diagonal l).map fun r => List.replicate A.length 0 ++ r) i j = _
  generalize Al09.diagonal l = b
  unfold E
  by_cases hi : i < d
  · obtain ⟨r, hr, lr⟩ := hA.row hi
    rw [if_pos hi, List.getElem?_append_left (by rw [List.length_map, hA.rows]; exact hi), List.getElem?_map, hr]
    show (r ++ List.replicate b.length 0).getD j 0 = _
    rw [getD_app_rep]
    show r.getD j 0 = if j < d then r.getD j 0 else 0
    by_cases hj : j < d
    · rw [if_pos hj]
    · rw [if_neg hj, List.getD_eq_getElem?_getD, List.getElem?_eq_none (by omega)]; rfl
  · rw [if_neg hi, List.getElem?_append_right (by rw [List.length_map, hA.rows]; omega), List.length_map, hA.rows, List.getElem?_map]
    cases hb : b[i - d]? with
    | none =>
      show ([] : List Rat).getD j 0 = if j < d then 0 else ([] : List Rat).getD (j - d) 0
      simp
    | some r =>
      show (List.replicate d 0 ++ r).getD j 0 = if j < d then 0 else r.getD (j - d) 0
      exact getD_rep_app r d j
/-- the degrees together -/
def degs (fs : List (List Rat)) : Nat := (fs.map fun f => AlOne.degree f).sum
theorem degs_snoc (fs : List (List Rat)) (f : List Rat) : degs (fs ++ [f]) = degs fs + AlOne.degree f := by
  unfold degs
  rw [List.map_append, List.sum_append]; simp
theorem degs_cons (f : List Rat) (fs : List (List Rat)) : degs (f :: fs) = AlOne.degree f + degs fs := by
  unfold degs
  rw [List.map_cons, List.sum_cons]
abbrev dia (fs : List (List Rat)) : List (List Rat) := Al09.diagonal (fs.map Al09.companion)
theorem E_dia_snoc : ∀ (fs : List (List Rat)) (f : List Rat) (i j : Nat),
    E (dia (fs ++ [f])) i j = if i < degs fs then (if j < degs fs then E (dia fs) i j else 0) else (if j < degs fs then 0 else E (Al09.companion f) (i - degs fs) (j - degs fs))
  | [], f, i, j => by
    show E (Al09.diagonal [Al09.companion f]) i j = if i < 0 then _ else if j < 0 then _ else E (Al09.companion f) (i - 0) (j - 0)
    rw [if_neg (by omega), if_neg (by omega), E_diag_cons (sq_comp f)]
    show (if i < _ then (if j < _ then _ else 0) else if j < _ then 0 else E [] _ _) = _
    rw [E_nil, Nat.sub_zero, Nat.sub_zero, E_comp]
    by_cases h1 : i < AlOne.degree f <;> by_cases h2 : j < AlOne.degree f <;> simp [h1, h2]
  | g :: fs, f, i, j => by
    show E (Al09.diagonal (Al09.companion g :: (fs ++ [f]).map Al09.companion)) i j = _
    rw [E_diag_cons (sq_comp g), degs_cons]
    show _ = if _ then (if _ then E (Al09.diagonal (Al09.companion g :: fs.map Al09.companion)) i j else 0) else _
    rw [E_diag_cons (sq_comp g)]
    have ih := E_dia_snoc fs f (i - AlOne.degree g) (j - AlOne.degree g)
    have e1 : (i - AlOne.degree g < degs fs) = (i < AlOne.degree g + degs fs) ∨ i < AlOne.degree g := by
      by_cases h : i < AlOne.degree g
      · exact .inr h
      · exact .inl (propext (by omega))
    have e2 : (j - AlOne.degree g < degs fs) = (j < AlOne.degree g + degs fs) ∨ j < AlOne.degree g := by
      by_cases h : j < AlOne.degree g
      · exact .inr h
      · exact .inl (propext (by omega))
    by_cases h1 : i < AlOne.degree g
    · have h3 : i < AlOne.degree g + degs fs := by omega
      simp only [h1, h3, if_true]
      by_cases h2 : j < AlOne.degree g
      · have h4 : j < AlOne.degree g + degs fs := by omega
        simp only [h2, h4, if_true]
      · simp only [h2, if_false]; split <;> rfl
    · by_cases h2 : j < AlOne.degree g
      · have h4 : j < AlOne.degree g + degs fs := by omega
        simp only [h1, h2, h4, if_true, if_false]; split <;> rfl
      · have e1' := e1.resolve_right h1
        have e2' := e2.resolve_right h2
        simp only [h1, h2, if_false]
        show E (dia (fs ++ [f])) _ _ = _
        rw [ih]
        simp only [e1', e2', Nat.sub_sub]
theorem sq_dia : ∀ fs : List (List Rat), Sq (degs fs) (dia fs)
  | [] => ⟨rfl, fun r hr => by cases hr⟩
  | f :: fs => by
    have ih := sq_dia fs
    have hf := sq_comp f
    rw [degs_cons]
    show Sq _ ((Al09.companion f).map (fun r => r ++ List.replicate (dia fs).length 0) ++ (dia fs).map fun r => List.replicate (Al09.companion f).length 0 ++ r)
    refine ⟨by rw [List.length_append, List.length_map, List.length_map, hf.rows, ih.rows], fun r hr => ?_⟩
    rw [List.mem_append, List.mem_map, List.mem_map] at hr
    rcases hr with ⟨r', h', rfl⟩ | ⟨r', h', rfl⟩
    · rw [List.length_append, hf.wid _ h', List.length_replicate, ih.rows]
    · rw [List.length_append, List.length_replicate, hf.rows, ih.wid _ h']
/-- one more form's table put in -/
theorem E_dia_put (fs : List (List Rat)) (f : List Rat) (hd : 0 < AlOne.degree f) (i j : Nat) :
    E (dia (fs ++ [f])) i j = if degs fs ≤ i ∧ i < degs fs + AlOne.degree f ∧ j + 1 = degs fs + AlOne.degree f then -(f.getD (i - degs fs) 0)
      else if degs fs ≤ j ∧ j + 1 < degs fs + AlOne.degree f ∧ i = j + 1 then 1 else E (dia fs) i j := by
  rw [E_dia_snoc, E_comp]
  have hz : ∀ i j, (degs fs ≤ i ∨ degs fs ≤ j) → E (dia fs) i j = 0 := by
    intro i j h
    have hs := sq_dia fs
    unfold E
    by_cases hi : i < degs fs
    · obtain ⟨r, hr, lr⟩ := hs.row hi
      rw [hr]
      show r.getD j 0 = 0
      rw [List.getD_eq_getElem?_getD, List.getElem?_eq_none (by omega)]; rfl
    · rw [List.getElem?_eq_none (by rw [hs.rows]; omega)]; simp
  by_cases hi : i < degs fs
  · have n1 : ¬ (degs fs ≤ i ∧ i < degs fs + AlOne.degree f ∧ j + 1 = degs fs + AlOne.degree f) := by omega
    have n2 : ¬ (degs fs ≤ j ∧ j + 1 < degs fs + AlOne.degree f ∧ i = j + 1) := by omega
    rw [if_pos hi, if_neg n1, if_neg n2]
    by_cases hj : j < degs fs
    · rw [if_pos hj]
    · rw [if_neg hj, hz i j (.inr (by omega))]
  · rw [if_neg hi]
    by_cases hj : j < degs fs
    · have n1 : ¬ (degs fs ≤ i ∧ i < degs fs + AlOne.degree f ∧ j + 1 = degs fs + AlOne.degree f) := by omega
      have n2 : ¬ (degs fs ≤ j ∧ j + 1 < degs fs + AlOne.degree f ∧ i = j + 1) := by omega
      rw [if_pos hj, if_neg n1, if_neg n2, hz i j (.inl (by omega))]
    · rw [if_neg hj, hz i j (.inl (by omega))]
      by_cases h1 : i - degs fs < AlOne.degree f ∧ j - degs fs < AlOne.degree f
      · rw [if_pos h1]
        by_cases h2 : j - degs fs + 1 = AlOne.degree f
        · rw [if_pos h2, if_pos (show degs fs ≤ i ∧ i < degs fs + AlOne.degree f ∧ j + 1 = degs fs + AlOne.degree f by omega)]
        · rw [if_neg h2, if_neg (show ¬ (degs fs ≤ i ∧ i < degs fs + AlOne.degree f ∧ j + 1 = degs fs + AlOne.degree f) by omega)]
          by_cases h3 : i - degs fs = j - degs fs + 1
          · rw [if_pos h3, if_pos (show degs fs ≤ j ∧ j + 1 < degs fs + AlOne.degree f ∧ i = j + 1 by omega)]
          · rw [if_neg h3, if_neg (show ¬ (degs fs ≤ j ∧ j + 1 < degs fs + AlOne.degree f ∧ i = j + 1) by omega)]
      · rw [if_neg h1, if_neg (show ¬ (degs fs ≤ i ∧ i < degs fs + AlOne.degree f ∧ j + 1 = degs fs + AlOne.degree f) by omega), if_neg (show ¬ (degs fs ≤ j ∧ j + 1 < degs fs + AlOne.degree f ∧ i = j + 1) by omega)]
end Ma
/-! A polynomial of a table: sums by places, and how large the numbers are. -/
namespace Ma
/-- a sum -/
def sm : Nat → (Nat → Rat) → Rat
  | 0, _ => 0
  | n + 1, f => sm n f + f n
theorem sm_congr {f g : Nat → Rat} : ∀ {n : Nat}, (∀ k, k < n → f k = g k) → sm n f = sm n g
  | 0, _ => rfl
  | n + 1, h => by rw [sm, sm, sm_congr fun k hk => h k (by omega), h n (by omega)]
theorem sm_add (f g : Nat → Rat) : ∀ n : Nat, sm n (fun k => f k + g k) = sm n f + sm n g
  | 0 => by simp only [sm]; grind
  | n + 1 => by rw [sm, sm, sm, sm_add f g n]; grind
theorem sm_mul (c : Rat) (f : Nat → Rat) : ∀ n : Nat, sm n (fun k => c * f k) = c * sm n f
  | 0 => by simp only [sm]; grind
  | n + 1 => by rw [sm, sm, sm_mul c f n]; grind
theorem sm_mulr (c : Rat) (f : Nat → Rat) : ∀ n : Nat, sm n (fun k => f k * c) = sm n f * c
  | 0 => by simp only [sm]; grind
  | n + 1 => by rw [sm, sm, sm_mulr c f n]; grind
theorem sm_zero : ∀ n : Nat, sm n (fun _ => 0) = 0
  | 0 => rfl
  | n + 1 => by rw [sm, sm_zero n]; grind
theorem sm_comm (f : Nat → Nat → Rat) (m : Nat) : ∀ n : Nat, sm n (fun i => sm m (fun j => f i j)) = sm m (fun j => sm n (fun i => f i j))
  | 0 => by
    show 0 = sm m (fun _ => 0)
    rw [sm_zero]
  | n + 1 => by
    rw [sm, sm_comm f m n, ← sm_add]
    exact sm_congr fun j _ => rfl
theorem sm_one {n i : Nat} (hi : i < n) (f : Nat → Rat) : sm n (fun k => if i = k then f k else 0) = f i := by
  induction n with
  | zero => omega
  | succ n ih =>
    rw [sm]
    by_cases h : i = n
    · subst h
      rw [if_pos rfl]
      have : sm i (fun k => if i = k then f k else 0) = 0 := by
        refine (sm_congr fun k hk => ?_).trans (sm_zero i)
        exact if_neg (by omega)
      rw [this]; grind
    · rw [if_neg h, ih (by omega)]; grind
theorem dot_fold : ∀ (l : List (Rat × Rat)) (s : Rat), (l.map fun (x : Rat × Rat) => x.1 * x.2).foldl (fun s y => s + y) s = l.foldl (fun s x => s + x.1 * x.2) s
  | [], s => rfl
  | x :: l, s => by rw [List.map_cons, List.foldl_cons, List.foldl_cons, dot_fold l]
/-- the first so many terms -/
theorem dot_take (r c : List Rat) : ∀ t : Nat, t ≤ r.length → t ≤ c.length → Al09.dot (r.take t) (c.take t) = sm t (fun k => r.getD k 0 * c.getD k 0)
  | 0, _, _ => rfl
  | t + 1, h1, h2 => by
    have ih := dot_take r c t (by omega) (by omega)
    rw [sm, ← ih]
    have e1 : r.take (t + 1) = r.take t ++ [r.getD t 0] := by
      rw [List.take_add_one, List.getD_eq_getElem?_getD, List.getElem?_eq_getElem (show t < r.length by omega)]; rfl
    have e2 : c.take (t + 1) = c.take t ++ [c.getD t 0] := by
      rw [List.take_add_one, List.getD_eq_getElem?_getD, List.getElem?_eq_getElem (show t < c.length by omega)]; rfl
    unfold Al09.dot
    rw [e1, e2, List.zip_append (by rw [List.length_take, List.length_take]; omega), List.map_append, List.foldl_append]
    rfl
theorem dot_sm {n : Nat} {r c : List Rat} (hr : r.length = n) (hc : c.length = n) : Al09.dot r c = sm n (fun k => r.getD k 0 * c.getD k 0) := by
  have := dot_take r c n (by omega) (by omega)
  rw [List.take_of_length_le (by omega), List.take_of_length_le (by omega)] at this
  exact this
theorem col_getD {n : Nat} {b : List (List Rat)} (j k : Nat) : (Al09.column j b).getD k 0 = E b k j := by
  unfold Al09.column E
  rw [List.getD_eq_getElem?_getD, List.getElem?_map]
  cases h : b[k]? with
  | none => simp
  | some r => rfl
theorem col_len (j : Nat) (b : List (List Rat)) : (Al09.column j b).length = b.length := by unfold Al09.column; simp
theorem sq_times {n : Nat} {a b : List (List Rat)} (ha : Sq n a) (hb : Sq n b) : Sq n (Al09.times a b) := by
  refine ⟨by unfold Al09.times; rw [List.length_map]; exact ha.rows, fun r hr => ?_⟩
  unfold Al09.times at hr
  rw [List.mem_map] at hr
  obtain ⟨x, _, rfl⟩ := hr
  rw [List.length_map, List.length_range]; exact hb.rows
theorem E_times {n : Nat} {a b : List (List Rat)} (ha : Sq n a) (hb : Sq n b) {i j : Nat} (hi : i < n) (hj : j < n) : E (Al09.times a b) i j = sm n (fun k => E a i k * E b k j) := by
  obtain ⟨r, hr, lr⟩ := ha.row hi
  have h1 : (Al09.times a b)[i]? = some ((List.range b.length).map fun j => Al09.dot r (Al09.column j b)) := by
    unfold Al09.times
    rw [List.getElem?_map, hr]; rfl
  have h2 : ((List.range b.length).map fun j => Al09.dot r (Al09.column j b))[j]? = some (Al09.dot r (Al09.column j b)) := by
    rw [List.getElem?_map, List.getElem?_range (by rw [hb.rows]; exact hj)]; rfl
  rw [E_of h1 h2, dot_sm lr (by rw [col_len, hb.rows])]
  refine sm_congr fun k _ => ?_
  rw [col_getD (n := n)]
  congr 1
  unfold E
  rw [hr]; rfl
theorem sq_unit (n : Nat) : Sq n (Al09.unit n) := sq_map_range n _
theorem E_unit {n i j : Nat} (hi : i < n) (hj : j < n) : E (Al09.unit n) i j = if i = j then 1 else 0 := by
  have := E_map_range n n (fun i j => if i = j then (1 : Rat) else 0) i j
  rw [if_pos ⟨hi, hj⟩] at this
  exact this
theorem sq_stretch {n : Nat} (c : Rat) {a : List (List Rat)} (ha : Sq n a) : Sq n (Al09.stretch c a) := by
  refine ⟨by unfold Al09.stretch; rw [List.length_map]; exact ha.rows, fun r hr => ?_⟩
  unfold Al09.stretch at hr
  rw [List.mem_map] at hr
  obtain ⟨x, hx, rfl⟩ := hr
  rw [List.length_map]; exact ha.wid x hx
theorem E_stretch (c : Rat) (a : List (List Rat)) (i j : Nat) : E (Al09.stretch c a) i j = c * E a i j := by
  unfold E Al09.stretch
  rw [List.getElem?_map]
  cases h : a[i]? with
  | none => simp
  | some r =>
    show (r.map fun x => c * x).getD j 0 = c * r.getD j 0
    rw [List.getD_eq_getElem?_getD, List.getElem?_map, List.getD_eq_getElem?_getD]
    cases r[j]? with
    | none => show (0 : Rat) = c * 0; grind
    | some x => rfl
theorem sq_plus {n : Nat} {a b : List (List Rat)} (ha : Sq n a) (hb : Sq n b) : Sq n (Al09.plus a b) := by
  refine ⟨by unfold Al09.plus; rw [List.length_map, List.length_zip, ha.rows, hb.rows, Nat.min_self], fun r hr => ?_⟩
  unfold Al09.plus at hr
  rw [List.mem_map] at hr
  obtain ⟨x, hx, rfl⟩ := hr
  have h1 := List.of_mem_zip hx
  rw [List.length_map, List.length_zip, ha.wid _ h1.1, hb.wid _ h1.2, Nat.min_self]
theorem E_plus {n : Nat} {a b : List (List Rat)} (ha : Sq n a) (hb : Sq n b) {i j : Nat} (hi : i < n) (hj : j < n) : E (Al09.plus a b) i j = E a i j + E b i j := by
  obtain ⟨r, hr, lr⟩ := ha.row hi
  obtain ⟨s, hs, ls⟩ := hb.row hi
  have hjr : j < r.length := by omega
  have hjs : j < s.length := by omega
  have h1 : (Al09.plus a b)[i]? = some ((r.zip s).map fun (y : Rat × Rat) => y.1 + y.2) := by
    unfold Al09.plus
    rw [List.getElem?_map, List.getElem?_zip_eq_some (z := (r, s)) |>.mpr ⟨hr, hs⟩]; rfl
  have h2 : ((r.zip s).map fun (y : Rat × Rat) => y.1 + y.2)[j]? = some (r[j] + s[j]) := by
    rw [List.getElem?_map, List.getElem?_zip_eq_some (z := (r[j], s[j])) |>.mpr ⟨List.getElem?_eq_getElem hjr, List.getElem?_eq_getElem hjs⟩]; rfl
  rw [E_of h1 h2, E_of hr (List.getElem?_eq_getElem hjr), E_of hs (List.getElem?_eq_getElem hjs)]
theorem sq_zero (n : Nat) : Sq n (Al09.zero n) := by
  refine ⟨by unfold Al09.zero; simp, fun r hr => ?_⟩
  unfold Al09.zero at hr
  rw [List.mem_map] at hr
  obtain ⟨x, _, rfl⟩ := hr
  simp
theorem E_zero (n i j : Nat) : E (Al09.zero n) i j = 0 := by
  unfold E Al09.zero
  rw [List.getElem?_map]
  cases h : (List.range n)[i]? with
  | none => simp
  | some x =>
    show (List.replicate n (0 : Rat)).getD j 0 = 0
    rw [List.getD_eq_getElem?_getD, List.getElem?_replicate]
    split <;> rfl
theorem sq_valueAt {n : Nat} {a : List (List Rat)} (ha : Sq n a) : ∀ p : List Rat, Sq n (Al09.valueAt a p)
  | [] => by
    show Sq n (Al09.zero a.length)
    rw [ha.rows]; exact sq_zero n
  | c :: p => by
    show Sq n (Al09.plus (Al09.stretch c (Al09.unit a.length)) (Al09.times a (Al09.valueAt a p)))
    rw [ha.rows]
    exact sq_plus (sq_stretch c (sq_unit n)) (sq_times ha (sq_valueAt ha p))
theorem E_valueAt {n : Nat} {a : List (List Rat)} (ha : Sq n a) (c : Rat) (p : List Rat) {i j : Nat} (hi : i < n) (hj : j < n) :
    E (Al09.valueAt a (c :: p)) i j = (if i = j then c else 0) + sm n (fun k => E a i k * E (Al09.valueAt a p) k j) := by
  show E (Al09.plus (Al09.stretch c (Al09.unit a.length)) (Al09.times a (Al09.valueAt a p))) i j = _
  rw [ha.rows, E_plus (sq_stretch c (sq_unit n)) (sq_times ha (sq_valueAt ha p)) hi hj, E_stretch, E_unit hi hj, E_times ha (sq_valueAt ha p) hi hj]
  congr 1
  split <;> grind
/-- a polynomial of a table goes either side of it -/
theorem value_comm {n : Nat} {a : List (List Rat)} (ha : Sq n a) : ∀ (p : List Rat) (i j : Nat), i < n → j < n →
    sm n (fun k => E a i k * E (Al09.valueAt a p) k j) = sm n (fun k => E (Al09.valueAt a p) i k * E a k j)
  | [], i, j, hi, hj => by
    have : ∀ i j, E (Al09.valueAt a []) i j = 0 := fun i j => E_zero _ i j
    simp only [this]
    exact sm_congr fun k _ => by grind
  | c :: p, i, j, hi, hj => by
    have h1 : sm n (fun k => E a i k * E (Al09.valueAt a (c :: p)) k j) = c * E a i j + sm n (fun k => sm n (fun m => E a i k * (E a k m * E (Al09.valueAt a p) m j))) := by
      rw [← sm_one hj (fun k => c * E a i k), ← sm_add]
      refine sm_congr fun k hk => ?_
      rw [E_valueAt ha c p hk hj, sm_mul]
      by_cases h : j = k
      · rw [if_pos h.symm, if_pos h]; grind
      · rw [if_neg (fun e => h e.symm), if_neg h]; grind
    have h2 : sm n (fun k => E (Al09.valueAt a (c :: p)) i k * E a k j) = c * E a i j + sm n (fun k => sm n (fun m => E a i m * E (Al09.valueAt a p) m k * E a k j)) := by
      rw [← sm_one hi (fun k => c * E a k j), ← sm_add]
      refine sm_congr fun k hk => ?_
      rw [E_valueAt ha c p hi hk, sm_mulr]
      by_cases h : i = k
      · rw [if_pos h, if_pos h]; grind
      · rw [if_neg h, if_neg h]; grind
    rw [h1, h2]
    congr 1
    rw [sm_comm (fun k m => E a i m * E (Al09.valueAt a p) m k * E a k j)]
    refine sm_congr fun k hk => ?_
    rw [sm_mul]
    have ih := value_comm ha p k j hk hj
    rw [ih, ← sm_mul]
    exact sm_congr fun m _ => by grind
/-- the program's step -/
theorem E_valueR {n : Nat} {a : List (List Rat)} (ha : Sq n a) (c : Rat) (p : List Rat) {i j : Nat} (hi : i < n) (hj : j < n) :
    E (Al09.valueAt a (c :: p)) i j = E (Al09.times (Al09.valueAt a p) a) i j + (if i = j then c else 0) := by
  rw [E_valueAt ha c p hi hj, value_comm ha p i j hi hj, E_times (sq_valueAt ha p) ha hi hj]
  grind
/-! how large -/
/-- M times it is whole, and not above B -/
def Qb (M B : Nat) (x : Rat) : Prop := ∃ z : Int, x * (M : Rat) = (z : Rat) ∧ z.natAbs ≤ B
theorem Qb.zero (M B : Nat) : Qb M B 0 := ⟨0, by simp, Nat.zero_le _⟩
theorem Qb.mono {M B B' : Nat} {x : Rat} (h : Qb M B x) (hb : B ≤ B') : Qb M B' x := by
  obtain ⟨z, h1, h2⟩ := h
  exact ⟨z, h1, by omega⟩
theorem Qb.mul {M B M' B' : Nat} {x y : Rat} (h : Qb M B x) (h' : Qb M' B' y) : Qb (M * M') (B * B') (x * y) := by
  obtain ⟨z, h1, h2⟩ := h
  obtain ⟨w, h3, h4⟩ := h'
  refine ⟨z * w, ?_, by rw [Int.natAbs_mul]; exact Nat.mul_le_mul h2 h4⟩
  rw [Rat.natCast_mul, Rat.intCast_mul, ← h1, ← h3]; grind
theorem Qb.add {M B B' : Nat} {x y : Rat} (h : Qb M B x) (h' : Qb M B' y) : Qb M (B + B') (x + y) := by
  obtain ⟨z, h1, h2⟩ := h
  obtain ⟨w, h3, h4⟩ := h'
  refine ⟨z + w, ?_, by omega⟩
  rw [Rat.intCast_add, ← h1, ← h3]; grind
theorem Qb.scale {M B : Nat} {x : Rat} (h : Qb M B x) (k : Nat) : Qb (M * k) (B * k) x := by
  obtain ⟨z, h1, h2⟩ := h
  refine ⟨z * (k : Int), ?_, by rw [Int.natAbs_mul, Int.natAbs_natCast]; exact Nat.mul_le_mul_right _ h2⟩
  rw [Rat.natCast_mul, Rat.intCast_mul, ← h1, show ((k : Int) : Rat) = (k : Rat) from rfl]; grind
theorem Qb.sum {M B : Nat} {f : Nat → Rat} : ∀ {t : Nat}, (∀ k, k < t → Qb M B (f k)) → Qb M (t * B) (sm t f)
  | 0, _ => Qb.zero _ _
  | t + 1, h => by
    rw [Nat.succ_mul]
    exact (Qb.sum fun k hk => h k (by omega)).add (h t (by omega))
theorem mul_denQ (c : Rat) : c * (c.den : Rat) = (c.num : Rat) := by
  have hd : (c.den : Rat) ≠ 0 := by
    intro e
    exact c.den_nz (by exact_mod_cast e)
  have h : (c.num : Rat) / (c.den : Rat) = c := by
    have := Rat.num_divInt_den c
    rw [Rat.divInt_eq_div] at this
    exact this
  have h2 : (c.num : Rat) / (c.den : Rat) * (c.den : Rat) = (c.num : Rat) := Rat.div_mul_cancel hd
  rw [h] at h2
  exact h2
theorem Qb.parts {M B : Nat} {x : Rat} (hM : 0 < M) (h : Qb M B x) : x.num.natAbs ≤ B ∧ x.den ≤ M := by
  obtain ⟨z, h1, h2⟩ := h
  have hd : (x.den : Rat) ≠ 0 := by
    intro e
    exact x.den_nz (by exact_mod_cast e)
  have h3 : x.num * (M : Int) = z * (x.den : Int) := by
    have h4 : (x.num : Rat) = x * (x.den : Rat) := (mul_denQ x).symm
    have h5 : ((x.num * (M : Int) : Int) : Rat) = ((z * (x.den : Int) : Int) : Rat) := by
      rw [Rat.intCast_mul, Rat.intCast_mul, ← h1, h4, show (((M : Nat) : Int) : Rat) = (M : Rat) from rfl, show (((x.den : Nat) : Int) : Rat) = (x.den : Rat) from rfl]; grind
    exact Rat.intCast_inj.mp h5
  have h6 : x.num.natAbs * M = z.natAbs * x.den := by
    have := congrArg Int.natAbs h3
    rw [Int.natAbs_mul, Int.natAbs_mul, Int.natAbs_natCast, Int.natAbs_natCast] at this
    exact this
  have hdm : x.den ∣ M := by
    have h7 : x.den ∣ x.num.natAbs * M := ⟨z.natAbs, by rw [h6, Nat.mul_comm]⟩
    exact (Nat.Coprime.symm x.reduced).dvd_of_dvd_mul_left h7
  refine ⟨?_, Nat.le_of_dvd hM hdm⟩
  obtain ⟨q, hq⟩ := hdm
  have hdp : 0 < x.den := Nat.pos_of_ne_zero x.den_nz
  have hq0 : 0 < q := by
    rcases Nat.eq_zero_or_pos q with e | e
    · rw [e, Nat.mul_zero] at hq; omega
    · exact e
  have h8 : x.num.natAbs * q = z.natAbs := by
    rw [hq] at h6
    have : x.den * (x.num.natAbs * q) = x.den * z.natAbs := by
      rw [Nat.mul_comm x.den z.natAbs, ← h6, Nat.mul_left_comm]
    exact Nat.eq_of_mul_eq_mul_left hdp this
  have : x.num.natAbs ≤ x.num.natAbs * q := Nat.le_mul_of_pos_right _ hq0
  omega
/-- the denominators of a list, together -/
def dens (l : List Rat) : Nat := (l.map fun c => c.den).foldr (· * ·) 1
theorem dens_pos : ∀ l : List Rat, 0 < dens l
  | [] => by decide
  | c :: l => Nat.mul_pos (Nat.pos_of_ne_zero c.den_nz) (dens_pos l)
theorem dens_le {k : Nat} : ∀ {l : List Rat}, (∀ c ∈ l, c.den ≤ 2 ^ k) → dens l ≤ 2 ^ (k * l.length)
  | [], _ => by simp [dens]
  | c :: l, h => by
    have ih := dens_le (l := l) fun d hd => h d (List.mem_cons_of_mem _ hd)
    rw [List.length_cons, Nat.mul_succ, Nat.add_comm, Nat.pow_add]
    exact Nat.mul_le_mul (h c List.mem_cons_self) ih
theorem dens_dvd : ∀ {l : List Rat} {c : Rat}, c ∈ l → c.den ∣ dens l
  | d :: l, c, h => by
    rcases List.mem_cons.mp h with e | e
    · subst e; exact Nat.dvd_mul_right _ _
    · exact Nat.dvd_trans (dens_dvd e) (Nat.dvd_mul_left _ _)
theorem qb_den {c : Rat} {M B K : Nat} (hd : c.den ∣ M) (hn : c.num.natAbs ≤ B) (hM : M ≤ K) : Qb M (B * K) c := by
  obtain ⟨q, hq⟩ := hd
  refine ⟨c.num * (q : Int), ?_, ?_⟩
  · rw [hq, Rat.natCast_mul, Rat.intCast_mul, show ((q : Int) : Rat) = (q : Rat) from rfl]
    have := mul_denQ c
    rw [← this]; grind
  · rw [Int.natAbs_mul, Int.natAbs_natCast]
    have hdp : 0 < c.den := Nat.pos_of_ne_zero c.den_nz
    have : q ≤ M := by rw [hq]; exact Nat.le_mul_of_pos_left _ hdp
    exact Nat.mul_le_mul hn (by omega)
end Ma
/-! The least polynomial of a vector: one alone has what's asked. -/
namespace Ma
section
variable (n : Nat) (A : Nat → Nat → Rat) (v : Nat → Rat)
/-- the table times the vector, so many times -/
def wv : Nat → Nat → Rat
  | 0, i => v i
  | t + 1, i => sm n (fun k => A i k * wv t k)
/-- a polynomial of the table, times the vector; by its numbers, of powers below 6 -/
def ev (f : Nat → Rat) (i : Nat) : Rat := sm 6 (fun t => f t * wv n A v t i)
/-- the one that's asked -/
structure Min (m : Nat) (f : Nat → Rat) : Prop where
  top : f m = 1
  above : ∀ t, m < t → f t = 0
  zero : ∀ i, i < n → ev n A v f i = 0
  least : ∀ g : Nat → Rat, (∀ t, m ≤ t → g t = 0) → (∀ i, i < n → ev n A v g i = 0) → ∀ t, g t = 0
end
section
variable {n : Nat} {A : Nat → Nat → Rat} {v : Nat → Rat}
theorem ev_lin (a : Rat) (f g : Nat → Rat) (i : Nat) : ev n A v (fun t => f t - a * g t) i = ev n A v f i - a * ev n A v g i := by
  unfold ev
  have h1 : (fun t => (f t - a * g t) * wv n A v t i) = fun t => f t * wv n A v t i + (-a) * (g t * wv n A v t i) := by funext t; grind
  rw [h1, sm_add, sm_mul]; grind
theorem Min.eq {m m' : Nat} {f f' : Nat → Rat} (h : Min n A v m f) (h' : Min n A v m' f') : m = m' ∧ ∀ t, f t = f' t := by
  have key : ∀ {m m' : Nat} {f f' : Nat → Rat}, Min n A v m f → Min n A v m' f' → ¬ m < m' := by
    intro m m' f f' h h' hlt
    have := h'.least f (fun t ht => h.above t (by omega)) h.zero m
    rw [h.top] at this
    exact absurd this (by decide)
  have e : m = m' := by
    have := key h h'
    have := key h' h
    omega
  subst e
  refine ⟨rfl, fun t => ?_⟩
  have := h.least (fun t => f t - 1 * f' t) (fun t ht => ?_) (fun i hi => ?_) t
  · have : f t - 1 * f' t = 0 := this
    grind
  · by_cases e : t = m
    · subst e; show f t - 1 * f' t = 0; rw [h.top, h'.top]; grind
    · show f t - 1 * f' t = 0
      rw [h.above t (by omega), h'.above t (by omega)]; grind
  · rw [ev_lin, h.zero i hi, h'.zero i hi]; grind
end
/-- a line: a vector, the polynomial that makes it, its first place -/
structure Ln where
  L : Nat → Rat
  F : Nat → Rat
  k : Nat
section
variable (n : Nat) (A : Nat → Nat → Rat) (v : Nat → Rat)
structure LnOk (ls : List Ln) (j : Nat) (ln : Ln) : Prop where
  kn : ln.k < n
  ne : ln.L ln.k ≠ 0
  top : ln.F j = 1
  above : ∀ t, j < t → ln.F t = 0
  ev : ∀ c, c < n → ln.L c = ev n A v ln.F c
  low : ∀ b ln', b < j → ls[b]? = some ln' → ln.L ln'.k = 0
def GoodL (ls : List Ln) : Prop := ∀ j ln, ls[j]? = some ln → LnOk n A v ls j ln
end
section
variable {n : Nat} {A : Nat → Nat → Rat} {v : Nat → Rat}
/-- what is 0 at the places is 0 -/
theorem GoodL.indep {ls : List Ln} (h : GoodL n A v ls) : ∀ i, i ≤ ls.length → ∀ g : Nat → Rat, (∀ t, i ≤ t → g t = 0) → (∀ j ln, j < i → ls[j]? = some ln → ev n A v g ln.k = 0) → ∀ t, g t = 0
  | 0, _, g, hg, _, t => hg t (Nat.zero_le _)
  | i + 1, hi, g, hg, hz, t => by
    have hlt : i < ls.length := by omega
    have hln := List.getElem?_eq_getElem hlt
    generalize ls[i] = ln at hln
    have ok := h i ln hln
    have ih := GoodL.indep h i (by omega) (fun t => g t - g i * ln.F t) (fun t ht => by
      by_cases e : t = i
      · subst e; rw [ok.top]; grind
      · rw [hg t (by omega), ok.above t (by omega)]; grind) (fun j ln' hj hln' => by
      have hk' := (h j ln' hln').kn
      rw [ev_lin, hz j ln' (by omega) hln', ← ok.ev _ hk', ok.low j ln' hj hln']; grind)
    have hgi : g i = 0 := by
      have h1 := hz i ln (by omega) hln
      have h2 : ev n A v (fun t => g t - g i * ln.F t) ln.k = 0 := by
        have : (fun t => g t - g i * ln.F t) = fun _ => 0 := funext ih
        rw [this]
        unfold ev
        rw [show (fun t => (0 : Rat) * wv n A v t ln.k) = fun _ => 0 by funext t; grind, sm_zero]
      rw [ev_lin, h1, ← ok.ev _ ok.kn] at h2
      have h3 : g i * ln.L ln.k = 0 := by grind
      rcases Rat.mul_eq_zero.mp h3 with e | e
      · exact e
      · exact absurd e ok.ne
    have := ih t
    have : g t - g i * ln.F t = 0 := this
    rw [hgi] at this
    grind
theorem GoodL.min {ls : List Ln} (h : GoodL n A v ls) {f : Nat → Rat} (h1 : f ls.length = 1) (h2 : ∀ t, ls.length < t → f t = 0) (h3 : ∀ i, i < n → ev n A v f i = 0) : Min n A v ls.length f :=
  ⟨h1, h2, h3, fun g hg hz => h.indep ls.length (Nat.le_refl _) g hg fun j ln _ hln => hz _ (h j ln hln).kn⟩
/-- the places are different, so there aren't more lines than places -/
theorem nodup_lt : ∀ (m : Nat) (l : List Nat), l.Nodup → (∀ x ∈ l, x < m) → l.length ≤ m
  | 0, l, _, h => by
    cases l with
    | nil => simp
    | cons a l => have := h a List.mem_cons_self; omega
  | m + 1, l, hn, h => by
    have h1 := nodup_lt m (l.erase m) (hn.erase m) (fun x hx => by
      have h2 := h x (List.mem_of_mem_erase hx)
      have h3 : x ≠ m := fun e => by
        subst e
        exact absurd hx (hn.not_mem_erase)
      omega)
    by_cases hm : m ∈ l
    · rw [List.length_erase_of_mem hm] at h1; omega
    · rw [List.erase_of_not_mem hm] at h1; omega
theorem GoodL.len {ls : List Ln} (h : GoodL n A v ls) : ls.length ≤ n := by
  have h1 := nodup_lt n (ls.map fun ln => ln.k) ?_ ?_
  · rw [List.length_map] at h1; exact h1
  · rw [List.nodup_iff_pairwise_ne, List.pairwise_map, List.pairwise_iff_getElem]
    intro i j hi hj hij e
    have ok := h j ls[j] (List.getElem?_eq_getElem hj)
    have h2 := ok.low i ls[i] hij (List.getElem?_eq_getElem hi)
    rw [e] at h2
    exact ok.ne h2
  · intro x hx
    rw [List.mem_map] at hx
    obtain ⟨ln, hln, rfl⟩ := hx
    obtain ⟨j, hj, e⟩ := List.getElem_of_mem hln
    exact (h j ln (by rw [List.getElem?_eq_getElem hj, e])).kn
theorem GoodL.snoc {ls : List Ln} (h : GoodL n A v ls) {ln : Ln} (ok : LnOk n A v ls ls.length ln) : GoodL n A v (ls ++ [ln]) := by
  intro j l hj
  by_cases hlt : j < ls.length
  · rw [List.getElem?_append_left hlt] at hj
    have o := h j l hj
    exact ⟨o.kn, o.ne, o.top, o.above, o.ev, fun b ln' hb hl' => o.low b ln' hb (by rw [List.getElem?_append_left (by omega)] at hl'; exact hl')⟩
  · have hj2 : j < (ls ++ [ln]).length := (List.getElem?_eq_some_iff.mp hj).1
    rw [List.length_append] at hj2
    have e : j = ls.length := by simp at hj2; omega
    subst e
    rw [List.getElem?_append_right (Nat.le_refl _), Nat.sub_self] at hj
    have e2 : ln = l := Option.some.inj hj
    subst e2
    exact ⟨ok.kn, ok.ne, ok.top, ok.above, ok.ev, fun b ln' hb hl' => ok.low b ln' hb (by rw [List.getElem?_append_left hb] at hl'; exact hl')⟩
/-- a line less some of each of the others -/
def lowF1 (x : (Nat → Rat) × (Nat → Rat)) (ln : Ln) : (Nat → Rat) × (Nat → Rat) :=
  (fun c => x.1 c - x.1 ln.k / ln.L ln.k * ln.L c, fun t => x.2 t - x.1 ln.k / ln.L ln.k * ln.F t)
def lowF (ls : List Ln) (x : (Nat → Rat) × (Nat → Rat)) : (Nat → Rat) × (Nat → Rat) := ls.foldl lowF1 x
theorem lowF_take {ls : List Ln} {j : Nat} {ln : Ln} (h : ls[j]? = some ln) (x : (Nat → Rat) × (Nat → Rat)) : lowF (ls.take (j + 1)) x = lowF1 (lowF (ls.take j) x) ln := by
  unfold lowF
  rw [List.take_add_one, h, Option.toList_some, List.foldl_append]; rfl
structure LowOk (n : Nat) (A : Nat → Nat → Rat) (v : Nat → Rat) (ls : List Ln) (j : Nat) (x y : (Nat → Rat) × (Nat → Rat)) : Prop where
  ev : ∀ c, c < n → y.1 c = ev n A v y.2 c
  low : ∀ b ln, b < j → ls[b]? = some ln → y.1 ln.k = 0
  top : ∀ t, ls.length ≤ t → y.2 t = x.2 t
theorem GoodL.lowOk {ls : List Ln} (h : GoodL n A v ls) {x : (Nat → Rat) × (Nat → Rat)} (hx : ∀ c, c < n → x.1 c = Ma.ev n A v x.2 c) : ∀ j, j ≤ ls.length → LowOk n A v ls j x (lowF (ls.take j) x)
  | 0, _ => ⟨hx, (fun b ln hb => by omega), fun t _ => rfl⟩
  | j + 1, hj => by
    have hlt : j < ls.length := by omega
    have hln := List.getElem?_eq_getElem hlt
    generalize ls[j] = ln at hln
    have ok := h j ln hln
    have ih := GoodL.lowOk h hx j (by omega)
    rw [lowF_take hln]
    generalize lowF (ls.take j) x = y at ih
    refine ⟨fun c hc => ?_, fun b l hb hl => ?_, fun t ht => ?_⟩
    · show y.1 c - y.1 ln.k / ln.L ln.k * ln.L c = Ma.ev n A v (fun t => y.2 t - y.1 ln.k / ln.L ln.k * ln.F t) c
      rw [ev_lin, ← ih.ev c hc, ← ok.ev c hc]
    · show y.1 l.k - y.1 ln.k / ln.L ln.k * ln.L l.k = 0
      by_cases e : b = j
      · subst e
        rw [hln] at hl
        have e2 := Option.some.inj hl
        subst e2
        rw [Rat.div_mul_cancel ok.ne]; grind
      · rw [ih.low b l (by omega) hl, ok.low b l (by omega) hl]; grind
    · show y.2 t - y.1 ln.k / ln.L ln.k * ln.F t = x.2 t
      rw [ih.top t ht, ok.above t (by omega)]; grind
/-- the next line -/
theorem GoodL.next {ls : List Ln} (h : GoodL n A v ls) {x : (Nat → Rat) × (Nat → Rat)} (hx : ∀ c, c < n → x.1 c = Ma.ev n A v x.2 c) (h1 : x.2 ls.length = 1) (h2 : ∀ t, ls.length < t → x.2 t = 0) {k : Nat} (hk : k < n) (hne : (lowF ls x).1 k ≠ 0) :
    GoodL n A v (ls ++ [⟨(lowF ls x).1, (lowF ls x).2, k⟩]) := by
  have o := h.lowOk hx ls.length (Nat.le_refl _)
  rw [List.take_length] at o
  exact h.snoc ⟨hk, hne, (by show (lowF ls x).2 ls.length = 1; rw [o.top _ (Nat.le_refl _)]; exact h1), fun t ht => (by show (lowF ls x).2 t = 0; rw [o.top t (by omega)]; exact h2 t ht), o.ev, fun b ln' hb hl => o.low b ln' hb hl⟩
theorem GoodL.done {ls : List Ln} (h : GoodL n A v ls) {x : (Nat → Rat) × (Nat → Rat)} (hx : ∀ c, c < n → x.1 c = Ma.ev n A v x.2 c) (h1 : x.2 ls.length = 1) (h2 : ∀ t, ls.length < t → x.2 t = 0) (hz : ∀ c, c < n → (lowF ls x).1 c = 0) :
    Min n A v ls.length (lowF ls x).2 := by
  have o := h.lowOk hx ls.length (Nat.le_refl _)
  rw [List.take_length] at o
  exact h.min (by rw [o.top _ (Nat.le_refl _)]; exact h1) (fun t ht => by rw [o.top t (by omega)]; exact h2 t ht) (fun i hi => by rw [← o.ev i hi]; exact hz i hi)
/-- a power of x more -/
theorem ev_shift {f : Nat → Rat} (h5 : f 5 = 0) (i : Nat) : ev n A v (fun t => match t with | 0 => 0 | t + 1 => f t) i = sm n (fun k => A i k * ev n A v f k) := by
  unfold ev
  have e1 : sm n (fun k => A i k * sm 6 (fun t => f t * wv n A v t k)) = sm 6 (fun t => f t * wv n A v (t + 1) i) := by
    have : (fun k => A i k * sm 6 (fun t => f t * wv n A v t k)) = fun k => sm 6 (fun t => A i k * (f t * wv n A v t k)) := by funext k; rw [sm_mul]
    rw [this, sm_comm]
    refine sm_congr fun t _ => ?_
    show sm n (fun k => A i k * (f t * wv n A v t k)) = f t * sm n (fun k => A i k * wv n A v t k)
    rw [← sm_mul]
    exact sm_congr fun k _ => by grind
  rw [e1]
  show (((((0 + 0 * wv n A v 0 i) + f 0 * wv n A v 1 i) + f 1 * wv n A v 2 i) + f 2 * wv n A v 3 i) + f 3 * wv n A v 4 i) + f 4 * wv n A v 5 i = (((((0 + f 0 * wv n A v 1 i) + f 1 * wv n A v 2 i) + f 2 * wv n A v 3 i) + f 3 * wv n A v 4 i) + f 4 * wv n A v 5 i) + f 5 * wv n A v 6 i
  rw [h5]; grind
theorem ev_unit {j : Nat} (hj : j < 6) (i : Nat) : ev n A v (fun t => if t = j then 1 else 0) i = wv n A v j i := by
  unfold ev
  rw [← sm_one hj (fun t => wv n A v t i)]
  refine sm_congr fun t _ => ?_
  show (if t = j then (1 : Rat) else 0) * wv n A v t i = if j = t then wv n A v t i else 0
  by_cases h : j = t
  · rw [if_pos h, if_pos h.symm]; grind
  · rw [if_neg h, if_neg (fun e : t = j => h e.symm)]; grind
end
end Ma
/-! What the specification's way gives is the one that's asked. -/
namespace Ma
def fn (l : List Rat) : Nat → Rat := fun i => l.getD i 0
theorem fn_beyond {l : List Rat} {i : Nat} (h : l.length ≤ i) : fn l i = 0 := by
  unfold fn
  rw [List.getD_eq_getElem?_getD, List.getElem?_eq_none h]; rfl
theorem fn_zipc {r p : List Rat} (c : Rat) (h : r.length = p.length) : fn ((r.zip p).map fun (x : Rat × Rat) => x.1 - c * x.2) = fun i => fn r i - c * fn p i := by
  funext i
  by_cases hi : i < r.length
  · unfold fn
    rw [List.getD_eq_getElem?_getD, List.getElem?_map, List.getElem?_zip_eq_some (z := (r[i], p[i])) |>.mpr ⟨List.getElem?_eq_getElem hi, List.getElem?_eq_getElem (by omega)⟩, List.getD_eq_getElem?_getD, List.getElem?_eq_getElem hi, List.getD_eq_getElem?_getD, List.getElem?_eq_getElem (show i < p.length by omega)]; rfl
  · rw [fn_beyond (by rw [List.length_map, List.length_zip]; omega), fn_beyond (l := r) (by omega), fn_beyond (l := p) (by omega)]; grind
theorem zipc_len {r p : List Rat} (c : Rat) (h : r.length = p.length) : ((r.zip p).map fun (x : Rat × Rat) => x.1 - c * x.2).length = r.length := by
  rw [List.length_map, List.length_zip]; omega
theorem find_first {p : List Rat} {k : Nat} (h : p.findIdx? (fun (x : Rat) => decide (x ≠ 0)) = some k) : k < p.length ∧ fn p k ≠ 0 := by
  rw [List.findIdx?_eq_some_iff_getElem] at h
  obtain ⟨hk, h1, _⟩ := h
  refine ⟨hk, ?_⟩
  unfold fn
  rw [List.getD_eq_getElem?_getD, List.getElem?_eq_getElem hk]
  simpa using h1
theorem find_none {p : List Rat} (h : p.findIdx? (fun (x : Rat) => decide (x ≠ 0)) = none) : ∀ i, fn p i = 0 := by
  rw [List.findIdx?_eq_none_iff] at h
  intro i
  by_cases hi : i < p.length
  · have := h p[i] (List.getElem_mem hi)
    unfold fn
    rw [List.getD_eq_getElem?_getD, List.getElem?_eq_getElem hi]
    simpa using this
  · exact fn_beyond (by omega)
/-- rows and lines -/
def RelK (n m : Nat) : List (List Rat × List Rat) → List Ln → Prop
  | [], [] => True
  | x :: xs, ln :: ls => (x.1.length = n ∧ x.2.length = m ∧ ln.L = fn x.1 ∧ ln.F = fn x.2 ∧ x.1.findIdx? (fun (y : Rat) => decide (y ≠ 0)) = some ln.k) ∧ RelK n m xs ls
  | _, _ => False
theorem RelK.len {n m : Nat} : ∀ {xs : List (List Rat × List Rat)} {ls : List Ln}, RelK n m xs ls → xs.length = ls.length
  | [], [], _ => rfl
  | _ :: _, _ :: _, h => by rw [List.length_cons, List.length_cons, RelK.len h.2]
  | [], _ :: _, h => h.elim
  | _ :: _, [], h => h.elim
theorem RelK.snoc {n m : Nat} {x : List Rat × List Rat} {ln : Ln} (h2 : x.1.length = n ∧ x.2.length = m ∧ ln.L = fn x.1 ∧ ln.F = fn x.2 ∧ x.1.findIdx? (fun (y : Rat) => decide (y ≠ 0)) = some ln.k) : ∀ {xs : List (List Rat × List Rat)} {ls : List Ln}, RelK n m xs ls → RelK n m (xs ++ [x]) (ls ++ [ln])
  | [], [], _ => ⟨h2, trivial⟩
  | _ :: _, _ :: _, h => ⟨h.1, RelK.snoc h2 h.2⟩
  | [], _ :: _, h => h.elim
  | _ :: _, [], h => h.elim
theorem leftBy_low {n m : Nat} : ∀ {xs : List (List Rat × List Rat)} {ls : List Ln}, RelK n m xs ls → ∀ (r q : List Rat), r.length = n → q.length = m →
    (Al09.leftBy xs r q).1.length = n ∧ (Al09.leftBy xs r q).2.length = m ∧ (fn (Al09.leftBy xs r q).1, fn (Al09.leftBy xs r q).2) = lowF ls (fn r, fn q)
  | [], [], _, r, q, hr, hq => ⟨hr, hq, rfl⟩
  | (a, b) :: xs, ln :: ls, h, r, q, hr, hq => by
    obtain ⟨⟨h1, h2, h3, h4, h5⟩, h6⟩ := h
    have h1 : a.length = n := h1
    have h2 : b.length = m := h2
    have h5 : a.findIdx? (fun (y : Rat) => decide (y ≠ 0)) = some ln.k := h5
    have e : Al09.leftBy ((a, b) :: xs) r q = Al09.leftBy xs ((r.zip a).map fun (x : Rat × Rat) => x.1 - r.getD ln.k 0 / a.getD ln.k 0 * x.2) ((q.zip b).map fun (x : Rat × Rat) => x.1 - r.getD ln.k 0 / a.getD ln.k 0 * x.2) := by
      rw [Al09.leftBy, h5]
    have ih := leftBy_low h6 ((r.zip a).map fun (x : Rat × Rat) => x.1 - r.getD ln.k 0 / a.getD ln.k 0 * x.2) ((q.zip b).map fun (x : Rat × Rat) => x.1 - r.getD ln.k 0 / a.getD ln.k 0 * x.2) (by rw [zipc_len _ (by omega)]; exact hr) (by rw [zipc_len _ (by omega)]; exact hq)
    rw [e]
    refine ⟨ih.1, ih.2.1, ?_⟩
    rw [ih.2.2, fn_zipc _ (by omega), fn_zipc _ (by omega)]
    show lowF ls _ = lowF ls (lowF1 (fn r, fn q) ln)
    unfold lowF1
    rw [h3, h4]; rfl
  | [], _ :: _, h, _, _, _, _ => h.elim
  | _ :: _, [], h, _, _, _, _ => h.elim
theorem apply_len {n : Nat} {a : List (List Rat)} (sq : Sq n a) (v : List Rat) : (Al09.apply a v).length = n := by
  unfold Al09.apply
  rw [List.length_map]; exact sq.rows
theorem fn_apply {n : Nat} {a : List (List Rat)} (sq : Sq n a) {v : List Rat} (hv : v.length = n) {i : Nat} (hi : i < n) : fn (Al09.apply a v) i = sm n (fun k => E a i k * fn v k) := by
  obtain ⟨r, hr, lr⟩ := sq.row hi
  unfold fn Al09.apply
  rw [List.getD_eq_getElem?_getD, List.getElem?_map, hr]
  show Al09.dot r v = _
  rw [dot_sm lr hv]
  refine sm_congr fun k _ => ?_
  unfold E
  rw [hr]; rfl
/-- all rows of the train -/
theorem train_w {n : Nat} {a : List (List Rat)} (sq : Sq n a) (v0 : Nat → Rat) : ∀ (k : Nat) (v : List Rat) (t : Nat), v.length = n → (∀ i, i < n → fn v i = wv n (E a) v0 t i) → ∀ j r, (Al09.train a k v)[j]? = some r → r.length = n ∧ ∀ i, i < n → fn r i = wv n (E a) v0 (t + j) i
  | 0, v, t, _, _, j, r, h => by
    have h : ([] : List (List Rat))[j]? = some r := h
    simp at h
  | k + 1, v, t, hv, hw, 0, r, h => by
    have h : some v = some r := h
    have e := Option.some.inj h
    subst e; exact ⟨hv, hw⟩
  | k + 1, v, t, hv, hw, j + 1, r, h => by
    have h : (Al09.train a k (Al09.apply a v))[j]? = some r := h
    have := train_w sq v0 k (Al09.apply a v) (t + 1) (apply_len sq v) (fun i hi => by
      rw [fn_apply sq hv hi]
      show _ = sm n (fun k => E a i k * wv n (E a) v0 t k)
      exact sm_congr fun k hk => by rw [hw k hk]) j r h
    rw [show t + (j + 1) = t + 1 + j by omega]
    exact this
theorem train_len (a : List (List Rat)) : ∀ (k : Nat) (v : List Rat), (Al09.train a k v).length = k
  | 0, _ => rfl
  | k + 1, v => by
    show (v :: Al09.train a k (Al09.apply a v)).length = k + 1
    rw [List.length_cons, train_len a k]
theorem lead_one {l : List Rat} {i : Nat} (h1 : co l i = 1) (h2 : ∀ t, i < t → co l t = 0) : AlOne.lead (AlOne.trim l) = 1 := by
  have ht := tr_trim l
  have hc : ∀ t, co (AlOne.trim l) t = co l t := co_trim l
  generalize AlOne.trim l = p at ht hc
  have hne : p ≠ [] := by
    intro e
    have := hc i
    rw [e, co_nil, h1] at this
    exact absurd this (by decide)
  have hl := lead_ne ht hne
  rw [lead_eq] at hl ⊢
  have hi : i < p.length := by
    by_cases h : i < p.length
    · exact h
    · have := hc i
      rw [h1] at this
      unfold co at this
      rw [List.getD_eq_getElem?_getD, List.getElem?_eq_none (by omega)] at this
      exact absurd this (by decide)
  have hle : p.length - 1 ≤ i := by
    by_cases h : p.length - 1 ≤ i
    · exact h
    · exfalso
      apply hl
      rw [hc, h2 _ (by omega)]
  rw [show p.length - 1 = i by omega, hc, h1]
theorem co_monic {l : List Rat} {i : Nat} (h1 : co l i = 1) (h2 : ∀ t, i < t → co l t = 0) (t : Nat) : co (AlOne.monic (AlOne.trim l)) t = co l t := by
  unfold AlOne.monic
  rw [lead_one h1 h2, co_scale, co_trim]
  grind
theorem vf_min {n : Nat} (hn : n ≤ 4) {A : Nat → Nat → Rat} {v0 : Nat → Rat} : ∀ (l : List (List Rat)) (i : Nat) (kept : List (List Rat × List Rat)) (ls : List Ln), RelK n (n + 1) kept ls → GoodL n A v0 ls → kept.length = i →
    (∀ j r, l[j]? = some r → r.length = n ∧ ∀ c, c < n → fn r c = wv n A v0 (i + j) c) → i + l.length = n + 1 →
    ∃ m, Min n A v0 m (co (Al09.vectorFrom n i kept l)) ∧ Tr (Al09.vectorFrom n i kept l)
  | [], i, kept, ls, hR, hG, hk, _, hl => by
    have := hG.len
    have := hR.len
    simp at hl
    omega
  | w :: l, i, kept, ls, hR, hG, hk, hw, hl => by
    have hRl := hR.len
    have hi : i ≤ n := by simp at hl; omega
    obtain ⟨hwl, hwv⟩ := hw 0 w rfl
    generalize hq : ((List.range (n + 1)).map fun (j : Nat) => if j = i then (1 : Rat) else 0) = q
    have hql : q.length = n + 1 := by rw [← hq]; simp
    have hqf : fn q = fun t => if t = i then 1 else 0 := by
      funext t
      by_cases ht : t < n + 1
      · unfold fn
        rw [← hq, List.getD_eq_getElem?_getD, List.getElem?_map, List.getElem?_range ht]; rfl
      · rw [fn_beyond (by omega), if_neg (by omega)]
    obtain ⟨g1, g2, g3⟩ := leftBy_low hR w q hwl hql
    have hx : ∀ c, c < n → (fn w, fn q).1 c = ev n A v0 (fn w, fn q).2 c := by
      intro c hc
      show fn w c = ev n A v0 (fn q) c
      rw [hwv c hc, hqf, ev_unit (by omega), Nat.add_zero]
    have h1 : (fn w, fn q).2 ls.length = 1 := by show fn q ls.length = 1; rw [hqf]; show (if ls.length = i then (1 : Rat) else 0) = 1; rw [if_pos (by omega)]
    have h2 : ∀ t, ls.length < t → (fn w, fn q).2 t = 0 := by intro t ht; show fn q t = 0; rw [hqf]; show (if t = i then (1 : Rat) else 0) = 0; rw [if_neg (by omega)]
    have e : Al09.vectorFrom n i kept (w :: l) = if ((Al09.leftBy kept w q).1.all fun (y : Rat) => decide (y = 0)) = true then AlOne.monic (AlOne.trim (Al09.leftBy kept w q).2) else Al09.vectorFrom n (i + 1) (kept ++ [Al09.leftBy kept w q]) l := by
      rw [← hq]; rfl
    rw [e]
    generalize Al09.leftBy kept w q = x at g1 g2 g3
    have e1 : fn x.1 = (lowF ls (fn w, fn q)).1 := congrArg Prod.fst g3
    have e2 : fn x.2 = (lowF ls (fn w, fn q)).2 := congrArg Prod.snd g3
    by_cases hz : (x.1.all fun (y : Rat) => decide (y = 0)) = true
    · rw [if_pos hz]
      have hd := hG.done hx h1 h2 (fun c hc => by
        rw [← e1]
        have := List.all_eq_true.mp hz (fn x.1 c) (by
          unfold fn
          rw [List.getD_eq_getElem?_getD, List.getElem?_eq_getElem (show c < x.1.length by omega)]
          exact List.getElem_mem _)
        exact of_decide_eq_true this)
      rw [← e2] at hd
      refine ⟨ls.length, ?_, tr_scale _ _⟩
      have ec : co (AlOne.monic (AlOne.trim x.2)) = fn x.2 := by
        funext t
        exact co_monic (i := ls.length) hd.top hd.above t
      rw [ec]; exact hd
    · rw [if_neg hz]
      cases hf : x.1.findIdx? (fun (y : Rat) => decide (y ≠ 0)) with
      | none =>
        exfalso
        apply hz
        rw [List.all_eq_true]
        intro y hy
        rw [List.findIdx?_eq_none_iff] at hf
        have := hf y hy
        simpa using this
      | some k =>
        obtain ⟨hk1, hk2⟩ := find_first hf
        have hG' := hG.next hx h1 h2 (k := k) (by omega) (by rw [← e1]; exact hk2)
        refine vf_min hn l (i + 1) (kept ++ [x]) _ (hR.snoc (ln := ⟨(lowF ls (fn w, fn q)).1, (lowF ls (fn w, fn q)).2, k⟩) ⟨g1, g2, e1.symm, e2.symm, hf⟩) hG' (by rw [List.length_append, hk]; rfl) (fun j r hr => ?_) (by simp at hl; omega)
        have := hw (j + 1) r hr
        rw [show i + (j + 1) = i + 1 + j by omega] at this
        exact this
/-- **the specification's polynomial** -/
theorem ofVector_min {n : Nat} (hn : n ≤ 4) {a : List (List Rat)} (sq : Sq n a) {v : List Rat} (hv : v.length = n) : ∃ m, Min n (E a) (fn v) m (co (Al09.ofVector a v)) ∧ Tr (Al09.ofVector a v) := by
  unfold Al09.ofVector
  rw [sq.rows]
  refine vf_min hn _ 0 [] [] trivial (fun j ln h => by simp at h) rfl (fun j r hr => ?_) (by rw [train_len]; omega)
  have := train_w sq (fn v) (n + 1) v 0 hv (fun i _ => rfl) j r hr
  exact this
theorem ofVector_eq {n : Nat} (hn : n ≤ 4) {a : List (List Rat)} (sq : Sq n a) {v : List Rat} (hv : v.length = n) {p : List Rat} (hp : Tr p) {m : Nat} (h : Min n (E a) (fn v) m (co p)) : p = Al09.ofVector a v := by
  obtain ⟨m', h1, h2⟩ := ofVector_min hn sq hv
  exact ext hp h2 (h.eq h1).2
end Ma
/-! Determinants of rows at places, and Cramer's way by uniqueness. -/
namespace Ma
abbrev RwF := Nat → Rat
def sgn (l : List Nat) : Rat := if l.length % 2 = 0 then 1 else -1
theorem sgn_snoc (l : List Nat) (c : Nat) : sgn (l ++ [c]) = - sgn l := by
  unfold sgn
  rw [List.length_append]
  show (if (l.length + 1) % 2 = 0 then (1 : Rat) else -1) = _
  by_cases h : l.length % 2 = 0
  · rw [if_pos h, if_neg (by omega)]
  · rw [if_neg h, if_pos (by omega)]; grind
/-- along a row -/
def lapF (f : List Nat → Rat) (r : RwF) : List Nat → List Nat → Rat
  | _, [] => 0
  | pre, c :: cs => sgn pre * r c * f (pre ++ cs) + lapF f r (pre ++ [c]) cs
def dt : List RwF → List Nat → Rat
  | [], cols => if cols = [] then 1 else 0
  | r :: rs, cols => lapF (dt rs) r [] cols
def Alt (f : List Nat → Rat) : Prop := ∀ u a b w, f (u ++ a :: b :: w) = - f (u ++ b :: a :: w)
theorem lap_alt1 {f : List Nat → Rat} (hf : Alt f) (r : RwF) : ∀ (w pre : List Nat) (a b : Nat) (mid : List Nat), lapF f r (pre ++ a :: b :: mid) w = - lapF f r (pre ++ b :: a :: mid) w
  | [], _, _, _, _ => by simp only [lapF]; grind
  | c :: w, pre, a, b, mid => by
    have h1 := hf pre a b (mid ++ w)
    have ih := lap_alt1 hf r w pre a b (mid ++ [c])
    have e1 : (pre ++ a :: b :: mid) ++ [c] = pre ++ a :: b :: (mid ++ [c]) := by simp
    have e2 : (pre ++ b :: a :: mid) ++ [c] = pre ++ b :: a :: (mid ++ [c]) := by simp
    have e3 : (pre ++ a :: b :: mid) ++ w = pre ++ a :: b :: (mid ++ w) := by simp
    have e4 : (pre ++ b :: a :: mid) ++ w = pre ++ b :: a :: (mid ++ w) := by simp
    have e5 : sgn (pre ++ a :: b :: mid) = sgn (pre ++ b :: a :: mid) := by unfold sgn; simp
    rw [lapF, lapF, e1, e2, e3, e4, e5, h1, ih]; grind
theorem lap_alt {f : List Nat → Rat} (hf : Alt f) (r : RwF) : ∀ (u pre : List Nat) (a b : Nat) (w : List Nat), lapF f r pre (u ++ a :: b :: w) = - lapF f r pre (u ++ b :: a :: w)
  | [], pre, a, b, w => by
    show sgn pre * r a * f (pre ++ b :: w) + (sgn (pre ++ [a]) * r b * f ((pre ++ [a]) ++ w) + lapF f r (pre ++ [a] ++ [b]) w) = - (sgn pre * r b * f (pre ++ a :: w) + (sgn (pre ++ [b]) * r a * f ((pre ++ [b]) ++ w) + lapF f r (pre ++ [b] ++ [a]) w))
    have h := lap_alt1 hf r w pre a b []
    have e1 : pre ++ [a] ++ [b] = pre ++ [a, b] := by simp
    have e2 : pre ++ [b] ++ [a] = pre ++ [b, a] := by simp
    have e3 : (pre ++ [a]) ++ w = pre ++ a :: w := by simp
    have e4 : (pre ++ [b]) ++ w = pre ++ b :: w := by simp
    rw [e1, e2, e3, e4, sgn_snoc, sgn_snoc, h]; grind
  | c :: u, pre, a, b, w => by
    show sgn pre * r c * f (pre ++ (u ++ a :: b :: w)) + lapF f r (pre ++ [c]) (u ++ a :: b :: w) = - (sgn pre * r c * f (pre ++ (u ++ b :: a :: w)) + lapF f r (pre ++ [c]) (u ++ b :: a :: w))
    have h1 := hf (pre ++ u) a b w
    rw [List.append_assoc, List.append_assoc] at h1
    rw [h1, lap_alt hf r u (pre ++ [c]) a b w]; grind
theorem dt_alt : ∀ rows : List RwF, Alt (dt rows)
  | [] => fun u a b w => by
    have h : ∀ x y : Nat, ¬ (u ++ x :: y :: w = []) := by intro x y; simp
    unfold dt
    rw [if_neg (h a b), if_neg (h b a)]; grind
  | r :: rs => fun u a b w => lap_alt (dt_alt rs) r u [] a b w
theorem dt_same {rows : List RwF} (x : Nat) (w : List Nat) : dt rows (x :: x :: w) = 0 := by
  have := dt_alt rows [] x x w
  have : dt rows (x :: x :: w) = - dt rows (x :: x :: w) := this
  grind
/-- two like columns -/
theorem dt_like {rows : List RwF} : ∀ (ks : List Nat) (x : Nat), x ∈ ks → dt rows (x :: ks) = 0 := by
  have : ∀ (ks : List Nat) (u : List Nat) (x : Nat), x ∈ ks → dt rows (u ++ x :: ks) = 0 := by
    intro ks
    induction ks with
    | nil => intro u x h; cases h
    | cons k ks ih =>
      intro u x h
      by_cases e : x = k
      · subst e
        have := dt_alt rows u x x ks
        grind
      · have hx : x ∈ ks := by
          rcases List.mem_cons.mp h with h | h
          · exact absurd h e
          · exact h
        rw [dt_alt rows u x k ks]
        have := ih (u ++ [k]) x hx
        rw [List.append_assoc] at this
        have : dt rows (u ++ k :: x :: ks) = 0 := this
        rw [this]; grind
  intro ks x h
  exact this ks [] x h
/-- sums of rows -/
def InS : List RwF → RwF → Prop
  | [], u => ∀ x, u x = 0
  | z :: zs, u => ∃ c : Rat, InS zs (fun x => u x - c * z x)
theorem InS.congr {u v : RwF} (e : ∀ x, u x = v x) : ∀ {zs : List RwF}, InS zs u → InS zs v := by
  have : u = v := funext e
  intro zs h
  rw [← this]; exact h
theorem InS.zero : ∀ zs : List RwF, InS zs (fun _ => 0)
  | [] => fun _ => rfl
  | z :: zs => ⟨0, (InS.zero zs).congr fun x => by grind⟩
theorem InS.lin (a b : Rat) : ∀ {zs : List RwF} {u v : RwF}, InS zs u → InS zs v → InS zs (fun x => a * u x + b * v x)
  | [], u, v, hu, hv => fun x => by show a * u x + b * v x = 0; rw [hu x, hv x]; grind
  | z :: zs, u, v, ⟨c, hu⟩, ⟨d, hv⟩ => ⟨a * c + b * d, (InS.lin a b hu hv).congr fun x => by grind⟩
theorem InS.more {z : RwF} {zs : List RwF} {u : RwF} (h : InS zs u) : InS (z :: zs) u := ⟨0, h.congr fun x => by grind⟩
theorem InS.self (z : RwF) (zs : List RwF) : InS (z :: zs) z := ⟨1, (InS.zero zs).congr fun x => by grind⟩
theorem lap_in {zs : List RwF} {f : List Nat → Rat} (hf : ∀ ks, InS zs (fun x => f (x :: ks))) (r : RwF) : ∀ (cs pre : List Nat), InS zs (fun x => lapF f r (x :: pre) cs)
  | [], pre => InS.zero zs
  | c :: cs, pre => by
    refine (InS.lin (- sgn pre * r c) 1 (hf (pre ++ cs)) (lap_in hf r cs (pre ++ [c]))).congr fun x => ?_
    show - sgn pre * r c * f (x :: (pre ++ cs)) + 1 * lapF f r (x :: (pre ++ [c])) cs = sgn (x :: pre) * r c * f (x :: pre ++ cs) + lapF f r (x :: pre ++ [c]) cs
    have e : sgn (x :: pre) = - sgn pre := by
      have h1 := sgn_snoc pre x
      unfold sgn at *
      rw [List.length_append] at h1
      exact h1
    rw [e]
    show _ = - sgn pre * r c * f (x :: (pre ++ cs)) + lapF f r (x :: (pre ++ [c])) cs
    grind
theorem dt_in : ∀ (zs : List RwF) (ks : List Nat), InS zs (fun x => dt zs (x :: ks))
  | [], ks => fun x => by show (if x :: ks = [] then (1 : Rat) else 0) = 0; rw [if_neg (by simp)]
  | z :: zs, ks => by
    refine ⟨dt zs ks, (lap_in (dt_in zs) z ks []).congr fun x => ?_⟩
    show lapF (dt zs) z [x] ks = (sgn [] * z x * dt zs ([] ++ ks) + lapF (dt zs) z ([] ++ [x]) ks) - dt zs ks * z x
    show lapF (dt zs) z [x] ks = (1 * z x * dt zs ks + lapF (dt zs) z [x] ks) - dt zs ks * z x
    grind
/-- by the new row's own column -/
theorem dt_first (y : RwF) (zs : List RwF) (ks : List Nat) : InS zs (fun x => dt (y :: zs) (x :: ks) - dt zs ks * y x) := by
  refine (lap_in (dt_in zs) y ks []).congr fun x => ?_
  show lapF (dt zs) y [x] ks = (1 * y x * dt zs ks + lapF (dt zs) y [x] ks) - dt zs ks * y x
  grind
theorem lap_lin (f : List Nat → Rat) (a b : Rat) (u v : RwF) : ∀ (cs pre : List Nat), lapF f (fun x => a * u x + b * v x) pre cs = a * lapF f u pre cs + b * lapF f v pre cs
  | [], _ => by simp only [lapF]; grind
  | c :: cs, pre => by rw [lapF, lapF, lapF, lap_lin f a b u v cs]; grind
theorem dt_lin (a b : Rat) (u v : RwF) (zs : List RwF) (ks : List Nat) : dt ((fun x => a * u x + b * v x) :: zs) ks = a * dt (u :: zs) ks + b * dt (v :: zs) ks := lap_lin _ a b u v ks []
/-- rows and places at which they're told -/
structure Ech (zs : List RwF) (ks : List Nat) : Prop where
  ind : ∀ u, InS zs u → (∀ k ∈ ks, u k = 0) → ∀ x, u x = 0
  ne : dt zs ks ≠ 0
theorem Ech.nil : Ech [] [] := ⟨fun u h _ => h, by show (if ([] : List Nat) = [] then (1 : Rat) else 0) ≠ 0; rw [if_pos rfl]; decide⟩
/-- **what's left of y by the rows, 0 at the places** -/
theorem Ech.cramer {zs : List RwF} {ks : List Nat} (h : Ech zs ks) {y y' : RwF} (h1 : InS zs (fun x => y' x - y x)) (h2 : ∀ k ∈ ks, y' k = 0) (x : Nat) : y' x * dt zs ks = dt (y :: zs) (x :: ks) := by
  have hu := InS.lin 1 (- dt zs ks) (dt_first y zs ks) h1
  have := h.ind _ (hu.congr (v := fun x => dt (y :: zs) (x :: ks) - dt zs ks * y' x) fun x => by grind) (fun k hk => by
    show dt (y :: zs) (k :: ks) - dt zs ks * y' k = 0
    rw [dt_like ks k hk, h2 k hk]; grind) x
  have : dt (y :: zs) (x :: ks) - dt zs ks * y' x = 0 := this
  grind
/-- a row that's a sum of the others tells nothing -/
theorem Ech.sum {zs : List RwF} {ks : List Nat} (h : Ech zs ks) {y : RwF} (hy : InS zs y) (x : Nat) : dt (y :: zs) (x :: ks) = 0 := by
  have := h.cramer (y := y) (y' := fun _ => 0) ((InS.lin (-1) 0 hy hy).congr fun x => by grind) (fun _ _ => rfl) x
  rw [← this]; grind
/-- one line more -/
theorem Ech.next {zs : List RwF} {ks : List Nat} (h : Ech zs ks) {z l : RwF} {a : Rat} (ha : a ≠ 0) (h1 : InS zs (fun x => l x - a * z x)) (h2 : ∀ k ∈ ks, l k = 0) {k : Nat} (hk : l k ≠ 0) : Ech (z :: zs) (k :: ks) := by
  refine ⟨fun u hu hz => ?_, ?_⟩
  · obtain ⟨c, hu⟩ := hu
    have h3 := InS.lin 1 (- (c / a)) hu h1
    have hca : c / a * a = c := Rat.div_mul_cancel ha
    have h4 := h.ind (fun x => u x - c / a * l x) (h3.congr fun x => by
      show 1 * (u x - c * z x) + - (c / a) * (l x - a * z x) = u x - c / a * l x
      grind) (fun b hb => by
      show u b - c / a * l b = 0
      rw [h2 b hb, hz b (List.mem_cons_of_mem _ hb)]; grind)
    have h5 : u k - c / a * l k = 0 := h4 k
    rw [hz k List.mem_cons_self] at h5
    have h6 : c / a * l k = 0 := by grind
    have h7 : c / a = 0 := by
      rcases Rat.mul_eq_zero.mp h6 with e | e
      · exact e
      · exact absurd e hk
    intro x
    have := h4 x
    have : u x - c / a * l x = 0 := this
    rw [h7] at this
    grind
  · have h3 := h.cramer (y := fun x => a * z x + 0 * z x) (y' := l) (h1.congr fun x => by grind) h2 k
    rw [dt_lin] at h3
    intro e
    rw [e] at h3
    have h4 : l k * dt zs ks = 0 := by grind
    rcases Rat.mul_eq_zero.mp h4 with e | e
    · exact hk e
    · exact h.ne e
/-! sizes -/
theorem Qb.neg {M B : Nat} {x : Rat} (h : Qb M B x) : Qb M B (-x) := by
  obtain ⟨z, h1, h2⟩ := h
  refine ⟨-z, ?_, by rw [Int.natAbs_neg]; exact h2⟩
  rw [Rat.intCast_neg, ← h1]; grind
theorem Qb.sgn {M B : Nat} {x : Rat} (h : Qb M B x) (l : List Nat) : Qb M B (Ma.sgn l * x) := by
  unfold Ma.sgn
  split
  · rw [show (1 : Rat) * x = x by grind]; exact h
  · rw [show (-1 : Rat) * x = -x by grind]; exact h.neg
theorem lap_qb {f : List Nat → Rat} {M B M' B' : Nat} {r : RwF} (hr : ∀ x, Qb M B (r x)) (hf : ∀ ks, Qb M' B' (f ks)) : ∀ (cs pre : List Nat), Qb (M * M') (cs.length * (B * B')) (lapF f r pre cs)
  | [], _ => Qb.zero _ _
  | c :: cs, pre => by
    rw [lapF, List.length_cons, Nat.succ_mul, Nat.add_comm]
    refine Qb.add ?_ (lap_qb hr hf cs (pre ++ [c]))
    have := ((hr c).mul (hf (pre ++ cs))).sgn pre
    rw [show sgn pre * r c * f (pre ++ cs) = sgn pre * (r c * f (pre ++ cs)) by grind]
    exact this
/-- the rows' sizes, one by one -/
def RowsQ : List RwF → List (Nat × Nat) → Prop
  | [], [] => True
  | r :: rs, q :: qs => (∀ x, Qb q.1 q.2 (r x)) ∧ RowsQ rs qs
  | _, _ => False
def qM : List (Nat × Nat) → Nat
  | [] => 1
  | q :: qs => q.1 * qM qs
/-- m: how many columns at most -/
def qB (m : Nat) : List (Nat × Nat) → Nat
  | [] => 1
  | q :: qs => m * (q.2 * qB m qs)
theorem dt_qb {m : Nat} : ∀ {rows : List RwF} {qs : List (Nat × Nat)}, RowsQ rows qs → ∀ cols : List Nat, cols.length ≤ m → Qb (qM qs) (qB m qs) (dt rows cols)
  | [], [], _, cols, _ => by
    unfold dt
    split
    · exact ⟨1, by simp [qM], by simp [qB]⟩
    · exact Qb.zero _ _
  | r :: rs, q :: qs, h, cols, hc => by
    have key : ∀ (cs pre : List Nat), (pre ++ cs).length ≤ m + 1 → cs.length ≤ m → Qb (q.1 * qM qs) (cs.length * (q.2 * qB m qs)) (lapF (dt rs) r pre cs) := by
      intro cs
      induction cs with
      | nil => intro pre _ _; exact Qb.zero _ _
      | cons c cs ih =>
        intro pre h1 h2
        rw [lapF, List.length_cons, Nat.succ_mul, Nat.add_comm]
        refine Qb.add ?_ (ih (pre ++ [c]) (by simp at h1 ⊢; omega) (by simp at h2; omega))
        have := ((h.1 c).mul (dt_qb (m := m) h.2 (pre ++ cs) (by simp at h1 ⊢; omega))).sgn pre
        rw [show sgn pre * r c * dt rs (pre ++ cs) = sgn pre * (r c * dt rs (pre ++ cs)) by grind]
        exact this
    refine (key cols [] (by simp; omega) hc).mono ?_
    exact Nat.mul_le_mul_right _ hc
  | [], _ :: _, h, _, _ => h.elim
  | _ :: _, [], h, _, _ => h.elim
/-- a quotient of two of known sizes -/
theorem Qb.div {M B N : Nat} {x d : Rat} (h : Qb M B x) (hd : Qb 1 N d) (h0 : d ≠ 0) : ∃ K, 0 < K ∧ K ≤ N ∧ Qb (M * K) B (x / d) := by
  obtain ⟨z, h1, h2⟩ := h
  obtain ⟨w, h3, h4⟩ := hd
  have hw : d = (w : Rat) := by
    have : d * ((1 : Nat) : Rat) = d := by show d * 1 = d; grind
    rw [← h3, this]
  have hw0 : w ≠ 0 := fun e => h0 (by rw [hw, e]; rfl)
  refine ⟨w.natAbs, by omega, h4, ?_⟩
  rcases Int.lt_or_gt_of_ne hw0 with hn | hn
  · refine ⟨-z, ?_, by rw [Int.natAbs_neg]; exact h2⟩
    have e : ((w.natAbs : Nat) : Rat) = - (w : Rat) := by
      have : (w.natAbs : Int) = -w := by omega
      rw [show ((w.natAbs : Nat) : Rat) = (((w.natAbs : Nat) : Int) : Rat) from rfl, this, Rat.intCast_neg]
    rw [Rat.natCast_mul, e, ← hw, Rat.intCast_neg, ← h1]
    have : x / d * d = x := Rat.div_mul_cancel h0
    grind
  · refine ⟨z, ?_, h2⟩
    have e : ((w.natAbs : Nat) : Rat) = (w : Rat) := by
      have : (w.natAbs : Int) = w := by omega
      rw [show ((w.natAbs : Nat) : Rat) = (((w.natAbs : Nat) : Int) : Rat) from rfl, this]
    rw [Rat.natCast_mul, e, ← hw, ← h1]
    have : x / d * d = x := Rat.div_mul_cancel h0
    grind
theorem Qb.timesM {M B k : Nat} {x : Rat} (h : Qb (M * k) B x) : Qb M B (x * (k : Rat)) := by
  obtain ⟨z, h1, h2⟩ := h
  refine ⟨z, ?_, h2⟩
  rw [← h1, Rat.natCast_mul]; grind
end Ma
/-! How many rows don't hang on others: it's the same whatever way it's found. -/
namespace Ma
theorem InS.add {zs : List RwF} {u v : RwF} (a b : Rat) (hu : InS zs u) (hv : InS zs v) : InS zs (fun x => a * u x + b * v x) := InS.lin a b hu hv
theorem InS.mem : ∀ {zs : List RwF} {z : RwF}, z ∈ zs → InS zs z
  | y :: zs, z, h => by
    rcases List.mem_cons.mp h with e | e
    · rw [e]; exact InS.self y zs
    · exact (InS.mem e).more
theorem InS.trans {ws : List RwF} : ∀ {zs : List RwF} {u : RwF}, InS zs u → (∀ z ∈ zs, InS ws z) → InS ws u
  | [], u, h, _ => (InS.zero ws).congr fun x => (h x).symm
  | z :: zs, u, ⟨c, h⟩, hz => by
    have h1 := InS.trans h fun y hy => hz y (List.mem_cons_of_mem _ hy)
    have h2 := hz z List.mem_cons_self
    exact (InS.lin 1 c h1 h2).congr fun x => by grind
/-- none is a sum of those behind it -/
def Ind : List RwF → Prop
  | [] => True
  | z :: zs => ¬ InS zs z ∧ Ind zs
theorem exch {z : RwF} {zs post : List RwF} {u0 : RwF} {c0 : Rat} (hc : c0 ≠ 0) (hu0 : InS zs (fun x => u0 x - c0 * z x)) : ∀ pre : List RwF, (∀ u ∈ pre, InS (z :: zs) u) → Ind (pre ++ u0 :: post) →
    ∃ pre' : List RwF, pre'.length = pre.length ∧ (∀ u ∈ pre', InS zs u) ∧ (∀ u ∈ pre', InS (pre ++ u0 :: post) u) ∧ Ind (pre' ++ post)
  | [], _, h => ⟨[], rfl, (fun u hu => by cases hu), (fun u hu => by cases hu), h.2⟩
  | u :: pre, hp, h => by
    obtain ⟨h1, h2⟩ := h
    obtain ⟨pre', l1, l2, l3, l4⟩ := exch hc hu0 pre (fun y hy => hp y (List.mem_cons_of_mem _ hy)) h2
    obtain ⟨c, hu⟩ := hp u List.mem_cons_self
    have hcc : c / c0 * c0 = c := Rat.div_mul_cancel hc
    have hu' : InS zs (fun x => u x - c / c0 * u0 x) := (InS.lin 1 (- (c / c0)) hu hu0).congr fun x => by
      show 1 * (u x - c * z x) + - (c / c0) * (u0 x - c0 * z x) = u x - c / c0 * u0 x
      grind
    have hu0in : InS (pre ++ u0 :: post) u0 := InS.mem (by simp)
    refine ⟨(fun x => u x - c / c0 * u0 x) :: pre', by rw [List.length_cons, List.length_cons, l1], fun y hy => ?_, fun y hy => ?_, ⟨fun hin => ?_, l4⟩⟩
    · rcases List.mem_cons.mp hy with e | e
      · rw [e]; exact hu'
      · exact l2 y e
    · rcases List.mem_cons.mp hy with e | e
      · rw [e]
        exact (InS.lin 1 (- (c / c0)) (InS.mem (zs := u :: (pre ++ u0 :: post)) List.mem_cons_self) hu0in.more).congr fun x => by grind
      · exact (l3 y e).more
    · apply h1
      have h3 : InS (pre ++ u0 :: post) (fun x => u x - c / c0 * u0 x) := InS.trans hin fun y hy => by
        rcases List.mem_append.mp hy with e | e
        · exact l3 y e
        · exact InS.mem (by simp [e])
      exact (InS.lin 1 (c / c0) h3 hu0in).congr fun x => by grind
/-- **not more than there are** -/
theorem steinitz : ∀ (zs us : List RwF), Ind us → (∀ u ∈ us, InS zs u) → us.length ≤ zs.length
  | [], us, hi, hu => by
    cases us with
    | nil => simp
    | cons u us =>
      exfalso
      apply hi.1
      have := hu u List.mem_cons_self
      exact (InS.zero us).congr fun x => (this x).symm
  | z :: zs, us, hi, hu => by
    by_cases hall : ∀ u ∈ us, InS zs u
    · have := steinitz zs us hi hall
      simp; omega
    · have : ∃ pre u0 post, us = pre ++ u0 :: post ∧ ¬ InS zs u0 ∧ ∀ u ∈ post, InS zs u := by
        clear hi hu
        induction us with
        | nil => exact absurd (fun u hu => by cases hu) hall
        | cons u us ih =>
          by_cases h1 : ∀ v ∈ us, InS zs v
          · refine ⟨[], u, us, rfl, fun h2 => hall fun v hv => ?_, h1⟩
            rcases List.mem_cons.mp hv with e | e
            · rw [e]; exact h2
            · exact h1 v e
          · obtain ⟨pre, u0, post, e, h2, h3⟩ := ih h1
            exact ⟨u :: pre, u0, post, by rw [e]; rfl, h2, h3⟩
      obtain ⟨pre, u0, post, e, h2, h3⟩ := this
      subst e
      obtain ⟨c0, hu0⟩ := hu u0 (by simp)
      have hc : c0 ≠ 0 := fun e0 => h2 (hu0.congr fun x => by rw [e0]; grind)
      obtain ⟨pre', l1, l2, l3, l4⟩ := exch hc hu0 pre (fun y hy => hu y (by simp [hy])) hi
      have := steinitz zs (pre' ++ post) l4 (fun y hy => by
        rcases List.mem_append.mp hy with e | e
        · exact l2 y e
        · exact h3 y e)
      rw [List.length_append] at this
      rw [List.length_append, List.length_cons, List.length_cons]
      omega
/-- so many rows don't hang on others -/
def RankIs (rows : List RwF) (r : Nat) : Prop := ∃ bs : List RwF, bs.length = r ∧ Ind bs ∧ (∀ b ∈ bs, InS rows b) ∧ ∀ z ∈ rows, InS bs z
theorem RankIs.eq {rows : List RwF} {r s : Nat} (h : RankIs rows r) (h' : RankIs rows s) : r = s := by
  obtain ⟨bs, h1, h2, h3, h4⟩ := h
  obtain ⟨cs, k1, k2, k3, k4⟩ := h'
  have a := steinitz cs bs h2 fun b hb => InS.trans (h3 b hb) k4
  have b := steinitz bs cs k2 fun c hc => InS.trans (k3 c hc) h4
  omega
theorem RankIs.le {rows : List RwF} {r : Nat} (h : RankIs rows r) : r ≤ rows.length := by
  obtain ⟨bs, h1, h2, h3, h4⟩ := h
  have := steinitz rows bs h2 h3
  omega
/-- sums keep a place that's 0 in all -/
theorem InS.zero_at {k : Nat} : ∀ {zs : List RwF} {u : RwF}, InS zs u → (∀ z ∈ zs, z k = 0) → u k = 0
  | [], u, h, _ => h k
  | z :: zs, u, ⟨c, h⟩, hz => by
    have h1 : u k - c * z k = 0 := InS.zero_at h fun y hy => hz y (List.mem_cons_of_mem _ hy)
    rw [hz z List.mem_cons_self] at h1
    grind
/-- one row with something at a place, the others reduced by it -/
theorem RankIs.step {p : RwF} {k : Nat} (hp : p k ≠ 0) {rows rest : List RwF} (h1 : ∀ z ∈ rest, z k = 0) (h2 : ∀ z ∈ rest, InS rows z) (h3 : InS rows p) (h4 : ∀ z ∈ rows, InS (p :: rest) z) {s : Nat} (h : RankIs rest s) : RankIs rows (s + 1) := by
  obtain ⟨bs, b1, b2, b3, b4⟩ := h
  refine ⟨p :: bs, by rw [List.length_cons, b1], ⟨fun hin => hp (InS.zero_at hin fun b hb => InS.zero_at (b3 b hb) h1), b2⟩, fun b hb => ?_, fun z hz => ?_⟩
  · rcases List.mem_cons.mp hb with e | e
    · rw [e]; exact h3
    · exact InS.trans (b3 b e) h2
  · exact InS.trans (h4 z hz) fun y hy => by
      rcases List.mem_cons.mp hy with e | e
      · rw [e]; exact InS.self _ _
      · exact (b4 y e).more
theorem rank_from {n : Nat} : ∀ (c k : Nat) (rows : List (List Rat)), c + k = n → (∀ r ∈ rows, r.length = n) → (∀ r ∈ rows, ∀ j, j < k → fn r j = 0) → RankIs (rows.map fn) (Al09.rankFrom c k rows)
  | 0, k, rows, hk, hl, hz => by
    refine ⟨[], rfl, trivial, (fun b hb => by cases hb), fun z hz' => ?_⟩
    rw [List.mem_map] at hz'
    obtain ⟨r, hr, rfl⟩ := hz'
    intro x
    by_cases hx : x < n
    · exact hz r hr x (by omega)
    · exact fn_beyond (by rw [hl r hr]; omega)
  | c + 1, k, rows, hk, hl, hz => by
    rw [Al09.rankFrom]
    split
    · rename_i hf
      rw [List.findIdx?_eq_none_iff] at hf
      refine rank_from c (k + 1) rows (by omega) hl fun r hr j hj => ?_
      by_cases e : j = k
      · subst e
        have := hf r hr
        have h9 : r.getD j 0 = 0 := by simpa using this
        exact h9
      · exact hz r hr j (by omega)
    · rename_i i hf
      rw [List.findIdx?_eq_some_iff_getElem] at hf
      obtain ⟨hi, h1, _⟩ := hf
      have hp : rows.getD i [] = rows[i] := by rw [List.getD_eq_getElem?_getD, List.getElem?_eq_getElem hi]; rfl
      have hpm : rows[i] ∈ rows := List.getElem_mem hi
      rw [hp]
      generalize hpe : rows[i] = p at h1 hpm
      have hpk : fn p k ≠ 0 := by
        have h9 : p.getD k 0 ≠ 0 := by simpa using h1
        exact h9
      have hpl := hl p hpm
      show RankIs (rows.map fn) (1 + Al09.rankFrom c (k + 1) ((rows.eraseIdx i).map fun (r : List Rat) => (r.zip p).map fun (x : Rat × Rat) => x.1 - r.getD k 0 / p.getD k 0 * x.2))
      rw [Nat.add_comm]
      have hrest : ∀ r ∈ rows.eraseIdx i, r ∈ rows := fun r hr => List.mem_of_mem_eraseIdx hr
      have hfn : ∀ r ∈ rows, fn ((r.zip p).map fun (x : Rat × Rat) => x.1 - r.getD k 0 / p.getD k 0 * x.2) = fun j => fn r j - fn r k / fn p k * fn p j := fun r hr => fn_zipc _ (by rw [hl r hr, hpl])
      have hpin : InS (rows.map fn) (fn p) := InS.mem (List.mem_map.mpr ⟨p, hpm, rfl⟩)
      refine RankIs.step (p := fn p) (k := k) hpk (fun z hz' => ?_) (fun z hz' => ?_) hpin (fun z hz' => ?_) (rank_from (n := n) c (k + 1) _ (by omega) (fun r hr => ?_) (fun r hr j hj => ?_))
      · rw [List.map_map, List.mem_map] at hz'
        obtain ⟨r, hr, rfl⟩ := hz'
        show fn ((r.zip p).map _) k = 0
        rw [hfn r (hrest r hr)]
        show fn r k - fn r k / fn p k * fn p k = 0
        rw [Rat.div_mul_cancel hpk]; grind
      · rw [List.map_map, List.mem_map] at hz'
        obtain ⟨r, hr, rfl⟩ := hz'
        show InS _ (fn ((r.zip p).map _))
        rw [hfn r (hrest r hr)]
        have hrin : InS (rows.map fn) (fn r) := InS.mem (List.mem_map.mpr ⟨r, hrest r hr, rfl⟩)
        exact (InS.lin 1 (- (fn r k / fn p k)) hrin hpin).congr fun x => by grind
      · rw [List.mem_map] at hz'
        obtain ⟨r, hr, rfl⟩ := hz'
        by_cases hrp : r = p
        · rw [hrp]; exact InS.self _ _
        · have hre : r ∈ rows.eraseIdx i := by
            rw [List.mem_eraseIdx_iff_getElem]
            obtain ⟨j, hj, ej⟩ := List.getElem_of_mem hr
            exact ⟨j, hj, fun e => hrp (by rw [← ej, ← hpe]; congr 1), ej⟩
          have h5 : InS (fn p :: ((rows.eraseIdx i).map fun (r : List Rat) => (r.zip p).map fun (x : Rat × Rat) => x.1 - r.getD k 0 / p.getD k 0 * x.2).map fn) (fun j => fn r j - fn r k / fn p k * fn p j) := by
            refine InS.more (InS.mem ?_)
            rw [List.map_map, List.mem_map]
            exact ⟨r, hre, hfn r hr⟩
          exact (InS.lin 1 (fn r k / fn p k) h5 (InS.self _ _)).congr fun x => by grind
      · rw [List.mem_map] at hr
        obtain ⟨r', hr', rfl⟩ := hr
        rw [zipc_len _ (by rw [hl r' (hrest r' hr'), hpl])]
        exact hl r' (hrest r' hr')
      · rw [List.mem_map] at hr
        obtain ⟨r', hr', rfl⟩ := hr
        rw [hfn r' (hrest r' hr')]
        show fn r' j - fn r' k / fn p k * fn p j = 0
        by_cases e : j = k
        · subst e; rw [Rat.div_mul_cancel hpk]; grind
        · rw [hz r' (hrest r' hr') j (by omega), hz p hpm j (by omega)]; grind
/-- **the specification's rank** -/
theorem rank_is {n : Nat} {rows : List (List Rat)} (hl : ∀ r ∈ rows, r.length = n) : RankIs (rows.map fn) (Al09.rank n rows) :=
  rank_from n 0 rows (by omega) hl (fun _ _ _ h => by omega)
end Ma
/-! Values near one another; changes of sign. -/
namespace Ma
open AlOne (value)
/-- not beyond B on either side -/
def Ab (x B : Rat) : Prop := -B ≤ x ∧ x ≤ B
theorem Ab.nonneg {x B : Rat} (h : Ab x B) : 0 ≤ B := by
  obtain ⟨h1, h2⟩ := h
  grind
theorem Ab.add {x y A B : Rat} (h : Ab x A) (h' : Ab y B) : Ab (x + y) (A + B) := by
  obtain ⟨h1, h2⟩ := h
  obtain ⟨h3, h4⟩ := h'
  constructor <;> grind
theorem Ab.neg {x A : Rat} (h : Ab x A) : Ab (-x) A := by
  obtain ⟨h1, h2⟩ := h
  constructor <;> grind
theorem Ab.mono {x A B : Rat} (h : Ab x A) (hB : A ≤ B) : Ab x B := by
  obtain ⟨h1, h2⟩ := h
  constructor <;> grind
theorem Ab.mul {x y A B : Rat} (h : Ab x A) (h' : Ab y B) : Ab (x * y) (A * B) := by
  obtain ⟨h1, h2⟩ := h
  obtain ⟨h3, h4⟩ := h'
  have e1 : 0 ≤ (A - x) * (B + y) := Rat.mul_nonneg (by grind) (by grind)
  have e2 : 0 ≤ (A + x) * (B - y) := Rat.mul_nonneg (by grind) (by grind)
  have e3 : 0 ≤ (A - x) * (B - y) := Rat.mul_nonneg (by grind) (by grind)
  have e4 : 0 ≤ (A + x) * (B + y) := Rat.mul_nonneg (by grind) (by grind)
  constructor <;> grind
def ab (c : Rat) : Rat := if c < 0 then -c else c
theorem ab_ab (c : Rat) : Ab c (ab c) := by
  unfold ab
  split <;> constructor <;> grind
theorem Ab.zero : Ab 0 0 := by constructor <;> grind
/-- how large a polynomial gets up to R -/
def bnd (R : Rat) : List Rat → Rat
  | [] => 0
  | c :: p => ab c + R * bnd R p
theorem val_bnd {R x : Rat} (hx : Ab x R) : ∀ p : List Rat, Ab (value x p) (bnd R p)
  | [] => Ab.zero
  | c :: p => (ab_ab c).add (hx.mul (val_bnd hx p))
def lip (R : Rat) : List Rat → Rat
  | [] => 0
  | c :: p => bnd R p + R * lip R p
theorem val_lip {R x y d : Rat} (hx : Ab x R) (hy : Ab y R) (hd : Ab (y - x) d) : ∀ p : List Rat, Ab (value y p - value x p) (d * lip R p)
  | [] => by
    show Ab (0 - 0) (d * 0)
    rw [show (0 : Rat) - 0 = 0 by grind, show d * 0 = 0 by grind]; exact Ab.zero
  | c :: p => by
    have h1 := hd.mul (val_bnd hy p)
    have h2 := hx.mul (val_lip hx hy hd p)
    have h3 := h1.add h2
    show Ab ((c + y * value y p) - (c + x * value x p)) (d * (bnd R p + R * lip R p))
    rw [show (c + y * value y p) - (c + x * value x p) = (y - x) * value y p + x * (value y p - value x p) by grind, show d * (bnd R p + R * lip R p) = d * bnd R p + R * (d * lip R p) by grind]
    exact h3
/-- the slope's value -/
def dv (x : Rat) : List Rat → Rat
  | [] => 0
  | c :: p => value x p + x * dv x p
def gq (x y : Rat) : List Rat → Rat
  | [] => 0
  | c :: p => value y p + x * gq x y p
theorem val_gq (x y : Rat) : ∀ p : List Rat, value y p - value x p = (y - x) * gq x y p
  | [] => by show (0 : Rat) - 0 = (y - x) * 0; grind
  | c :: p => by
    have ih := val_gq x y p
    show (c + y * value y p) - (c + x * value x p) = (y - x) * (value y p + x * gq x y p)
    grind
def der (R : Rat) : List Rat → Rat
  | [] => 0
  | c :: p => lip R p + R * der R p
theorem gq_dv {R x y d : Rat} (hx : Ab x R) (hy : Ab y R) (hd : Ab (y - x) d) : ∀ p : List Rat, Ab (gq x y p - dv x p) (d * der R p)
  | [] => by
    show Ab (0 - 0) (d * 0)
    rw [show (0 : Rat) - 0 = 0 by grind, show d * 0 = 0 by grind]; exact Ab.zero
  | c :: p => by
    have h1 := val_lip hx hy hd p
    have h2 := hx.mul (gq_dv hx hy hd p)
    have h3 := h1.add h2
    show Ab ((value y p + x * gq x y p) - (value x p + x * dv x p)) (d * (lip R p + R * der R p))
    rw [show (value y p + x * gq x y p) - (value x p + x * dv x p) = (value y p - value x p) + x * (gq x y p - dv x p) by grind, show d * (lip R p + R * der R p) = d * lip R p + R * (d * der R p) by grind]
    exact h3
theorem sval_trim (x : Rat) : ∀ p : List Rat, value x (AlOne.trim p) = value x p
  | [] => rfl
  | c :: p => by
    have ih := sval_trim x p
    rw [trim_cons]
    split
    · rename_i h
      rw [h] at ih
      split
      · rename_i h0
        show (0 : Rat) = c + x * value x p
        rw [← ih, h0]
        show (0 : Rat) = 0 + x * 0
        grind
      · show c + x * 0 = c + x * value x p
        rw [← ih]; rfl
    · show c + x * value x (AlOne.trim p) = c + x * value x p
      rw [ih]
theorem val_slopeFrom (x : Rat) : ∀ (p : List Rat) (n : Nat), value x (AlOne.slopeFrom (n + 1) p) = ((n : Nat) : Rat) * value x p + (value x p + x * dv x p)
  | [], n => by show (0 : Rat) = _ * 0 + (0 + x * 0); grind
  | c :: p, n => by
    have ih := val_slopeFrom x p (n + 1)
    show ((n + 1 : Nat) : Rat) * c + x * value x (AlOne.slopeFrom (n + 1 + 1) p) = ((n : Nat) : Rat) * (c + x * value x p) + ((c + x * value x p) + x * (value x p + x * dv x p))
    rw [ih]
    have e : ((n + 1 : Nat) : Rat) = ((n : Nat) : Rat) + 1 := by rw [Rat.natCast_add]; rfl
    rw [e]; grind
theorem val_slope (x : Rat) (p : List Rat) : value x (AlOne.slope p) = dv x p := by
  unfold AlOne.slope
  rw [sval_trim]
  cases p with
  | nil => rfl
  | cons c p =>
    show value x (AlOne.slopeFrom 1 p) = value x p + x * dv x p
    have := val_slopeFrom x p 0
    rw [this]
    show (0 : Rat) * value x p + _ = _
    grind
/-! changes of sign -/
def vr (s : List Int) : Nat := Al03.changes (s.filter fun (a : Int) => decide (a ≠ 0))
theorem vr_zero (l : List Int) : vr (0 :: l) = vr l := by
  unfold vr
  rw [List.filter_cons_of_neg (by simp)]
theorem vr_one {a : Int} (ha : a ≠ 0) : vr [a] = 0 := by
  unfold vr
  rw [List.filter_cons_of_pos (by simpa using ha)]
  rfl
theorem vr_two {a b : Int} (ha : a ≠ 0) (hb : b ≠ 0) (l : List Int) : vr (a :: b :: l) = (if a * b < 0 then 1 else 0) + vr (b :: l) := by
  unfold vr
  rw [List.filter_cons_of_pos (by simpa using ha), List.filter_cons_of_pos (by simpa using hb)]
  rfl
theorem vr_gap {a : Int} (ha : a ≠ 0) (l : List Int) : vr (a :: 0 :: l) = vr (a :: l) := by
  unfold vr
  rw [List.filter_cons_of_pos (by simpa using ha), List.filter_cons_of_neg (by simp), List.filter_cons_of_pos (by simpa using ha)]
def Sg (a : Int) : Prop := a = -1 ∨ a = 0 ∨ a = 1
/-- signs at two places near one another, from one on that's the same and not 0 -/
inductive CellT : List (Int × Int) → Prop
  | last {a : Int} : Sg a → a ≠ 0 → CellT [(a, a)]
  | same {a b : Int} {l : List (Int × Int)} : Sg a → a ≠ 0 → CellT ((b, b) :: l) → CellT ((a, a) :: (b, b) :: l)
  | mid {a b c d : Int} {l : List (Int × Int)} : Sg a → a ≠ 0 → b = -a → Sg c → Sg d → CellT ((b, b) :: l) → CellT ((a, a) :: (c, d) :: (b, b) :: l)
theorem CellT.head {x : Int × Int} {l : List (Int × Int)} (h : CellT (x :: l)) : Sg x.1 ∧ x.1 ≠ 0 ∧ x.2 = x.1 := by
  cases h with
  | last h1 h2 => exact ⟨h1, h2, rfl⟩
  | same h1 h2 _ => exact ⟨h1, h2, rfl⟩
  | mid h1 h2 _ _ _ _ => exact ⟨h1, h2, rfl⟩
theorem mid_one {a c : Int} (ha : Sg a) (h0 : a ≠ 0) (hc : Sg c) (l : List Int) : vr (a :: c :: -a :: l) = 1 + vr (-a :: l) := by
  have hn : -a ≠ 0 := by omega
  rcases hc with e | e | e
  · subst e
    rw [vr_two h0 (by decide), vr_two (by decide) hn]
    rcases ha with e | e | e
    · subst e; first | rfl | simp
    · exact absurd e h0
    · subst e; first | rfl | simp
  · subst e
    rw [vr_gap h0, vr_two h0 hn]
    rcases ha with e | e | e
    · subst e; first | rfl | simp
    · exact absurd e h0
    · subst e; first | rfl | simp
  · subst e
    rw [vr_two h0 (by decide), vr_two (by decide) hn]
    rcases ha with e | e | e
    · subst e; first | rfl | simp
    · exact absurd e h0
    · subst e; first | rfl | simp
theorem CellT.eq {l : List (Int × Int)} (h : CellT l) : vr (l.map Prod.fst) = vr (l.map Prod.snd) := by
  induction h with
  | last _ _ => rfl
  | same h1 h2 h3 ih =>
    have hb := h3.head
    show vr (_ :: _ :: _) = vr (_ :: _ :: _)
    rw [vr_two h2 hb.2.1, vr_two h2 hb.2.1]
    have ih : vr (_ :: _) = vr (_ :: _) := ih
    rw [ih]
  | mid h1 h2 h3 h4 h5 h6 ih =>
    subst h3
    show vr (_ :: _ :: _ :: _) = vr (_ :: _ :: _ :: _)
    rw [mid_one h1 h2 h4, mid_one h1 h2 h5]
    have ih : vr (_ :: _) = vr (_ :: _) := ih
    rw [ih]
/-- the first one may turn from the other sign than the second's -/
theorem cell_first {c d b : Int} {l : List (Int × Int)} (h : CellT ((b, b) :: l)) (hc : Sg c) (hd : Sg d) (ok : (c = d ∧ c ≠ 0) ∨ (c = -b) ∨ (c ≠ -b ∧ d = b)) :
    vr (d :: b :: l.map Prod.snd) ≤ vr (c :: b :: l.map Prod.fst) ∧ (c = -b → d = 0 → vr (d :: b :: l.map Prod.snd) + 1 = vr (c :: b :: l.map Prod.fst)) := by
  have hb := h.head
  have he : vr (b :: l.map Prod.fst) = vr (b :: l.map Prod.snd) := h.eq
  have hb0 : b ≠ 0 := hb.2.1
  have hbs : Sg b := hb.1
  have v0 : ∀ m : List Int, vr (0 :: b :: m) = vr (b :: m) := fun m => vr_zero _
  have vs : ∀ m : List Int, vr (b :: b :: m) = vr (b :: m) := fun m => by
    rw [vr_two hb0 hb0, if_neg]
    · simp
    · rcases hbs with e | e | e <;> subst e <;> first | decide | exact absurd rfl hb0
  have vo : ∀ m : List Int, vr (-b :: b :: m) = 1 + vr (b :: m) := fun m => by
    rw [vr_two (by omega) hb0, if_pos]
    rcases hbs with e | e | e <;> subst e <;> first | decide | exact absurd rfl hb0
  have hcase : ∀ s : Int, Sg s → s = 0 ∨ s = b ∨ s = -b := by
    intro s hs
    rcases hs with e | e | e <;> rcases hbs with e2 | e2 | e2 <;> omega
  rcases hcase c hc with e1 | e1 | e1 <;> rcases hcase d hd with e2 | e2 | e2 <;> subst e1 <;> subst e2 <;> simp only [v0, vs, vo, he] <;> omega
end Ma
/-! A row of polynomials like Sturm's: its changes of sign don't grow, and fall where the first one is 0. -/
namespace Ma
open AlOne (value)
def Big (t v : Rat) : Prop := t ≤ v ∨ v ≤ -t
theorem Big.mono {t s v : Rat} (h : Big t v) (hs : s ≤ t) : Big s v := by
  rcases h with h | h
  · exact .inl (by grind)
  · exact .inr (by grind)
theorem not_big {t v : Rat} (h : ¬ Big t v) : Ab v t := by
  unfold Big at h
  constructor
  · by_cases h1 : -t ≤ v
    · exact h1
    · exact absurd (.inr (by grind)) h
  · by_cases h1 : v ≤ t
    · exact h1
    · exact absurd (.inl (by grind)) h
/-- the row's own relations -/
def ChR : List (List Rat) → Prop
  | [] => False
  | [f] => ∃ k : Rat, k ≠ 0 ∧ ∀ x, value x f = k
  | [f, g] => ∃ k : Rat, k ≠ 0 ∧ ∀ x, value x g = k
  | f :: g :: h :: l => (∃ (u v : List Rat) (k : Rat), k ≠ 0 ∧ ∀ x, value x u * value x f + value x v * value x g = k) ∧ (∃ Q : List Rat, ∀ x, value x f + value x h = value x Q * value x g) ∧ ChR (g :: h :: l)
def TP (t x : Rat) : List (List Rat) → Prop
  | [] => True
  | [f] => Big t (value x f)
  | [f, g] => Big t (value x g)
  | f :: g :: h :: l => (Big t (value x f) ∨ Big t (value x g)) ∧ (¬ Big t (value x g) → Big t (value x f) ∧ value x f * value x h < 0) ∧ TP t x (g :: h :: l)
theorem TP.mono {t s x : Rat} (hs : s ≤ t) : ∀ {l : List (List Rat)}, TP t x l → TP s x l
  | [], _ => trivial
  | [f], h => Big.mono h hs
  | [f, g], h => Big.mono h hs
  | f :: g :: h :: l, ⟨h1, h2, h3⟩ => by
    refine ⟨?_, fun hn => ?_, TP.mono hs h3⟩
    · rcases h1 with e | e
      · exact .inl (e.mono hs)
      · exact .inr (e.mono hs)
    · obtain ⟨a, b⟩ := h2 fun e => hn (e.mono hs)
      exact ⟨a.mono hs, b⟩
theorem pos_ab {k : Rat} (h : k ≠ 0) : 0 < ab k := by
  unfold ab
  split
  · grind
  · have : 0 ≤ k := by grind
    rcases Rat.le_iff_lt_or_eq.mp this with e | e
    · exact e
    · exact absurd e.symm h
theorem big_ab (k : Rat) : Big (ab k) k := by
  unfold Big ab
  split
  · exact .inr (by grind)
  · exact .inl (by grind)
theorem div_posQ {a b : Rat} (ha : 0 < a) (hb : 0 < b) : 0 < a / b := by
  have h2 : a / b * b = a := Rat.div_mul_cancel (by grind)
  by_cases h : 0 < a / b
  · exact h
  · exfalso
    have h3 := Rat.mul_nonneg (show 0 ≤ - (a / b) by grind) (show 0 ≤ b by grind)
    grind
theorem small_pos {a B : Rat} (ha : 0 < a) (hB : 0 ≤ B) : ∃ t : Rat, 0 < t ∧ t * B < a := by
  have h1 : 0 < B + 1 := by grind
  refine ⟨a / (B + 1), div_posQ ha h1, ?_⟩
  have h2 : a / (B + 1) * (B + 1) = a := Rat.div_mul_cancel (by grind)
  have h3 : 0 < a / (B + 1) := div_posQ ha h1
  grind
theorem bnd_nonneg {R : Rat} (hR : 0 ≤ R) : ∀ p : List Rat, 0 ≤ bnd R p
  | [] => by show (0 : Rat) ≤ 0; grind
  | c :: p => by
    have h1 : 0 ≤ ab c := (ab_ab c).nonneg
    have h2 := Rat.mul_nonneg hR (bnd_nonneg hR p)
    show 0 ≤ ab c + R * bnd R p
    grind
theorem lip_nonneg {R : Rat} (hR : 0 ≤ R) : ∀ p : List Rat, 0 ≤ lip R p
  | [] => by show (0 : Rat) ≤ 0; grind
  | c :: p => by
    have h1 := bnd_nonneg hR p
    have h2 := Rat.mul_nonneg hR (lip_nonneg hR p)
    show 0 ≤ bnd R p + R * lip R p
    grind
theorem der_nonneg {R : Rat} (hR : 0 ≤ R) : ∀ p : List Rat, 0 ≤ der R p
  | [] => by show (0 : Rat) ≤ 0; grind
  | c :: p => by
    have h1 := lip_nonneg hR p
    have h2 := Rat.mul_nonneg hR (der_nonneg hR p)
    show 0 ≤ lip R p + R * der R p
    grind
/-- two that aren't both small -/
theorem pair_big {U V F G k t : Rat} {bu bv : Rat} (hU : Ab U bu) (hV : Ab V bv) (hk : U * F + V * G = k) (hG : ¬ Big t G) {s : Rat} (hs : s * bu + t * bv < ab k) : Big s F := by
  by_cases h : Big s F
  · exact h
  · exfalso
    have h1 := (hU.mul (not_big h)).add (hV.mul (not_big hG))
    rw [hk] at h1
    obtain ⟨h2, h3⟩ := h1
    unfold ab at hs
    split at hs <;> grind
theorem thr {R : Rat} (hR : 0 ≤ R) : ∀ {l : List (List Rat)}, ChR l → ∃ t : Rat, 0 < t ∧ ∀ x, Ab x R → TP t x l
  | [], h => h.elim
  | [f], ⟨k, hk, hf⟩ => ⟨ab k, pos_ab hk, fun x _ => by show Big (ab k) (value x f); rw [hf x]; exact big_ab k⟩
  | [f, g], ⟨k, hk, hf⟩ => ⟨ab k, pos_ab hk, fun x _ => by show Big (ab k) (value x g); rw [hf x]; exact big_ab k⟩
  | f :: g :: h :: l, ⟨⟨u, v, k, hk, huv⟩, ⟨Q, hQ⟩, hrest⟩ => by
    obtain ⟨t0, ht0, hT⟩ := thr hR hrest
    have bu := bnd_nonneg hR u
    have bv := bnd_nonneg hR v
    have bq := bnd_nonneg hR Q
    -- t with t * ((bq + 1) * bu + bv) < ab k
    obtain ⟨t1, ht1, hs1⟩ := small_pos (pos_ab hk) (B := (bnd R Q + 1) * bnd R u + bnd R v) (by
      have := Rat.mul_nonneg (show 0 ≤ bnd R Q + 1 by grind) bu
      grind)
    have hmin : ∃ t : Rat, 0 < t ∧ t ≤ t0 ∧ t ≤ t1 := by
      by_cases hle : t0 ≤ t1
      · exact ⟨t0, ht0, by grind, hle⟩
      · exact ⟨t1, ht1, by grind, by grind⟩
    obtain ⟨t, ht, hl0, hl1⟩ := hmin
    have hst : t * ((bnd R Q + 1) * bnd R u + bnd R v) < ab k := by
      have hB : 0 ≤ (bnd R Q + 1) * bnd R u + bnd R v := by
        have := Rat.mul_nonneg (show 0 ≤ bnd R Q + 1 by grind) bu
        grind
      have := Rat.mul_le_mul_of_nonneg_left hl1 hB
      grind
    refine ⟨t, ht, fun x hx => ?_⟩
    have hTx := (hT x hx).mono hl0
    have key : ¬ Big t (value x g) → Big (t * (bnd R Q + 1)) (value x f) := fun hn => pair_big (val_bnd hx u) (val_bnd hx v) (huv x) hn (by grind)
    have hmt : t ≤ t * (bnd R Q + 1) := by
      have := Rat.mul_nonneg (show 0 ≤ t by grind) bq
      grind
    refine ⟨?_, fun hn => ?_, hTx⟩
    · by_cases hg : Big t (value x g)
      · exact .inr hg
      · exact .inl ((key hg).mono hmt)
    · have h1 := key hn
      refine ⟨h1.mono hmt, ?_⟩
      have h2 := (val_bnd hx Q).mul (not_big hn)
      rw [← hQ x] at h2
      obtain ⟨h3, h4⟩ := h2
      have e1 : t * (bnd R Q + 1) = bnd R Q * t + t := by grind
      rw [e1] at h1
      rcases h1 with h1 | h1
      · -- f large above: h below 0
        have hf : 0 < value x f := by
          have := Rat.mul_nonneg bq (show 0 ≤ t by grind)
          grind
        have hh : 0 < - value x h := by grind
        have := (Rat.mul_pos_iff_of_pos_left hf).mpr hh
        grind
      · have hf : 0 < - value x f := by
          have := Rat.mul_nonneg bq (show 0 ≤ t by grind)
          grind
        have hh : 0 < value x h := by grind
        have := (Rat.mul_pos_iff_of_pos_left hf).mpr hh
        grind
/-- a step that is short enough -/
def ShortS (R t d : Rat) : List (List Rat) → Prop
  | [] => True
  | f :: l => d * lip R f < t ∧ ShortS R t d l
theorem short {R : Rat} (hR : 0 ≤ R) {t : Rat} (ht : 0 < t) (f0 : List Rat) : ∀ l : List (List Rat), ∃ d : Rat, 0 < d ∧ d * der R f0 < t ∧ ∀ e, 0 < e → e ≤ d → ShortS R t e l
  | [] => by
    obtain ⟨d, h1, h2⟩ := small_pos ht (der_nonneg hR f0)
    exact ⟨d, h1, h2, fun _ _ _ => trivial⟩
  | f :: l => by
    obtain ⟨d, h1, h2, h3⟩ := short hR ht f0 l
    obtain ⟨d', k1, k2⟩ := small_pos ht (lip_nonneg hR f)
    have hL := lip_nonneg hR f
    have hDn := der_nonneg hR f0
    have key : ∀ m, 0 < m → m ≤ d → m ≤ d' → m * der R f0 < t ∧ ∀ e, 0 < e → e ≤ m → ShortS R t e (f :: l) := by
      intro m hm hmd hmd'
      refine ⟨?_, fun e he hem => ⟨?_, h3 e he (by grind)⟩⟩
      · have := Rat.mul_le_mul_of_nonneg_left hmd hDn
        grind
      · have := Rat.mul_le_mul_of_nonneg_left (show e ≤ d' by grind) hL
        grind
    by_cases hle : d ≤ d'
    · obtain ⟨a, b⟩ := key d h1 (by grind) hle
      exact ⟨d, h1, a, b⟩
    · obtain ⟨a, b⟩ := key d' k1 (by grind) (by grind)
      exact ⟨d', k1, a, b⟩
theorem sign_sg (x : Rat) : Sg (Al03.ratSign x) := by
  unfold Al03.ratSign Sg
  split
  · exact .inr (.inl rfl)
  · split
    · exact .inl rfl
    · exact .inr (.inr rfl)
theorem sign_pos {x : Rat} (h : 0 < x) : Al03.ratSign x = 1 := by
  unfold Al03.ratSign
  rw [if_neg (by grind), if_neg (by grind)]
theorem sign_neg {x : Rat} (h : x < 0) : Al03.ratSign x = -1 := by
  unfold Al03.ratSign
  rw [if_neg (by grind), if_pos h]
theorem big_same {t v w : Rat} (ht : 0 < t) (hb : Big t v) {e : Rat} (hd : Ab (w - v) e) (he : e < t) : Al03.ratSign w = Al03.ratSign v ∧ Al03.ratSign v ≠ 0 ∧ (0 < v ↔ 0 < w) := by
  obtain ⟨h1, h2⟩ := hd
  rcases hb with h | h
  · have hv : 0 < v := by grind
    have hw : 0 < w := by grind
    rw [sign_pos hv, sign_pos hw]
    exact ⟨rfl, by decide, by grind⟩
  · have hv : v < 0 := by grind
    have hw : w < 0 := by grind
    rw [sign_neg hv, sign_neg hw]
    exact ⟨rfl, by decide, by grind⟩
def sgp (x y : Rat) (l : List (List Rat)) : List (Int × Int) := l.map fun f => (Al03.ratSign (value x f), Al03.ratSign (value y f))
theorem cell_tail {R t d x y : Rat} (ht : 0 < t) (hx : Ab x R) (hy : Ab y R) (hd : Ab (y - x) d) : ∀ {l : List (List Rat)} {f : List Rat}, TP t x (f :: l) → Big t (value x f) → ShortS R t d (f :: l) → CellT (sgp x y (f :: l))
  | [], f, _, hb, hs => by
    obtain ⟨e1, e2, _⟩ := big_same ht hb (val_lip hx hy hd f) hs.1
    show CellT [(Al03.ratSign (value x f), Al03.ratSign (value y f))]
    rw [e1]; exact .last (sign_sg _) e2
  | [g], f, hT, hb, hs => by
    obtain ⟨e1, e2, _⟩ := big_same ht hb (val_lip hx hy hd f) hs.1
    obtain ⟨g1, g2, _⟩ := big_same ht (show Big t (value x g) from hT) (val_lip hx hy hd g) hs.2.1
    show CellT [(Al03.ratSign (value x f), Al03.ratSign (value y f)), (Al03.ratSign (value x g), Al03.ratSign (value y g))]
    rw [e1, g1]; exact .same (sign_sg _) e2 (.last (sign_sg _) g2)
  | g :: h :: l, f, hT, hb, hs => by
    obtain ⟨e1, e2, _⟩ := big_same ht hb (val_lip hx hy hd f) hs.1
    by_cases hg : Big t (value x g)
    · have ih := cell_tail ht hx hy hd (l := h :: l) (f := g) hT.2.2 hg hs.2
      obtain ⟨g1, g2, _⟩ := big_same ht hg (val_lip hx hy hd g) hs.2.1
      show CellT ((Al03.ratSign (value x f), Al03.ratSign (value y f)) :: (Al03.ratSign (value x g), Al03.ratSign (value y g)) :: sgp x y (h :: l))
      have ih : CellT ((Al03.ratSign (value x g), Al03.ratSign (value y g)) :: sgp x y (h :: l)) := ih
      rw [g1] at ih ⊢
      rw [e1]
      exact .same (sign_sg _) e2 ih
    · obtain ⟨_, hopp⟩ := hT.2.1 hg
      have hh : Big t (value x h) := by
        have h3 := hT.2.2
        cases l with
        | nil => exact h3
        | cons i l => exact (h3.1).resolve_left hg
      have hTh : TP t x (h :: l) := by
        have h3 := hT.2.2
        cases l with
        | nil => exact hh
        | cons i l => exact h3.2.2
      have ih := cell_tail ht hx hy hd (l := l) (f := h) hTh hh hs.2.2
      obtain ⟨g1, g2, _⟩ := big_same ht hh (val_lip hx hy hd h) hs.2.2.1
      show CellT ((Al03.ratSign (value x f), Al03.ratSign (value y f)) :: (Al03.ratSign (value x g), Al03.ratSign (value y g)) :: (Al03.ratSign (value x h), Al03.ratSign (value y h)) :: sgp x y l)
      have ih : CellT ((Al03.ratSign (value x h), Al03.ratSign (value y h)) :: sgp x y l) := ih
      rw [g1] at ih ⊢
      rw [e1]
      refine .mid (sign_sg _) e2 ?_ (sign_sg _) (sign_sg _) ih
      rcases hb with hb | hb
      · have hf : 0 < value x f := by grind
        have hh2 : value x h < 0 := by
          by_cases h0 : value x h < 0
          · exact h0
          · have := Rat.mul_nonneg (show 0 ≤ value x f by grind) (show 0 ≤ value x h by grind)
            grind
        rw [sign_pos hf, sign_neg hh2]
      · have hf : value x f < 0 := by grind
        have hh2 : 0 < value x h := by
          by_cases h0 : 0 < value x h
          · exact h0
          · have := Rat.mul_nonneg (show 0 ≤ - value x f by grind) (show 0 ≤ - value x h by grind)
            grind
        rw [sign_neg hf, sign_pos hh2]; decide
theorem changesAt_vr (z : Rat) (l : List (List Rat)) : Al03.changesAt z l = vr (l.map fun f => Al03.ratSign (value z f)) := rfl
theorem sgp_fst (x y : Rat) (l : List (List Rat)) : (sgp x y l).map Prod.fst = l.map fun f => Al03.ratSign (value x f) := by unfold sgp; rw [List.map_map]; rfl
theorem sgp_snd (x y : Rat) (l : List (List Rat)) : (sgp x y l).map Prod.snd = l.map fun f => Al03.ratSign (value y f) := by unfold sgp; rw [List.map_map]; rfl
/-- one short step -/
theorem cell_step {R t d x y : Rat} (ht : 0 < t) (hx : Ab x R) (hy : Ab y R) (hxy : x < y) (hd : Ab (y - x) d) {f g : List Rat} {l : List (List Rat)} (hg : ∀ z, value z g = dv z f) (hT : TP t x (f :: g :: l)) (hs : ShortS R t d (f :: g :: l)) (hder : d * der R f < t) :
    Al03.changesAt y (f :: g :: l) ≤ Al03.changesAt x (f :: g :: l) ∧ (value y f = 0 → Al03.changesAt y (f :: g :: l) + 1 ≤ Al03.changesAt x (f :: g :: l)) := by
  rw [changesAt_vr, changesAt_vr]
  by_cases hf : Big t (value x f)
  · have hc := (cell_tail ht hx hy hd hT hf hs).eq
    rw [sgp_fst, sgp_snd] at hc
    obtain ⟨e1, e2, _⟩ := big_same ht hf (val_lip hx hy hd f) hs.1
    refine ⟨by omega, fun h0 => ?_⟩
    exfalso
    rw [h0] at e1
    exact e2 (by rw [← e1]; rfl)
  · have hgb : Big t (value x g) := by
      cases l with
      | nil => exact hT
      | cons h l => exact (hT.1).resolve_left hf
    have hTg : TP t x (g :: l) := by
      cases l with
      | nil => exact hgb
      | cons h l => exact hT.2.2
    have hc := cell_tail ht hx hy hd hTg hgb hs.2
    obtain ⟨g1, g2, g3⟩ := big_same ht hgb (val_lip hx hy hd g) hs.2.1
    have hc : CellT ((Al03.ratSign (value x g), Al03.ratSign (value y g)) :: sgp x y l) := hc
    rw [g1] at hc
    have hq := gq_dv hx hy hd f
    rw [← hg x] at hq
    obtain ⟨q1, q2⟩ := hq
    have hval := val_gq x y f
    have hpos : 0 < y - x := by grind
    have hstep : (0 < value x g → value x f < value y f) ∧ (value x g < 0 → value y f < value x f) := by
      refine ⟨fun h0 => ?_, fun h0 => ?_⟩
      · have h1 : t ≤ value x g := by
          rcases hgb with e | e
          · exact e
          · grind
        have h2 : 0 < gq x y f := by grind
        have := (Rat.mul_pos_iff_of_pos_left hpos).mpr h2
        grind
      · have h1 : value x g ≤ -t := by
          rcases hgb with e | e
          · grind
          · exact e
        have h2 : 0 < - gq x y f := by grind
        have := (Rat.mul_pos_iff_of_pos_left hpos).mpr h2
        grind
    have hcases : 0 < value x g ∨ value x g < 0 := by
      rcases hgb with e | e
      · exact .inl (by grind)
      · exact .inr (by grind)
    have ok : ((Al03.ratSign (value x f) = Al03.ratSign (value y f) ∧ Al03.ratSign (value x f) ≠ 0) ∨ Al03.ratSign (value x f) = - Al03.ratSign (value x g) ∨ (Al03.ratSign (value x f) ≠ - Al03.ratSign (value x g) ∧ Al03.ratSign (value y f) = Al03.ratSign (value x g))) ∧ (value y f = 0 → Al03.ratSign (value x f) = - Al03.ratSign (value x g)) := by
      rcases hcases with h0 | h0
      · rw [sign_pos h0]
        have h1 := hstep.1 h0
        by_cases hn : value x f < 0
        · rw [sign_neg hn]; exact ⟨.inr (.inl rfl), fun _ => rfl⟩
        · have hy0 : 0 < value y f := by grind
          refine ⟨.inr (.inr ⟨?_, sign_pos hy0⟩), fun e => by grind⟩
          intro e
          have hs2 := sign_sg (value x f)
          unfold Al03.ratSign at e
          split at e
          · exact absurd e (by decide)
          · first | exact absurd e (by decide) | (rw [if_neg hn] at e; exact absurd e (by decide))
      · rw [sign_neg h0]
        have h1 := hstep.2 h0
        by_cases hn : 0 < value x f
        · rw [sign_pos hn]; exact ⟨.inr (.inl rfl), fun _ => rfl⟩
        · have hy0 : value y f < 0 := by grind
          refine ⟨.inr (.inr ⟨?_, sign_neg hy0⟩), fun e => by grind⟩
          intro e
          unfold Al03.ratSign at e
          split at e
          · exact absurd e (by decide)
          · split at e
            · exact absurd e (by decide)
            · rename_i n1 n2
              have : 0 < value x f := by grind
              exact hn this
    have hm := cell_first hc (sign_sg (value x f)) (sign_sg (value y f)) ok.1
    rw [sgp_fst, sgp_snd] at hm
    have el : (f :: g :: l).map (fun f => Al03.ratSign (value y f)) = Al03.ratSign (value y f) :: Al03.ratSign (value x g) :: l.map fun f => Al03.ratSign (value y f) := by
      rw [List.map_cons, List.map_cons, g1]
    have el2 : (f :: g :: l).map (fun f => Al03.ratSign (value x f)) = Al03.ratSign (value x f) :: Al03.ratSign (value x g) :: l.map fun f => Al03.ratSign (value x f) := rfl
    rw [el, el2]
    refine ⟨hm.1, fun h0 => ?_⟩
    have := hm.2 (ok.2 h0) (by rw [h0]; rfl)
    omega
end Ma
/-! Over a whole stretch; Sturm's own row. -/
namespace Ma
open AlOne (value)
/-- **over a stretch** -/
theorem fall_many {R t d : Rat} (ht : 0 < t) (hd : 0 < d) {f g : List Rat} {l : List (List Rat)} (hg : ∀ z, value z g = dv z f) (hT : ∀ x, Ab x R → TP t x (f :: g :: l)) (hs : ∀ e, 0 < e → e ≤ d → ShortS R t e (f :: g :: l)) (hder : d * der R f < t) :
    ∀ (N : Nat) (x y : Rat), x < y → Ab x R → Ab y R → y - x ≤ ((N : Nat) : Rat) * d →
      Al03.changesAt y (f :: g :: l) ≤ Al03.changesAt x (f :: g :: l) ∧ (value y f = 0 → Al03.changesAt y (f :: g :: l) + 1 ≤ Al03.changesAt x (f :: g :: l))
  | 0, x, y, hxy, hx, hy, hN => by
    exfalso
    have : ((0 : Nat) : Rat) * d = 0 := by show (0 : Rat) * d = 0; grind
    rw [this] at hN
    grind
  | N + 1, x, y, hxy, hx, hy, hN => by
    by_cases h1 : y - x ≤ d
    · exact cell_step ht hx hy hxy (d := d) ⟨by grind, h1⟩ hg (hT x hx) (hs d hd (by grind)) hder
    · have hz : Ab (x + d) R := by
        obtain ⟨a1, a2⟩ := hx
        obtain ⟨b1, b2⟩ := hy
        constructor <;> grind
      have hc := cell_step ht hx hz (show x < x + d by grind) (d := d) ⟨by grind, by grind⟩ hg (hT x hx) (hs d hd (by grind)) hder
      have hN' : y - (x + d) ≤ ((N : Nat) : Rat) * d := by
        have e : ((N + 1 : Nat) : Rat) = ((N : Nat) : Rat) + 1 := by rw [Rat.natCast_add]; rfl
        rw [e] at hN
        grind
      have ih := fall_many ht hd hg hT hs hder N (x + d) y (by grind) hz hy hN'
      exact ⟨by omega, fun h0 => by have := ih.2 h0; omega⟩
theorem arch {a d : Rat} (hd : 0 < d) : ∃ N : Nat, a ≤ ((N : Nat) : Rat) * d := by
  have h1 : a / d * d = a := Rat.div_mul_cancel (by grind)
  refine ⟨(a / d).num.natAbs, ?_⟩
  have h2 : a / d ≤ (((a / d).num.natAbs : Nat) : Rat) := by
    generalize a / d = q
    have h3 := mul_den q
    have hd1 : (1 : Rat) ≤ (q.den : Rat) := by
      have : 1 ≤ q.den := Nat.pos_of_ne_zero q.den_nz
      exact_mod_cast this
    have h4 : (q.num : Rat) ≤ ((q.num.natAbs : Nat) : Rat) := by
      have : q.num ≤ ((q.num.natAbs : Nat) : Int) := by omega
      have := Rat.intCast_le_intCast.mpr this
      exact this
    have h5 : (0 : Rat) ≤ ((q.num.natAbs : Nat) : Rat) := by exact_mod_cast Nat.zero_le _
    by_cases hq : q ≤ 0
    · grind
    · have h6 : 0 ≤ q * ((q.den : Rat) - 1) := Rat.mul_nonneg (by grind) (by grind)
      grind
  have := Rat.mul_le_mul_of_nonneg_left h2 (show 0 ≤ d by grind)
  grind
theorem sturm_fall {f g : List Rat} {l : List (List Rat)} (hg : ∀ z, value z g = dv z f) (hC : ChR (f :: g :: l)) {a b : Rat} (hab : a < b) :
    Al03.changesAt b (f :: g :: l) ≤ Al03.changesAt a (f :: g :: l) ∧ (value b f = 0 → Al03.changesAt b (f :: g :: l) + 1 ≤ Al03.changesAt a (f :: g :: l)) := by
  have ha := ab_ab a
  have hb := ab_ab b
  have hR : 0 ≤ ab a + ab b := by
    have := ha.nonneg
    have := hb.nonneg
    grind
  have hxa : Ab a (ab a + ab b) := ha.mono (by have := hb.nonneg; grind)
  have hxb : Ab b (ab a + ab b) := hb.mono (by have := ha.nonneg; grind)
  generalize ab a + ab b = R at hR hxa hxb
  obtain ⟨t, ht, hT⟩ := thr hR hC
  obtain ⟨d, hd, hder, hs⟩ := short hR ht f (f :: g :: l)
  obtain ⟨N, hN⟩ := arch (a := b - a) hd
  exact fall_many ht hd hg hT hs hder N a b hab hxa hxb hN
/-! values of sums and products -/
theorem sval_addRaw (x : Rat) : ∀ p q : List Rat, value x (AlOne.addRaw p q) = value x p + value x q
  | [], q => by show value x q = 0 + value x q; grind
  | c :: p, [] => by show value x (c :: p) = value x (c :: p) + 0; grind
  | c :: p, d :: q => by
    have ih := sval_addRaw x p q
    show (c + d) + x * value x (AlOne.addRaw p q) = (c + x * value x p) + (d + x * value x q)
    rw [ih]; grind
theorem sval_add (x : Rat) (p q : List Rat) : value x (AlOne.add p q) = value x p + value x q := by
  unfold AlOne.add
  rw [sval_trim, sval_addRaw]
theorem val_scale (x c : Rat) (p : List Rat) : value x (AlOne.scale c p) = c * value x p := by
  unfold AlOne.scale
  rw [sval_trim]
  induction p with
  | nil => show (0 : Rat) = c * 0; grind
  | cons d p ih =>
    show c * d + x * value x (p.map fun y => c * y) = c * (d + x * value x p)
    rw [ih]; grind
theorem sval_mul (x : Rat) : ∀ p q : List Rat, value x (AlOne.mul p q) = value x p * value x q
  | [], q => by show (0 : Rat) = 0 * value x q; grind
  | c :: p, q => by
    have ih := sval_mul x p q
    rw [mul_cons]
    split
    · rename_i h
      rw [h] at ih
      rw [val_scale]
      have ih : (0 : Rat) = value x p * value x q := ih
      show c * value x q = (c + x * value x p) * value x q
      grind
    · rw [sval_add, val_scale]
      show c * value x q + (0 + x * value x (AlOne.mul p q)) = (c + x * value x p) * value x q
      rw [ih]; grind
theorem val_neg (x : Rat) (p : List Rat) : value x (AlOne.neg p) = - value x p := by
  unfold AlOne.neg
  rw [val_scale]; grind
namespace P
def v (p : P) (x : Rat) : Rat := value x p.1
theorem v_add (p q : P) (x : Rat) : (p + q).v x = p.v x + q.v x := Ma.sval_add x p.1 q.1
theorem v_mul (p q : P) (x : Rat) : (p * q).v x = p.v x * q.v x := Ma.sval_mul x p.1 q.1
theorem v_neg (p : P) (x : Rat) : (-p).v x = - p.v x := Ma.val_neg x p.1
theorem v_cst (a x : Rat) : (cst a).v x = a := by
  show value x (AlOne.trim [a]) = a
  rw [sval_trim]
  show a + x * 0 = a
  grind
end P
/-- nothing in common: some of the one and some of the other is a number -/
def Bez (p q : P) : Prop := ∃ (u w : P) (k : Rat), k ≠ 0 ∧ u * p + w * q = P.cst k
theorem const_of_mul {u p : P} {k : Rat} (hk : k ≠ 0) (h : u * p = P.cst k) : p ≠ 0 ∧ p.len = 1 := by
  have hc : (P.cst k) ≠ 0 := fun e => by
    have := P.len_cst hk
    rw [e, P.len_zero] at this; omega
  have hp : p ≠ 0 := fun e => hc (by rw [← h, e]; grind)
  have hu : u ≠ 0 := fun e => hc (by rw [← h, e]; grind)
  have h1 := P.len_mul hu hp
  rw [h, P.len_cst hk] at h1
  have := P.len_pos hp
  have := P.len_pos hu
  exact ⟨hp, by omega⟩
theorem const_val {p : P} (hp : p ≠ 0) (h : p.len = 1) : ∃ k : Rat, k ≠ 0 ∧ ∀ x, value x p.1 = k := by
  have e := P.eq_cst h
  refine ⟨p.ld, P.ld_ne hp, fun x => ?_⟩
  have := P.v_cst p.ld x
  rw [← e] at this
  exact this
theorem sturmFrom_nil (f : Nat) (q : List Rat) : Al03.sturmFrom f [] q = [] := by
  cases f with
  | zero => rfl
  | succ f => rfl
theorem sturmFrom_cons {f : Nat} {p : List Rat} (h : p ≠ []) (q : List Rat) : Al03.sturmFrom (f + 1) p q = p :: Al03.sturmFrom f q (AlOne.neg (AlOne.rest p q)) := by
  show (if p = [] then [] else p :: Al03.sturmFrom f q (AlOne.neg (AlOne.rest p q))) = _
  rw [if_neg h]
/-- **Sturm's row** -/
theorem sturm_row : ∀ (f : Nat) (p q : P), p ≠ 0 → q.len < p.len → p.len < f → Bez p q → ChR (Al03.sturmFrom f p.1 q.1)
  | 0, p, q, _, _, hf, _ => by omega
  | f + 1, p, q, hp, hqp, hf, hB => by
    have hp1 : p.1 ≠ [] := fun e => hp (P.eq_zero_iff.mpr e)
    rw [sturmFrom_cons hp1]
    obtain ⟨u, w, k, hk, huw⟩ := hB
    by_cases hq : q = 0
    · have hq1 : q.1 = [] := P.eq_zero_iff.mp hq
      rw [hq1, sturmFrom_nil]
      have h1 : u * p = P.cst k := by rw [← huw, hq]; grind
      obtain ⟨h2, h3⟩ := const_of_mul hk h1
      exact const_val h2 h3
    · have hq1 : q.1 ≠ [] := fun e => hq (P.eq_zero_iff.mpr e)
      obtain ⟨s, r, h1, h2, h3⟩ := divMod_spec p q hq
      have hr : AlOne.rest p.1 q.1 = r.1 := by unfold AlOne.rest; rw [h1]
      rw [hr]
      have hn : AlOne.neg r.1 = (-r).1 := rfl
      rw [hn]
      have hlr : (-r).len < q.len := by
        have : (-r).len ≤ r.len := by
          have e : -r = 0 - r := by grind
          rw [e]
          have := P.len_sub 0 r
          rw [P.len_zero] at this
          omega
        omega
      have hB2 : Bez q (-r) := ⟨u * s + w, -u, k, hk, by rw [← huw, h2]; grind⟩
      have ih := sturm_row f q (-r) hq hlr (by omega) hB2
      obtain ⟨f', rfl⟩ : ∃ f', f = f' + 1 := ⟨f - 1, by omega⟩
      rw [sturmFrom_cons hq1] at ih ⊢
      by_cases hr0 : -r = 0
      · have hr1 : (-r).1 = [] := P.eq_zero_iff.mp hr0
        rw [hr1, sturmFrom_nil] at ih ⊢
        exact ih
      · have hr1 : (-r).1 ≠ [] := fun e => hr0 (P.eq_zero_iff.mpr e)
        obtain ⟨f'', rfl⟩ : ∃ f'', f' = f'' + 1 := ⟨f' - 1, by have := P.len_pos hr0; omega⟩
        rw [sturmFrom_cons hr1] at ih ⊢
        refine ⟨⟨u.1, w.1, k, hk, fun x => ?_⟩, ⟨s.1, fun x => ?_⟩, ih⟩
        · have := congrArg (fun z : P => z.v x) huw
          have : (u * p + w * q).v x = (P.cst k).v x := this
          rw [P.v_add, P.v_mul, P.v_mul, P.v_cst] at this
          exact this
        · have h4 : p + -r = s * q := by rw [h2]; grind
          have := congrArg (fun z : P => z.v x) h4
          have : (p + -r).v x = (s * q).v x := this
          rw [P.v_add, P.v_mul] at this
          exact this
end Ma
/-! Slopes as polynomials; without powers there's nothing in common with the slope. -/
namespace Ma
open P
theorem co_slopeFrom : ∀ (l : List Rat) (n i : Nat), co (AlOne.slopeFrom n l) i = ((n + i : Nat) : Rat) * co l i
  | [], n, i => by show co [] i = _ * co [] i; rw [co_nil]; grind
  | c :: l, n, 0 => by
    show co (((n : Nat) : Rat) * c :: AlOne.slopeFrom (n + 1) l) 0 = _ * co (c :: l) 0
    rw [co_zero, co_zero]; rfl
  | c :: l, n, i + 1 => by
    show co (((n : Nat) : Rat) * c :: AlOne.slopeFrom (n + 1) l) (i + 1) = _ * co (c :: l) (i + 1)
    rw [co_succ, co_succ, co_slopeFrom l (n + 1) i, show n + 1 + i = n + (i + 1) by omega]
theorem co_slope (p : List Rat) (i : Nat) : co (AlOne.slope p) i = ((i + 1 : Nat) : Rat) * co p (i + 1) := by
  unfold AlOne.slope
  rw [co_trim, co_slopeFrom]
  cases p with
  | nil => show _ * co [] i = _ * co [] (i + 1); rw [co_nil, co_nil]; grind
  | cons c p =>
    show _ * co p i = _ * co (c :: p) (i + 1)
    rw [co_succ, Nat.add_comm]
def Dp (p : P) : P := ⟨AlOne.slope p.1, tr_trim _⟩
theorem c_Dp (p : P) (i : Nat) : (Dp p).c i = ((i + 1 : Nat) : Rat) * p.c (i + 1) := co_slope p.1 i
theorem Dp_add (p q : P) : Dp (p + q) = Dp p + Dp q := ext' fun i => by rw [c_add, c_Dp, c_Dp, c_Dp, c_add]; grind
theorem delta_succ (i : Nat) : delta (i + 1) = 0 := rfl
theorem Dp_cst (a : Rat) : Dp (cst a) = 0 := ext' fun i => by
  rw [c_Dp, c_cst, delta_succ]
  show _ = (cst ((0 : Nat) : Rat)).c i
  rw [c_cst]
  show _ * (a * 0) = 0 * delta i
  grind
theorem c_X1 (p : P) : (X 1 * p).c 0 = 0 ∧ ∀ i, (X 1 * p).c (i + 1) = p.c i := by
  refine ⟨?_, fun i => ?_⟩
  · rw [c_mul]; show 0 * p.c 0 + 0 = (0 : Rat); grind
  · rw [c_mul]
    show 0 * p.c (i + 1) + M [1] p.c i = p.c i
    have : M [1] p.c i = p.c i := by
      show 1 * p.c i + sh (M [] p.c) i = p.c i
      cases i with
      | zero => show 1 * p.c 0 + 0 = _; grind
      | succ i => show 1 * p.c (i + 1) + 0 = _; grind
    rw [this]; grind
theorem Dp_X1 (p : P) : Dp (X 1 * p) = p + X 1 * Dp p := ext' fun i => by
  obtain ⟨h1, h2⟩ := c_X1 p
  obtain ⟨h3, h4⟩ := c_X1 (Dp p)
  rw [c_Dp, c_add, h2]
  cases i with
  | zero => rw [h3]; show (1 : Rat) * p.c 0 = p.c 0 + 0; grind
  | succ i =>
    rw [h4, c_Dp]
    have e : ((i + 1 + 1 : Nat) : Rat) = ((i + 1 : Nat) : Rat) + 1 := by rw [Rat.natCast_add]; rfl
    rw [e]; grind
theorem Dp_cmul (a : Rat) (p : P) : Dp (cst a * p) = cst a * Dp p := ext' fun i => by
  have e : cst a * p = p * cst a := by grind
  have e2 : cst a * Dp p = Dp p * cst a := by grind
  rw [e, e2, c_Dp, mul_cst, mul_cst, c_Dp]; grind
theorem parts {p : P} (hp : p ≠ 0) : ∃ (a : Rat) (q : P), p = cst a + X 1 * q ∧ q.len < p.len := by
  obtain ⟨l, hl⟩ := p
  cases l with
  | nil => exact absurd (P.eq_zero_iff.mpr rfl) hp
  | cons a l =>
    refine ⟨a, ⟨l, tr_tail hl⟩, ext' fun i => ?_, by show l.length < (a :: l).length; simp⟩
    obtain ⟨h1, h2⟩ := c_X1 ⟨l, tr_tail hl⟩
    rw [c_add, c_cst]
    cases i with
    | zero => rw [h1]; show co (a :: l) 0 = a * 1 + 0; rw [co_zero]; grind
    | succ i => rw [h2, delta_succ]; show co (a :: l) (i + 1) = a * 0 + co l i; rw [co_succ]; grind
/-- the slope of a product -/
theorem Dp_mul : ∀ (n : Nat) (p q : P), p.len ≤ n → Dp (p * q) = Dp p * q + p * Dp q
  | 0, p, q, h => by
    have : p = 0 := P.eq_zero_iff.mpr (List.eq_nil_of_length_eq_zero (by have : p.1.length ≤ 0 := h; omega))
    subst this
    have h0 : Dp 0 = 0 := Dp_cst 0
    have e : (0 : P) * q = 0 := by grind
    rw [e, h0]; grind
  | n + 1, p, q, h => by
    by_cases hp : p = 0
    · exact Dp_mul n p q (by rw [hp, P.len_zero]; omega)
    · obtain ⟨a, r, e, hr⟩ := parts hp
      have ih := Dp_mul n r q (by omega)
      have e1 : p * q = cst a * q + X 1 * (r * q) := by rw [e]; grind
      have e2 : Dp p = r + X 1 * Dp r := by
        rw [e, Dp_add, Dp_cst, Dp_X1]; grind
      rw [e1, Dp_add, Dp_cmul, Dp_X1, ih, e2, e]; grind
theorem Dp_prod (p q : P) : Dp (p * q) = Dp p * q + p * Dp q := Dp_mul p.len p q (Nat.le_refl _)
theorem Dp_len {p : P} (h : 2 ≤ p.len) : Dp p ≠ 0 ∧ (Dp p).len < p.len := by
  have hp : p ≠ 0 := fun e => by rw [e, P.len_zero] at h; omega
  have hl := P.ld_ne hp
  have hld : p.ld = p.c (p.len - 1) := lead_eq p.1
  have hc : (Dp p).c (p.len - 2) ≠ 0 := by
    rw [c_Dp, show p.len - 2 + 1 = p.len - 1 by omega, ← hld]
    intro e
    rcases Rat.mul_eq_zero.mp e with e | e
    · have : p.len - 1 = 0 := by exact_mod_cast e
      omega
    · exact hl e
  have hz : ∀ i, p.len - 1 ≤ i → (Dp p).c i = 0 := fun i hi => by
    rw [c_Dp]
    have : p.c (i + 1) = 0 := co_ge (by show p.1.length ≤ i + 1; have : p.1.length = p.len := rfl; omega)
    rw [this]; grind
  refine ⟨fun e => hc ?_, ?_⟩
  · rw [e]; show co (0 : P).1 _ = 0; rw [P.zero_val, co_nil]
  · have := len_le (Dp p).2 hz
    have e : (Dp p).len = (Dp p).1.length := rfl
    omega
/-! what two have in common, as a sum of them -/
theorem bez_gcd : ∀ (n : Nat) (p q : P), q.len ≤ n → ∃ u w : P, P.Dvd (u * p + w * q) p ∧ P.Dvd (u * p + w * q) q
  | 0, p, q, h => by
    have : q = 0 := P.eq_zero_iff.mpr (List.eq_nil_of_length_eq_zero (by have : q.1.length ≤ 0 := h; omega))
    subst this
    refine ⟨1, 0, ⟨1, by grind⟩, ⟨0, by grind⟩⟩
  | n + 1, p, q, h => by
    by_cases hq : q = 0
    · exact bez_gcd n p q (by rw [hq, P.len_zero]; omega)
    · obtain ⟨s, r, _, e, hr⟩ := divMod_spec p q hq
      obtain ⟨u, w, h1, h2⟩ := bez_gcd n q r (by omega)
      have e2 : w * p + (u - w * s) * q = u * q + w * r := by rw [e]; grind
      refine ⟨w, u - w * s, ?_, ?_⟩
      · rw [e2]
        have := (h1.mul s).add h2
        rw [← e] at this
        exact this
      · rw [e2]; exact h1
theorem scst_mul (a b : Rat) : cst a * cst b = cst (a * b) := ext' fun i => by
  rw [mul_cst, c_cst, c_cst]; grind
theorem cst_one : cst 1 = 1 := ext' fun i => rfl
/-- nothing but numbers and itself goes into it -/
structure Irr (h : P) : Prop where
  big : 2 ≤ h.len
  only : ∀ d, P.Dvd d h → d.len ≤ 1 ∨ h.len ≤ d.len
theorem irr_in : ∀ (n : Nat) (h : P), h.len ≤ n → 2 ≤ h.len → ∃ d, Irr d ∧ P.Dvd d h
  | 0, h, h1, h2 => by omega
  | n + 1, h, h1, h2 => by
    by_cases hex : ∃ d, P.Dvd d h ∧ 2 ≤ d.len ∧ d.len < h.len
    · obtain ⟨d, a, b, c⟩ := hex
      obtain ⟨e, e1, e2⟩ := irr_in n d (by omega) b
      exact ⟨e, e1, e2.trans a⟩
    · refine ⟨h, ⟨h2, fun d hd => ?_⟩, P.Dvd.refl h⟩
      by_cases h3 : d.len ≤ 1
      · exact .inl h3
      · by_cases h4 : h.len ≤ d.len
        · exact .inr h4
        · exact absurd ⟨d, hd, by omega, by omega⟩ hex
theorem Irr.ne {h : P} (hi : Irr h) : h ≠ 0 := fun e => by
  have := hi.big
  rw [e, P.len_zero] at this; omega
theorem cst_unit {g : P} (hg : g.len = 1) (h0 : g ≠ 0) : ∃ i : P, g * i = 1 := by
  have e := P.eq_cst hg
  refine ⟨cst (1 / g.ld), ?_⟩
  have hl := P.ld_ne h0
  rw [e, scst_mul, ← cst_one]
  congr 1
  rw [P.ld_cst]
  have : 1 / g.ld * g.ld = 1 := Rat.div_mul_cancel hl
  grind
theorem Irr.prime {h : P} (hi : Irr h) {a b : P} (hd : P.Dvd h (a * b)) : P.Dvd h a ∨ P.Dvd h b := by
  obtain ⟨u, w, g1, g2⟩ := bez_gcd a.len h a (Nat.le_refl _)
  have hg0 : u * h + w * a ≠ 0 := fun e => by
    rw [e] at g1
    exact hi.ne g1.of_zero
  rcases hi.only _ g1 with h1 | h1
  · right
    obtain ⟨i, hi1⟩ := cst_unit (g := u * h + w * a) (by have := P.len_pos hg0; omega) hg0
    obtain ⟨c, hc⟩ := hd
    refine ⟨(u * b + w * c) * i, ?_⟩
    have e1 : h * ((u * b + w * c) * i) = (u * h + w * a) * i * b := by
      have : h * c = a * b := hc.symm
      calc h * ((u * b + w * c) * i) = (u * h * b + w * (h * c)) * i := by grind
        _ = (u * h + w * a) * i * b := by rw [this]; grind
    rw [e1, hi1]; grind
  · left
    obtain ⟨c, hc⟩ := g1
    have hc0 : c ≠ 0 := fun e => hi.ne (by rw [hc, e]; grind)
    have hl := P.len_mul hg0 hc0
    rw [← hc] at hl
    have hcl : c.len = 1 := by
      have := P.len_pos hc0
      have := P.len_pos hg0
      omega
    obtain ⟨i, hi1⟩ := cst_unit hcl hc0
    have hdg : P.Dvd h (u * h + w * a) := ⟨i, by
      have : h * i = (u * h + w * a) * (c * i) := by
        calc h * i = ((u * h + w * a) * c) * i := by rw [← hc]
          _ = (u * h + w * a) * (c * i) := by grind
      rw [this, hi1]; grind⟩
    exact hdg.trans g2
theorem Irr.slope {h : P} (hi : Irr h) : ¬ P.Dvd h (Dp h) := fun hd => by
  obtain ⟨h1, h2⟩ := Dp_len hi.big
  have := hd.len h1
  omega
/-- so many times -/
def pw (h : P) : Nat → P
  | 0 => 1
  | k + 1 => pw h k * h
theorem pw_ne {h : P} (hh : h ≠ 0) : ∀ k, pw h k ≠ 0
  | 0 => P.one_ne
  | k + 1 => P.mul_ne_zero (pw_ne hh k) hh
theorem Dp_pw (h : P) : ∀ k, Dp (pw h (k + 1)) = cst ((k + 1 : Nat) : Rat) * pw h k * Dp h
  | 0 => by
    show Dp (1 * h) = cst ((1 : Nat) : Rat) * 1 * Dp h
    have e : (1 : P) * h = h := by grind
    have e2 : cst ((1 : Nat) : Rat) = 1 := cst_one
    rw [e, e2]; grind
  | k + 1 => by
    have ih := Dp_pw h k
    show Dp (pw h (k + 1) * h) = cst ((k + 1 + 1 : Nat) : Rat) * (pw h k * h) * Dp h
    rw [Dp_prod, ih]
    have e : cst ((k + 1 + 1 : Nat) : Rat) = cst ((k + 1 : Nat) : Rat) + 1 := by
      rw [← cst_one]
      exact ext' fun i => by
        rw [c_add, c_cst, c_cst, c_cst, Rat.natCast_add]
        show (((k + 1 : Nat) : Rat) + 1) * delta i = _
        grind
    rw [e]
    show cst ((k + 1 : Nat) : Rat) * pw h k * Dp h * h + pw h k * h * Dp h = _
    grind
theorem most {h : P} (hi : Irr h) : ∀ (n : Nat) (p : P), p.len ≤ n → p ≠ 0 → ∃ k s, p = pw h k * s ∧ ¬ P.Dvd h s
  | 0, p, h1, h2 => by have := P.len_pos h2; omega
  | n + 1, p, h1, h2 => by
    by_cases hd : P.Dvd h p
    · obtain ⟨q, hq⟩ := hd
      have hq0 : q ≠ 0 := fun e => h2 (by rw [hq, e]; grind)
      have hl := P.len_mul hi.ne hq0
      rw [← hq] at hl
      have := hi.big
      have := P.len_pos hq0
      obtain ⟨k, s, e1, e2⟩ := most hi n q (by omega) hq0
      refine ⟨k + 1, s, ?_, e2⟩
      rw [hq, e1]
      show h * (pw h k * s) = pw h k * h * s
      grind
    · exact ⟨0, p, by show p = 1 * p; grind, hd⟩
/-- **p without its powers**: each part that's in p is in it, once -/
theorem once {p g q : P} (hp : p ≠ 0) (hg : IsCommon p (Dp p) g) (hq : p = g * q) {h : P} (hi : Irr h) (hd : P.Dvd h p) : P.Dvd h q ∧ ¬ P.Dvd (h * h) q := by
  obtain ⟨k, s, e1, e2⟩ := most hi p.len p (Nat.le_refl _) hp
  cases k with
  | zero =>
    exfalso
    apply e2
    have : pw h 0 * s = s := by show (1 : P) * s = s; grind
    rw [this] at e1
    rw [← e1]; exact hd
  | succ k =>
    have hk0 := pw_ne hi.ne k
    have hk1 : cst ((k + 1 : Nat) : Rat) ≠ 0 := fun e => by
      have h1 : ((k + 1 : Nat) : Rat) ≠ 0 := fun e => by
        have : k + 1 = 0 := by exact_mod_cast e
        omega
      have := P.len_cst h1
      rw [e, P.len_zero] at this; omega
    have hDp : Dp p = pw h k * (cst ((k + 1 : Nat) : Rat) * Dp h * s + h * Dp s) := by
      rw [e1, Dp_prod, Dp_pw]
      show _ + pw h k * h * Dp s = _
      grind
    have hno : ¬ P.Dvd h (cst ((k + 1 : Nat) : Rat) * Dp h * s + h * Dp s) := fun hx => by
      have h1 : P.Dvd h (cst ((k + 1 : Nat) : Rat) * Dp h * s) := by
        have h2 : P.Dvd h (h * Dp s) := ⟨Dp s, rfl⟩
        have := hx.sub h2
        have e : cst ((k + 1 : Nat) : Rat) * Dp h * s + h * Dp s - h * Dp s = cst ((k + 1 : Nat) : Rat) * Dp h * s := by grind
        rw [e] at this; exact this
      rcases hi.prime h1 with h2 | h2
      · rcases hi.prime h2 with h3 | h3
        · have := h3.len hk1
          have h4 := P.len_cst (a := ((k + 1 : Nat) : Rat)) (fun e => by
            have : k + 1 = 0 := by exact_mod_cast e
            omega)
          have := hi.big
          omega
        · exact hi.slope h3
      · exact e2 h2
    obtain ⟨g1, hg1⟩ : P.Dvd (pw h k) g := hg.all _ ⟨h * s, by rw [e1]; show pw h k * h * s = _; grind⟩ ⟨_, hDp⟩
    have hrel : h * s = g1 * q := by
      refine P.mul_cancel hk0 ?_
      have h1 : pw h k * (g1 * q) = p := by
        calc pw h k * (g1 * q) = (pw h k * g1) * q := by grind
          _ = p := by rw [← hg1, ← hq]
      rw [h1, e1]
      show _ = pw h k * h * s
      grind
    have hng : ¬ P.Dvd h g1 := fun ⟨g2, hg2⟩ => by
      obtain ⟨c, hc⟩ := hg.right
      apply hno
      refine ⟨g2 * c, P.mul_cancel hk0 ?_⟩
      rw [← hDp, hc, hg1, hg2]; grind
    refine ⟨(hi.prime (show P.Dvd h (g1 * q) from ⟨s, hrel.symm⟩)).resolve_left hng, fun ⟨q2, hq2⟩ => e2 ⟨g1 * q2, P.mul_cancel hi.ne ?_⟩⟩
    rw [hrel, hq2]; grind
theorem bez_once {p g q : P} (hp : p ≠ 0) (hg : IsCommon p (Dp p) g) (hq : p = g * q) : Bez q (Dp q) := by
  have hq0 : q ≠ 0 := fun e => hp (by rw [hq, e]; grind)
  obtain ⟨u, w, h1, h2⟩ := bez_gcd (Dp q).len q (Dp q) (Nat.le_refl _)
  have hc0 : u * q + w * Dp q ≠ 0 := fun e => by
    rw [e] at h1
    exact hq0 h1.of_zero
  by_cases hl : (u * q + w * Dp q).len = 1
  · have e := P.eq_cst hl
    exact ⟨u, w, _, P.ld_ne hc0, e⟩
  · exfalso
    have hl2 : 2 ≤ (u * q + w * Dp q).len := by have := P.len_pos hc0; omega
    obtain ⟨h, hi, hd⟩ := irr_in _ _ (Nat.le_refl _) hl2
    have hdq := hd.trans h1
    have hdD := hd.trans h2
    have hdp : P.Dvd h p := by rw [hq]; exact hdq.mul g
    apply (once hp hg hq hi hdp).2
    obtain ⟨t, ht⟩ := hdq
    have h3 : P.Dvd h (Dp h * t) := by
      have h4 : P.Dvd h (h * Dp t) := ⟨Dp t, rfl⟩
      have h5 : Dp q = Dp h * t + h * Dp t := by rw [ht, Dp_prod]
      rw [h5] at hdD
      have := hdD.sub h4
      have e : Dp h * t + h * Dp t - h * Dp t = Dp h * t := by grind
      rw [e] at this; exact this
    obtain ⟨c, hc⟩ := (hi.prime h3).resolve_left hi.slope
    exact ⟨c, by rw [ht, hc]; grind⟩
end Ma
/-! No change of sign: no root. Whole roots. -/
namespace Ma
open P
open AlOne (value)
/-- x less r -/
def xr (r : Rat) : P := ⟨[-r, 1], tr_cons (tr_cons tr_nil (fun _ => by decide)) (fun h => by cases h)⟩
theorem xr_len (r : Rat) : (xr r).len = 2 := rfl
theorem xr_irr (r : Rat) : Irr (xr r) := ⟨by rw [xr_len]; omega, fun d _ => by rw [xr_len]; omega⟩
theorem xr_v (r x : Rat) : (xr r).v x = x - r := by
  show -r + x * (1 + x * 0) = x - r
  grind
theorem xr_dvd {p : P} {r : Rat} (h : value r p.1 = 0) : P.Dvd (xr r) p := by
  obtain ⟨s, m, _, e, hm⟩ := divMod_spec p (xr r) (xr_irr r).ne
  have h1 : p.v r = 0 := h
  rw [e, v_add, v_mul, xr_v] at h1
  have h2 : m.v r = 0 := by grind
  have hm0 : m = 0 := by
    by_cases h0 : m = 0
    · exact h0
    · have hl : m.len = 1 := by
        have := P.len_pos h0
        rw [xr_len] at hm
        omega
      obtain ⟨k, hk, hv⟩ := const_val h0 hl
      exact absurd ((hv r).symm.trans h2) hk
  exact ⟨s, by rw [e, hm0]; grind⟩
theorem dvd_xr {p : P} {r : Rat} (h : P.Dvd (xr r) p) : value r p.1 = 0 := by
  obtain ⟨s, e⟩ := h
  show p.v r = 0
  rw [e, v_mul, xr_v]; grind
/-- **no change of sign: no root** -/
theorem no_root {p : P} (hp : p ≠ 0) {a b : Rat} (h : Al03.between p.1 a b = 0) {r : Rat} (har : a < r) (hrb : r ≤ b) : value r p.1 ≠ 0 := by
  intro hr
  have hg := com_spec p (Dp p)
  have hg0 : com p (Dp p) ≠ 0 := fun e => by
    have := hg.left
    rw [e] at this
    exact hp this.of_zero
  obtain ⟨q, hq⟩ := hg.left
  have hq0 : q ≠ 0 := fun e => hp (by rw [hq, e]; grind)
  have hov : AlOne.over p.1 (AlOne.common p.1 (AlOne.slope p.1)) = q.1 := by
    show AlOne.over p.1 (com p (Dp p)).1 = q.1
    have e : p = q * com p (Dp p) := by
      calc p = com p (Dp p) * q := hq
        _ = q * com p (Dp p) := by grind
    have := over_mul q (com p (Dp p)) hg0
    rw [← e] at this
    exact this
  have hB := bez_once hp hg hq
  obtain ⟨hdq, _⟩ := once hp hg hq (xr_irr r) (xr_dvd hr)
  have hrq := dvd_xr hdq
  have hlq : 2 ≤ q.len := by
    have := hdq.len hq0
    rw [xr_len] at this; exact this
  obtain ⟨hD0, hDl⟩ := Dp_len hlq
  have hC := sturm_row (q.1.length + 1) q (Dp q) hq0 hDl (by have : q.len = q.1.length := rfl; omega) hB
  have hq1 : q.1 ≠ [] := fun e => hq0 (P.eq_zero_iff.mpr e)
  have hD1 : (Dp q).1 ≠ [] := fun e => hD0 (P.eq_zero_iff.mpr e)
  obtain ⟨k, hk⟩ : ∃ k, q.1.length = k + 1 := ⟨q.1.length - 1, by have : q.len = q.1.length := rfl; omega⟩
  unfold Al03.between at h
  rw [hov] at h
  have h : Al03.changesAt a (Al03.sturmFrom (q.1.length + 1) q.1 (Dp q).1) - Al03.changesAt b (Al03.sturmFrom (q.1.length + 1) q.1 (Dp q).1) = 0 := h
  rw [sturmFrom_cons hq1, hk, sturmFrom_cons hD1] at h hC
  have hsl : ∀ z, value z (Dp q).1 = dv z q.1 := fun z => val_slope z q.1
  have h1 := (sturm_fall hsl hC har).2 hrq
  have h2 : Al03.changesAt b (q.1 :: (Dp q).1 :: Al03.sturmFrom k (AlOne.neg (AlOne.rest q.1 (Dp q).1)) (AlOne.neg (AlOne.rest (Dp q).1 (AlOne.neg (AlOne.rest q.1 (Dp q).1))))) ≤ Al03.changesAt r (q.1 :: (Dp q).1 :: Al03.sturmFrom k (AlOne.neg (AlOne.rest q.1 (Dp q).1)) (AlOne.neg (AlOne.rest (Dp q).1 (AlOne.neg (AlOne.rest q.1 (Dp q).1))))) := by
    by_cases e : r = b
    · rw [e]; exact Nat.le_refl _
    · exact (sturm_fall hsl hC (show r < b by grind)).1
  omega
theorem int_lt {a b : Int} (h : a < b) : (a : Rat) < (b : Rat) := by exact_mod_cast h
theorem int_le {a b : Int} (h : a ≤ b) : (a : Rat) ≤ (b : Rat) := by exact_mod_cast h
/-- **the whole roots above lo, up to lo + 2^f** -/
theorem whole_spec {p : P} (hp : p ≠ 0) : ∀ (f : Nat) (lo : Int), (Al03.wholeFrom p.1 f lo).Pairwise (· < ·) ∧ ∀ z : Int, z ∈ Al03.wholeFrom p.1 f lo ↔ (lo < z ∧ z ≤ lo + 2 ^ f ∧ value (z : Rat) p.1 = 0)
  | 0, lo => by
    show (if value ((lo + 1 : Int) : Rat) p.1 = 0 then [lo + 1] else []).Pairwise (· < ·) ∧ ∀ z : Int, z ∈ (if value ((lo + 1 : Int) : Rat) p.1 = 0 then [lo + 1] else []) ↔ _
    split
    · rename_i h
      refine ⟨List.pairwise_singleton _ _, fun z => ?_⟩
      rw [List.mem_singleton]
      constructor
      · intro e; subst e; exact ⟨by omega, by omega, h⟩
      · rintro ⟨h1, h2, _⟩
        have : (2 : Int) ^ 0 = 1 := rfl
        omega
    · rename_i h
      refine ⟨.nil, fun z => ?_⟩
      constructor
      · intro e; cases e
      · rintro ⟨h1, h2, h3⟩
        have : (2 : Int) ^ 0 = 1 := rfl
        have e : z = lo + 1 := by omega
        subst e
        exact absurd h3 h
  | f + 1, lo => by
    have ih1 := whole_spec hp f lo
    have ih2 := whole_spec hp f (lo + 2 ^ f)
    have hpow : (2 : Int) ^ (f + 1) = 2 ^ f + 2 ^ f := by rw [Int.pow_succ]; omega
    have hpos : (0 : Int) < 2 ^ f := Int.pow_pos (by decide)
    show (if Al03.between p.1 (lo : Rat) ((lo + 2 ^ (f + 1) : Int) : Rat) = 0 then [] else Al03.wholeFrom p.1 f lo ++ Al03.wholeFrom p.1 f (lo + 2 ^ f)).Pairwise (· < ·) ∧ ∀ z : Int, z ∈ (if Al03.between p.1 (lo : Rat) ((lo + 2 ^ (f + 1) : Int) : Rat) = 0 then [] else Al03.wholeFrom p.1 f lo ++ Al03.wholeFrom p.1 f (lo + 2 ^ f)) ↔ _
    split
    · rename_i h
      refine ⟨.nil, fun z => ?_⟩
      constructor
      · intro e; cases e
      · rintro ⟨h1, h2, h3⟩
        exact absurd h3 (no_root hp h (int_lt h1) (int_le h2))
    · refine ⟨List.pairwise_append.mpr ⟨ih1.1, ih2.1, fun x hx y hy => ?_⟩, fun z => ?_⟩
      · have := (ih1.2 x).mp hx
        have := (ih2.2 y).mp hy
        omega
      · rw [List.mem_append, ih1.2, ih2.2]
        constructor
        · rintro (⟨h1, h2, h3⟩ | ⟨h1, h2, h3⟩)
          · exact ⟨h1, by omega, h3⟩
          · exact ⟨by omega, by omega, h3⟩
        · rintro ⟨h1, h2, h3⟩
          by_cases hz : z ≤ lo + 2 ^ f
          · exact .inl ⟨h1, hz, h3⟩
          · exact .inr ⟨by omega, by omega, h3⟩
end Ma
/-! The roots that are fractions. -/
namespace Ma
open P
open AlOne (value)
def IsZ (x : Rat) : Prop := ∃ z : Int, x = (z : Rat)
theorem IsZ.add {x y : Rat} (h : IsZ x) (h' : IsZ y) : IsZ (x + y) := by
  obtain ⟨a, rfl⟩ := h
  obtain ⟨b, rfl⟩ := h'
  exact ⟨a + b, by rw [Rat.intCast_add]⟩
theorem IsZ.mul {x y : Rat} (h : IsZ x) (h' : IsZ y) : IsZ (x * y) := by
  obtain ⟨a, rfl⟩ := h
  obtain ⟨b, rfl⟩ := h'
  exact ⟨a * b, by rw [Rat.intCast_mul]⟩
/-- ends with 1 -/
def Mo : List Rat → Prop
  | [] => False
  | [c] => c = 1
  | _ :: d :: l => Mo (d :: l)
/-- **a root of whole numbers with 1 on top is whole** -/
theorem mo_mod {y : Rat} : ∀ (l : List Rat), Mo l → (∀ c ∈ l, IsZ c) → ∃ z : Int, value y l * ((y.den ^ (l.length - 1) : Nat) : Rat) = (z : Rat) ∧ (y.den : Int) ∣ z - y.num ^ (l.length - 1)
  | [], h, _ => h.elim
  | [c], h, _ => by
    have h : c = 1 := h
    refine ⟨1, ?_, ?_⟩
    · show (c + y * 0) * ((y.den ^ 0 : Nat) : Rat) = ((1 : Int) : Rat)
      rw [h, Nat.pow_zero]
      show ((1 : Rat) + y * 0) * 1 = 1
      grind
    · show (y.den : Int) ∣ 1 - y.num ^ 0
      rw [Int.pow_zero]
      exact ⟨0, by omega⟩
  | c :: d :: l, h, hz => by
    obtain ⟨z, h1, h2⟩ := mo_mod (d :: l) h (fun e he => hz e (List.mem_cons_of_mem _ he))
    obtain ⟨w, hw⟩ := hz c List.mem_cons_self
    have hl : (c :: d :: l).length - 1 = ((d :: l).length - 1) + 1 := by simp
    rw [hl]
    generalize (d :: l).length - 1 = k at h1 h2
    refine ⟨w * ((y.den ^ (k + 1) : Nat) : Int) + y.num * z, ?_, ?_⟩
    · show (c + y * value y (d :: l)) * ((y.den ^ (k + 1) : Nat) : Rat) = _
      rw [Rat.intCast_add, Rat.intCast_mul, Rat.intCast_mul, ← h1, ← hw, ← mul_den y, Nat.pow_succ, Rat.natCast_mul]
      show (c + y * value y (d :: l)) * (((y.den ^ k : Nat) : Rat) * (y.den : Rat)) = c * (((y.den ^ k * y.den : Nat) : Int) : Rat) + y * (y.den : Rat) * (value y (d :: l) * ((y.den ^ k : Nat) : Rat))
      have e : (((y.den ^ k * y.den : Nat) : Int) : Rat) = ((y.den ^ k : Nat) : Rat) * (y.den : Rat) := by
        rw [show (((y.den ^ k * y.den : Nat) : Int) : Rat) = ((y.den ^ k * y.den : Nat) : Rat) from rfl, Rat.natCast_mul]
      rw [e]; grind
    · obtain ⟨q, hq⟩ := h2
      refine ⟨w * ((y.den ^ k : Nat) : Int) + y.num * q, ?_⟩
      have e1 : ((y.den ^ (k + 1) : Nat) : Int) = (y.den : Int) * ((y.den ^ k : Nat) : Int) := by rw [Nat.pow_succ, Nat.mul_comm, Int.natCast_mul]
      have e2 : y.num ^ (k + 1) = y.num * y.num ^ k := by rw [Int.pow_succ, Int.mul_comm]
      rw [e1, e2]
      have : z = (y.den : Int) * q + y.num ^ k := by omega
      rw [this]
      grind
theorem mo_whole {y : Rat} {l : List Rat} (hm : Mo l) (hz : ∀ c ∈ l, IsZ c) (h0 : value y l = 0) : IsZ y := by
  obtain ⟨z, h1, h2⟩ := mo_mod (y := y) l hm hz
  rw [h0] at h1
  have hz0 : z = 0 := by
    have : (z : Rat) = 0 := by rw [← h1]; grind
    exact_mod_cast this
  rw [hz0] at h2
  have h3 : (y.den : Int) ∣ y.num ^ (l.length - 1) := by
    have := Int.dvd_neg.mpr h2
    have e : -(0 - y.num ^ (l.length - 1)) = y.num ^ (l.length - 1) := by omega
    rw [e] at this; exact this
  have h4 : y.den ∣ y.num.natAbs ^ (l.length - 1) := by
    have := Int.natAbs_dvd_natAbs.mpr h3
    rw [Int.natAbs_natCast, Int.natAbs_pow] at this
    exact this
  have h5 : Nat.Coprime y.den (y.num.natAbs ^ (l.length - 1)) := Nat.Coprime.pow_right _ y.reduced.symm
  have h6 : y.den = 1 := by
    have := Nat.Coprime.eq_one_of_dvd h5 h4
    exact this
  refine ⟨y.num, ?_⟩
  have := mul_den y
  rw [h6] at this
  rw [← this]
  show y = y * 1
  grind
theorem mo_big {B y : Rat} (hB : 0 ≤ B) (hy : Big (B + 1) y) : ∀ (l : List Rat), Mo l → (∀ c ∈ l, Ab c B) → Big 1 (value y l)
  | [], h, _ => h.elim
  | [c], h, _ => by
    have h : c = 1 := h
    show Big 1 (c + y * 0)
    rw [h]
    exact .inl (by grind)
  | c :: d :: l, h, hb => by
    have ih := mo_big hB hy (d :: l) h (fun e he => hb e (List.mem_cons_of_mem _ he))
    obtain ⟨c1, c2⟩ := hb c List.mem_cons_self
    show Big 1 (c + y * value y (d :: l))
    generalize value y (d :: l) = v at ih
    rcases hy with hy | hy <;> rcases ih with hv | hv
    · have := Rat.mul_nonneg (show 0 ≤ y - (B + 1) by grind) (show 0 ≤ v - 1 by grind)
      have := Rat.mul_nonneg (show 0 ≤ B + 1 by grind) (show 0 ≤ v - 1 by grind)
      exact .inl (by grind)
    · have := Rat.mul_nonneg (show 0 ≤ y - (B + 1) by grind) (show 0 ≤ -v - 1 by grind)
      have := Rat.mul_nonneg (show 0 ≤ B + 1 by grind) (show 0 ≤ -v - 1 by grind)
      exact .inr (by grind)
    · have := Rat.mul_nonneg (show 0 ≤ -y - (B + 1) by grind) (show 0 ≤ v - 1 by grind)
      have := Rat.mul_nonneg (show 0 ≤ B + 1 by grind) (show 0 ≤ v - 1 by grind)
      exact .inr (by grind)
    · have := Rat.mul_nonneg (show 0 ≤ -y - (B + 1) by grind) (show 0 ≤ -v - 1 by grind)
      have := Rat.mul_nonneg (show 0 ≤ B + 1 by grind) (show 0 ≤ -v - 1 by grind)
      exact .inl (by grind)
/-! by the front number -/
theorem gcd_fold {A : Type} (f : A → Nat) : ∀ (l : List A) (g : Nat), (l.foldl (fun g x => Nat.gcd g (f x)) g ∣ g) ∧ ∀ x ∈ l, l.foldl (fun g x => Nat.gcd g (f x)) g ∣ f x
  | [], g => ⟨Nat.dvd_refl _, fun x hx => by cases hx⟩
  | a :: l, g => by
    obtain ⟨h1, h2⟩ := gcd_fold f l (Nat.gcd g (f a))
    rw [List.foldl_cons]
    refine ⟨Nat.dvd_trans h1 (Nat.gcd_dvd_left _ _), fun x hx => ?_⟩
    rcases List.mem_cons.mp hx with e | e
    · rw [e]; exact Nat.dvd_trans h1 (Nat.gcd_dvd_right _ _)
    · exact h2 x e
theorem lcm_fold {A : Type} (f : A → Nat) (hf : ∀ x, 0 < f x) : ∀ (l : List A) (g : Nat), 0 < g → (0 < l.foldl (fun g x => Nat.lcm g (f x)) g) ∧ (g ∣ l.foldl (fun g x => Nat.lcm g (f x)) g) ∧ ∀ x ∈ l, f x ∣ l.foldl (fun g x => Nat.lcm g (f x)) g
  | [], g, hg => ⟨hg, Nat.dvd_refl _, fun x hx => by cases hx⟩
  | a :: l, g, hg => by
    obtain ⟨h0, h1, h2⟩ := lcm_fold f hf l (Nat.lcm g (f a)) (Nat.lcm_pos hg (hf a))
    rw [List.foldl_cons]
    refine ⟨h0, Nat.dvd_trans (Nat.dvd_lcm_left _ _) h1, fun x hx => ?_⟩
    rcases List.mem_cons.mp hx with e | e
    · rw [e]; exact Nat.dvd_trans (Nat.dvd_lcm_right _ _) h1
    · exact h2 x e
theorem front_spec {p : List Rat} (hp : Tr p) (hne : p ≠ []) : Al02.front p ≠ 0 ∧ 0 < (1 / Al02.front p) * AlOne.lead p ∧ ∀ c ∈ p, IsZ ((1 / Al02.front p) * c) := by
  have hl := lead_ne hp hne
  unfold Al02.front
  have hgA := gcd_fold (fun (x : Rat) => x.num.natAbs) p 0
  have hlA := lcm_fold (fun (x : Rat) => x.den) (fun x => Nat.pos_of_ne_zero x.den_nz) p 1 (by omega)
  generalize p.foldl (fun (g : Nat) (x : Rat) => Nat.gcd g x.num.natAbs) 0 = n at hgA
  generalize p.foldl (fun (g : Nat) (x : Rat) => Nat.lcm g x.den) 1 = d at hlA
  obtain ⟨_, hg⟩ := hgA
  obtain ⟨hd0, _, hd⟩ := hlA
  have hlm : AlOne.lead p ∈ p := by
    unfold AlOne.lead
    rw [List.getLastD_eq_getLast?, List.getLast?_eq_some_getLast hne]
    exact List.getLast_mem hne
  have hn0 : 0 < n := by
    have h1 := hg _ hlm
    rcases Nat.eq_zero_or_pos n with e | e
    · rw [e] at h1
      have := Nat.eq_zero_of_zero_dvd h1
      exact absurd (Rat.num_eq_zero.mp (Int.natAbs_eq_zero.mp this)) hl
    · exact e
  have hnQ : (0 : Rat) < (n : Rat) := by exact_mod_cast hn0
  have hdQ : (0 : Rat) < (d : Rat) := by exact_mod_cast hd0
  have hndQ := div_posQ hnQ hdQ
  have hsp : ∀ s : Rat, s ≠ 0 → s * s = 1 → ∀ c : Rat, 1 / (s * ((n : Rat) / (d : Rat))) * c = s * (c * ((d : Rat) / (n : Rat))) := by
    intro s hs0 hs c
    have e1 : s * ((n : Rat) / (d : Rat)) ≠ 0 := fun e => by
      rcases Rat.mul_eq_zero.mp e with e | e
      · exact hs0 e
      · grind
    have h1 : 1 / (s * ((n : Rat) / (d : Rat))) * (s * ((n : Rat) / (d : Rat))) = 1 := Rat.div_mul_cancel e1
    have h2 : (n : Rat) / (d : Rat) * (d : Rat) = n := Rat.div_mul_cancel (by grind)
    have h3 : (d : Rat) / (n : Rat) * (n : Rat) = d := Rat.div_mul_cancel (by grind)
    have h4 : (n : Rat) / (d : Rat) * ((d : Rat) / (n : Rat)) = 1 := by
      have h5 : ((n : Rat) / (d : Rat) * ((d : Rat) / (n : Rat)) - 1) * ((d : Rat) * (n : Rat)) = 0 := by grind
      rcases Rat.mul_eq_zero.mp h5 with e | e
      · grind
      · rcases Rat.mul_eq_zero.mp e with e | e <;> grind
    generalize 1 / (s * ((n : Rat) / (d : Rat))) = X at h1
    generalize (n : Rat) / (d : Rat) = Y at h1 h4
    generalize (d : Rat) / (n : Rat) = Z at h4
    have h6 : X = s * Z := by
      calc X = X * ((s * s) * (Y * Z)) := by rw [hs, h4]; grind
        _ = (X * (s * Y)) * (s * Z) := by grind
        _ = s * Z := by rw [h1]; grind
    rw [h6]; grind
  have hint : ∀ c ∈ p, IsZ (c * ((d : Rat) / (n : Rat))) := by
    intro c hc
    obtain ⟨a, ha⟩ := hg c hc
    obtain ⟨b, hb⟩ := hd c hc
    have h3 : (d : Rat) / (n : Rat) * (n : Rat) = d := Rat.div_mul_cancel (by grind)
    have hcd := mul_den c
    have hna : (c.num : Rat) = (((if c.num < 0 then -(a : Int) else (a : Int)) : Int) : Rat) * (n : Rat) := by
      have h7 : c.num = (if c.num < 0 then -(a : Int) else (a : Int)) * (n : Int) := by
        have h8 : (c.num.natAbs : Int) = (n : Int) * (a : Int) := by rw [ha, Int.natCast_mul]
        split
        · have h9 : c.num = -(c.num.natAbs : Int) := by omega
          rw [h9, h8]; grind
        · have h9 : c.num = (c.num.natAbs : Int) := by omega
          rw [h9, h8]; grind
      conv => lhs; rw [h7]
      rw [Rat.intCast_mul]; rfl
    refine ⟨(if c.num < 0 then -(a : Int) else (a : Int)) * (b : Int), ?_⟩
    rw [Rat.intCast_mul]
    generalize (((if c.num < 0 then -(a : Int) else (a : Int)) : Int) : Rat) = A at hna
    have hbQ : (d : Rat) = (c.den : Rat) * (b : Rat) := by rw [hb, Rat.natCast_mul]
    show c * ((d : Rat) / (n : Rat)) = A * (b : Rat)
    have h10 : (c * ((d : Rat) / (n : Rat)) - A * (b : Rat)) * ((c.den : Rat) * (n : Rat)) = 0 := by
      calc (c * ((d : Rat) / (n : Rat)) - A * (b : Rat)) * ((c.den : Rat) * (n : Rat)) = (c * (c.den : Rat)) * ((d : Rat) / (n : Rat) * (n : Rat)) - (A * (n : Rat)) * ((c.den : Rat) * (b : Rat)) := by grind
        _ = 0 := by rw [hcd, h3, ← hna, ← hbQ]; grind
    have hden : (0 : Rat) < (c.den : Rat) := by
      have := Nat.pos_of_ne_zero c.den_nz
      exact_mod_cast this
    rcases Rat.mul_eq_zero.mp h10 with e | e
    · grind
    · rcases Rat.mul_eq_zero.mp e with e | e <;> grind
  have hdn := div_posQ hdQ hnQ
  by_cases hneg : AlOne.lead p < 0
  · rw [if_pos hneg]
    refine ⟨fun e => ?_, ?_, fun c hc => ?_⟩
    · rcases Rat.mul_eq_zero.mp e with e | e
      · exact absurd e (by decide)
      · grind
    · rw [hsp (-1) (by decide) (by grind)]
      have := (Rat.mul_pos_iff_of_pos_left hdn).mpr (show 0 < - AlOne.lead p by grind)
      grind
    · rw [hsp (-1) (by decide) (by grind)]
      exact IsZ.mul ⟨-1, rfl⟩ (hint c hc)
  · rw [if_neg hneg]
    have hlp : 0 < AlOne.lead p := by
      have : 0 ≤ AlOne.lead p := by grind
      rcases Rat.le_iff_lt_or_eq.mp this with e | e
      · exact e
      · exact absurd e.symm hl
    refine ⟨fun e => ?_, ?_, fun c hc => ?_⟩
    · rcases Rat.mul_eq_zero.mp e with e | e
      · exact absurd e (by decide)
      · grind
    · rw [hsp 1 (by decide) (by grind)]
      have := (Rat.mul_pos_iff_of_pos_left hdn).mpr hlp
      grind
    · rw [hsp 1 (by decide) (by grind)]
      exact IsZ.mul ⟨1, rfl⟩ (hint c hc)
end Ma
/-! The specification's roots that are fractions: just the roots, rising. -/
namespace Ma
open P
open AlOne (value)
def lst (c : Rat) : List Rat → Nat → List Rat
  | [], _ => []
  | a :: l, N => (a * AlBase.power c N / c) :: lst c l (N - 1)
theorem lst_zip (c : Rat) (n : Nat) : ∀ (l : List Rat) (s : Nat), ((l.zip (List.range' s l.length)).map fun (x : Rat × Nat) => x.1 * AlBase.power c (n - x.2) / c) = lst c l (n - s)
  | [], s => rfl
  | a :: l, s => by
    rw [List.length_cons, List.range'_succ, List.zip_cons_cons, List.map_cons, lst_zip c n l (s + 1)]
    show _ = (a * AlBase.power c (n - s) / c) :: lst c l (n - s - 1)
    rw [Nat.sub_sub]
theorem lst_len (c : Rat) : ∀ (l : List Rat) (N : Nat), (lst c l N).length = l.length
  | [], _ => rfl
  | a :: l, N => by show (lst c l (N - 1)).length + 1 = l.length + 1; rw [lst_len c l]
theorem mul_div {c : Rat} (hc : c ≠ 0) (x : Rat) : x * c / c = x := Rat.mul_div_cancel hc
theorem lst_val {c : Rat} (hc : c ≠ 0) (r : Rat) : ∀ (l : List Rat) (N : Nat), l.length ≤ N + 1 → value (c * r) (lst c l N) = AlBase.power c N / c * value r l
  | [], N, _ => by show (0 : Rat) = AlBase.power c N / c * 0; grind
  | a :: l, 0, h => by
    have hl : l = [] := by simpa using h
    subst hl
    show a * 1 / c + c * r * 0 = 1 / c * (a + r * 0)
    have h1 : a * 1 / c * c = a * 1 := Rat.div_mul_cancel hc
    have h2 : 1 / c * c = 1 := Rat.div_mul_cancel hc
    have h3 : (a * 1 / c - 1 / c * a) * c = 0 := by grind
    rcases Rat.mul_eq_zero.mp h3 with e | e
    · grind
    · exact absurd e hc
  | a :: l, N + 1, h => by
    have ih := lst_val hc r l N (by simp at h; omega)
    show a * (AlBase.power c N * c) / c + c * r * value (c * r) (lst c l N) = (AlBase.power c N * c) / c * (a + r * value r l)
    rw [ih, mul_div hc]
    have e1 : a * (AlBase.power c N * c) / c = a * AlBase.power c N := by
      rw [show a * (AlBase.power c N * c) = (a * AlBase.power c N) * c by grind, mul_div hc]
    rw [e1]
    have h1 : AlBase.power c N / c * c = AlBase.power c N := Rat.div_mul_cancel hc
    generalize AlBase.power c N / c = q at h1
    rw [← h1]; grind
theorem power_z {c : Rat} (hc : IsZ c) : ∀ N, IsZ (AlBase.power c N)
  | 0 => ⟨1, rfl⟩
  | N + 1 => (power_z hc N).mul hc
theorem lst_mo {c : Rat} (hc : c ≠ 0) (hz : IsZ c) : ∀ (l : List Rat) (N : Nat), l.length = N + 1 → AlOne.lead l = c → (∀ a ∈ l, IsZ a) → Mo (lst c l N) ∧ ∀ x ∈ lst c l N, IsZ x
  | [], N, h, _, _ => by simp at h
  | [a], N, h, hl, ha => by
    have hN : N = 0 := by simp at h; omega
    subst hN
    have hl : a = c := hl
    have e : a * AlBase.power c 0 / c = 1 := by
      rw [hl]
      show c * 1 / c = 1
      rw [show c * 1 = 1 * c by grind, mul_div hc]
    refine ⟨e, fun x hx => ?_⟩
    have : x = a * AlBase.power c 0 / c := by simpa [lst] using hx
    rw [this, e]; exact ⟨1, rfl⟩
  | a :: b :: l, N, h, hl, ha => by
    obtain ⟨M, rfl⟩ : ∃ M, N = M + 1 := ⟨N - 1, by simp at h; omega⟩
    have hl2 : AlOne.lead (b :: l) = c := by
      unfold AlOne.lead at *
      simpa using hl
    obtain ⟨h1, h2⟩ := lst_mo hc hz (b :: l) M (by simp at h ⊢; omega) hl2 (fun x hx => ha x (List.mem_cons_of_mem _ hx))
    refine ⟨h1, fun x hx => ?_⟩
    have hx : x ∈ (a * AlBase.power c (M + 1) / c) :: lst c (b :: l) M := hx
    rcases List.mem_cons.mp hx with e | e
    · have e1 : a * AlBase.power c (M + 1) / c = a * AlBase.power c M := by
        show a * (AlBase.power c M * c) / c = _
        rw [show a * (AlBase.power c M * c) = (a * AlBase.power c M) * c by grind, mul_div hc]
      rw [e, e1]
      exact (ha a List.mem_cons_self).mul (power_z hz M)
    · exact h2 x e
theorem mo_lead : ∀ {l : List Rat}, Mo l → AlOne.lead l = 1
  | [], h => h.elim
  | [c], h => h
  | c :: d :: l, h => by
    have := mo_lead (l := d :: l) h
    unfold AlOne.lead at *
    simpa using this
theorem max_fold : ∀ (l : List Nat) (g : Nat), g ≤ l.foldl max g ∧ ∀ x ∈ l, x ≤ l.foldl max g
  | [], g => ⟨Nat.le_refl _, fun x hx => by cases hx⟩
  | a :: l, g => by
    obtain ⟨h1, h2⟩ := max_fold l (max g a)
    rw [List.foldl_cons]
    refine ⟨by omega, fun x hx => ?_⟩
    rcases List.mem_cons.mp hx with e | e
    · rw [e]; omega
    · exact h2 x e
/-- **the roots that are fractions** -/
theorem ratRoots_spec {p : P} (hp : p ≠ 0) : (Al03.ratRoots p.1).Pairwise (· < ·) ∧ ∀ r : Rat, r ∈ Al03.ratRoots p.1 ↔ value r p.1 = 0 := by
  have hne : p.1 ≠ [] := fun e => hp (P.eq_zero_iff.mpr e)
  obtain ⟨f1, f2, f3⟩ := front_spec p.2 hne
  have hf0 : 1 / Al02.front p.1 ≠ 0 := fun e => by rw [e] at f2; grind
  have hls := lead_scale p.2 hf0
  unfold Al03.ratRoots
  generalize hw : AlOne.scale (1 / Al02.front p.1) p.1 = w at hls
  have hwne : w ≠ [] := fun e => by
    have := hls.2
    rw [e] at this
    exact hne (List.eq_nil_of_length_eq_zero this.symm)
  have hwz : ∀ c ∈ w, IsZ c := by
    intro c hc
    rw [← hw] at hc
    have h1 : c ∈ p.1.map fun (x : Rat) => 1 / Al02.front p.1 * x := by
      have : ∀ {l : List Rat} {c : Rat}, c ∈ AlOne.trim l → c ∈ l := by
        intro l
        induction l with
        | nil => intro c h; cases h
        | cons d l ih =>
          intro c h
          rw [trim_cons] at h
          split at h
          · split at h
            · cases h
            · rw [List.mem_singleton] at h; rw [h]; exact List.mem_cons_self
          · rcases List.mem_cons.mp h with e | e
            · rw [e]; exact List.mem_cons_self
            · exact List.mem_cons_of_mem _ (ih e)
      exact this hc
    rw [List.mem_map] at h1
    obtain ⟨x, hx, rfl⟩ := h1
    exact f3 x hx
  have hcp : 0 < AlOne.lead w := by rw [hls.1]; exact f2
  have hc0 : AlOne.lead w ≠ 0 := by grind
  have hcz : IsZ (AlOne.lead w) := hwz _ (by
    unfold AlOne.lead
    rw [List.getLastD_eq_getLast?, List.getLast?_eq_some_getLast hwne]
    exact List.getLast_mem hwne)
  have hwv : ∀ r, value r w = 1 / Al02.front p.1 * value r p.1 := fun r => by rw [← hw]; exact val_scale r _ _
  obtain ⟨N, hN⟩ : ∃ N, w.length = N + 1 := ⟨w.length - 1, by have := pos_len hwne; omega⟩
  have hdeg : AlOne.degree w = N := by unfold AlOne.degree; omega
  obtain ⟨hmo, hmz⟩ := lst_mo hc0 hcz w N hN rfl hwz
  have hm : AlOne.trim ((w.zip (List.range (N + 1))).map fun (x : Rat × Nat) => x.1 * AlBase.power (AlOne.lead w) (N - x.2) / AlOne.lead w) = lst (AlOne.lead w) w N := by
    have h1 := lst_zip (AlOne.lead w) N w 0
    rw [hN, ← List.range_eq_range'] at h1
    rw [h1, Nat.sub_zero]
    refine tr_of_lead fun _ => ?_
    rw [mo_lead hmo]; decide
  show ((Al03.wholeFrom (AlOne.trim ((w.zip (List.range (AlOne.degree w + 1))).map fun (x : Rat × Nat) => x.1 * AlBase.power (AlOne.lead w) (AlOne.degree w - x.2) / AlOne.lead w)) ((((AlOne.trim ((w.zip (List.range (AlOne.degree w + 1))).map fun (x : Rat × Nat) => x.1 * AlBase.power (AlOne.lead w) (AlOne.degree w - x.2) / AlOne.lead w)).map fun (x : Rat) => x.num.natAbs).foldl max 1 + 1).log2 + 2) (-(2 ^ ((((AlOne.trim ((w.zip (List.range (AlOne.degree w + 1))).map fun (x : Rat × Nat) => x.1 * AlBase.power (AlOne.lead w) (AlOne.degree w - x.2) / AlOne.lead w)).map fun (x : Rat) => x.num.natAbs).foldl max 1 + 1).log2 + 1) : Int))).map fun (z : Int) => (z : Rat) / AlOne.lead w).Pairwise (· < ·) ∧ ∀ r : Rat, r ∈ ((Al03.wholeFrom (AlOne.trim ((w.zip (List.range (AlOne.degree w + 1))).map fun (x : Rat × Nat) => x.1 * AlBase.power (AlOne.lead w) (AlOne.degree w - x.2) / AlOne.lead w)) ((((AlOne.trim ((w.zip (List.range (AlOne.degree w + 1))).map fun (x : Rat × Nat) => x.1 * AlBase.power (AlOne.lead w) (AlOne.degree w - x.2) / AlOne.lead w)).map fun (x : Rat) => x.num.natAbs).foldl max 1 + 1).log2 + 2) (-(2 ^ ((((AlOne.trim ((w.zip (List.range (AlOne.degree w + 1))).map fun (x : Rat × Nat) => x.1 * AlBase.power (AlOne.lead w) (AlOne.degree w - x.2) / AlOne.lead w)).map fun (x : Rat) => x.num.natAbs).foldl max 1 + 1).log2 + 1) : Int))).map fun (z : Int) => (z : Rat) / AlOne.lead w) ↔ value r p.1 = 0
  rw [hdeg, hm]
  have hval : ∀ r, value (AlOne.lead w * r) (lst (AlOne.lead w) w N) = AlBase.power (AlOne.lead w) N / AlOne.lead w * value r w := fun r => lst_val hc0 r w N (by omega)
  have hpw : AlBase.power (AlOne.lead w) N / AlOne.lead w ≠ 0 := by
    have h1 : ∀ k, AlBase.power (AlOne.lead w) k ≠ 0 := by
      intro k
      induction k with
      | zero => show (1 : Rat) ≠ 0; decide
      | succ k ih =>
        intro e
        rcases Rat.mul_eq_zero.mp (show AlBase.power (AlOne.lead w) k * AlOne.lead w = 0 from e) with e | e
        · exact ih e
        · exact hc0 e
    intro e
    have h2 : AlBase.power (AlOne.lead w) N / AlOne.lead w * AlOne.lead w = AlBase.power (AlOne.lead w) N := Rat.div_mul_cancel hc0
    rw [e] at h2
    exact h1 N (by rw [← h2]; grind)
  generalize AlOne.lead w = c at hcp hc0 hval hpw hmo hmz
  have hroot : ∀ r, value (c * r) (lst c w N) = 0 ↔ value r p.1 = 0 := by
    intro r
    rw [hval, hwv]
    constructor
    · intro e
      rcases Rat.mul_eq_zero.mp e with e | e
      · exact absurd e hpw
      · rcases Rat.mul_eq_zero.mp e with e | e
        · exact absurd e hf0
        · exact e
    · intro e; rw [e]; grind
  have htr : Tr (lst c w N) := tr_of_lead fun _ => by rw [mo_lead hmo]; decide
  have hmP : (show P from ⟨lst c w N, htr⟩) ≠ (0 : P) := fun e => by
    have h1 : lst c w N = [] := P.eq_zero_iff.mp e
    have h2 := lst_len c w N
    rw [h1, hN] at h2
    simp at h2
  obtain ⟨mx0, mx⟩ := max_fold ((lst c w N).map fun (x : Rat) => x.num.natAbs) 1
  generalize hB : ((lst c w N).map fun (x : Rat) => x.num.natAbs).foldl max 1 = B at mx0 mx
  have hb2 : B + 1 < 2 ^ ((B + 1).log2 + 1) := (Nat.log2_lt (by omega)).mp (by omega)
  generalize (B + 1).log2 = L at hb2
  obtain ⟨w1, w2⟩ := whole_spec hmP (L + 2) (-(2 ^ (L + 1) : Int))
  have hbi : ((B : Int) + 1) < 2 ^ (L + 1) := by exact_mod_cast hb2
  have hbound : ∀ z : Int, value (z : Rat) (lst c w N) = 0 → -(2 ^ (L + 1) : Int) < z ∧ z ≤ -(2 ^ (L + 1) : Int) + 2 ^ (L + 2) := by
    intro z hz
    have hnb : ¬ Big ((B : Rat) + 1) (z : Rat) := fun hbig => by
      have := mo_big (B := (B : Rat)) (by exact_mod_cast Nat.zero_le B) hbig (lst c w N) hmo (fun x hx => by
        obtain ⟨k, hk⟩ := hmz x hx
        have h1 : x.num.natAbs ≤ B := mx _ (List.mem_map.mpr ⟨x, hx, rfl⟩)
        have h2 : x.num = k := by rw [hk]; rfl
        rw [h2] at h1
        rw [hk]
        constructor
        · have : -(B : Int) ≤ k := by omega
          have := int_le this
          rw [Rat.intCast_neg] at this
          exact this
        · have : k ≤ (B : Int) := by omega
          exact int_le this)
      rw [hz] at this
      rcases this with e | e <;> exact absurd e (by decide)
    have hz1 : z < (B : Int) + 1 := by
      by_cases h : z < (B : Int) + 1
      · exact h
      · exfalso
        apply hnb
        left
        have := int_le (show (B : Int) + 1 ≤ z by omega)
        rw [Rat.intCast_add] at this
        exact this
    have hz2 : -((B : Int) + 1) < z := by
      by_cases h : -((B : Int) + 1) < z
      · exact h
      · exfalso
        apply hnb
        right
        have := int_le (show z ≤ -((B : Int) + 1) by omega)
        rw [Rat.intCast_neg, Rat.intCast_add] at this
        exact this
    have hp2 : (2 : Int) ^ (L + 2) = 2 ^ (L + 1) + 2 ^ (L + 1) := by rw [Int.pow_succ (n := L + 1)]; omega
    omega
  refine ⟨?_, fun r => ?_⟩
  · rw [List.pairwise_map]
    refine w1.imp fun {x y} hxy => ?_
    have h1 := int_lt hxy
    have h2 : (x : Rat) / c * c = x := Rat.div_mul_cancel hc0
    have h3 : (y : Rat) / c * c = y := Rat.div_mul_cancel hc0
    by_cases h : (x : Rat) / c < (y : Rat) / c
    · exact h
    · exfalso
      have := Rat.mul_nonneg (show 0 ≤ (x : Rat) / c - (y : Rat) / c by grind) (show 0 ≤ c by grind)
      grind
  · rw [List.mem_map]
    constructor
    · rintro ⟨z, hz, e⟩
      have := ((w2 z).mp hz).2.2
      rw [← hroot, ← e]
      have h2 : c * ((z : Rat) / c) = z := by
        have : (z : Rat) / c * c = z := Rat.div_mul_cancel hc0
        grind
      rw [h2]; exact this
    · intro hr
      have h1 := (hroot r).mpr hr
      obtain ⟨z, hz⟩ := mo_whole hmo hmz h1
      rw [hz] at h1
      obtain ⟨b1, b2⟩ := hbound z h1
      refine ⟨z, (w2 z).mpr ⟨b1, b2, h1⟩, ?_⟩
      rw [← hz, show c * r = r * c by grind, mul_div hc0]
end Ma
/-! Roots that are fractions: x less r goes into a polynomial; how often; how many roots at most. -/
namespace Ma
open P
open AlOne (value)
theorem str_lin (r : Rat) : Tr [-r, 1] := tr_of_lead fun _ => (by show (1 : Rat) ≠ 0; decide)
/-- x less r -/
def slin (r : Rat) : P := ⟨[-r, 1], str_lin r⟩
theorem slen_lin (r : Rat) : (slin r).len = 2 := rfl
theorem sld_lin (r : Rat) : (slin r).ld = 1 := rfl
theorem slin_ne (r : Rat) : slin r ≠ 0 := fun e => by
  have := slen_lin r
  rw [e, P.len_zero] at this
  omega
theorem sval_lin (x r : Rat) : value x (slin r).1 = x - r := by
  show -r + x * (1 + x * 0) = x - r
  grind
theorem root_dvd {p : P} {r : Rat} (h : value r p.1 = 0) : ∃ q : P, p = q * slin r := by
  obtain ⟨s, t, _, e, hl⟩ := divMod_spec p (slin r) (slin_ne r)
  rw [slen_lin] at hl
  by_cases ht : t = 0
  · exact ⟨s, by rw [e, ht]; grind⟩
  · exfalso
    have h1 : t.len = 1 := by have := P.len_pos ht; omega
    obtain ⟨k, hk, hv⟩ := const_val ht h1
    have h2 : value r p.1 = value r s.1 * value r (slin r).1 + value r t.1 := by
      rw [e, P.val_add, sval_add, P.val_mul, sval_mul]
    rw [h, sval_lin, hv] at h2
    grind
/-- so often r is a root of p -/
def RootIs (r : Rat) (p : P) (k : Nat) : Prop := ∃ q : P, p = pw (slin r) k * q ∧ value r q.1 ≠ 0
theorem RootIs.zero {r : Rat} {p : P} (h : value r p.1 ≠ 0) : RootIs r p 0 := ⟨p, by show p = 1 * p; grind, h⟩
theorem RootIs.succ {r : Rat} {p q : P} {k : Nat} (h : RootIs r q k) (e : p = q * slin r) : RootIs r p (k + 1) := by
  obtain ⟨s, hs, hv⟩ := h
  exact ⟨s, by rw [e, hs]; show _ = (pw (slin r) k * slin r) * s; grind, hv⟩
theorem RootIs.root {r : Rat} {p : P} {k : Nat} (h : RootIs r p (k + 1)) : value r p.1 = 0 := by
  obtain ⟨s, hs, _⟩ := h
  rw [hs, P.val_mul, sval_mul]
  have : value r (pw (slin r) (k + 1)).1 = value r (pw (slin r) k).1 * value r (slin r).1 := by
    show value r (pw (slin r) k * slin r).1 = _
    rw [P.val_mul, sval_mul]
  rw [this, sval_lin]; grind
theorem RootIs.noroot {r : Rat} {p : P} (h : RootIs r p 0) : value r p.1 ≠ 0 := by
  obtain ⟨s, hs, hv⟩ := h
  have : p = s := by rw [hs]; show 1 * s = s; grind
  rw [this]; exact hv
theorem RootIs.pred {r : Rat} {p q : P} {k : Nat} (h : RootIs r p (k + 1)) (e : p = q * slin r) : RootIs r q k := by
  obtain ⟨s, hs, hv⟩ := h
  refine ⟨s, ?_, hv⟩
  apply P.mul_cancel (slin_ne r)
  rw [show slin r * q = p by rw [e]; grind, hs]
  show (pw (slin r) k * slin r) * s = _
  grind
theorem RootIs.eq {r : Rat} : ∀ {k k' : Nat} {p : P}, RootIs r p k → RootIs r p k' → k = k'
  | 0, 0, _, _, _ => rfl
  | 0, k' + 1, _, h, h' => absurd h'.root h.noroot
  | k + 1, 0, _, h, h' => absurd h.root h'.noroot
  | k + 1, k' + 1, p, h, h' => by
    obtain ⟨q, hq⟩ := root_dvd h.root
    rw [(h.pred hq).eq (h'.pred hq)]
theorem RootIs.ne {r : Rat} {p : P} {k : Nat} (h : RootIs r p k) : p ≠ 0 := by
  induction k generalizing p with
  | zero =>
    intro e
    apply h.noroot
    rw [e, P.zero_val]; rfl
  | succ k ih =>
    obtain ⟨q, hq⟩ := root_dvd h.root
    rw [hq]
    exact P.mul_ne_zero (ih (h.pred hq)) (slin_ne r)
theorem rootTimes_spec (r : Rat) : ∀ (f : Nat) (p : P), p ≠ 0 → p.len ≤ f → RootIs r p (Al03.rootTimes f r p.1)
  | 0, p, hp, h => by have := P.len_pos hp; omega
  | f + 1, p, hp, h => by
    show RootIs r p (if p.1 = [] ∨ value r p.1 ≠ 0 then 0 else Al03.rootTimes f r (AlOne.over p.1 [-r, 1]) + 1)
    by_cases hv : value r p.1 = 0
    · rw [if_neg (by
        rintro (e | e)
        · exact hp (P.eq_zero_iff.mpr e)
        · exact e hv)]
      obtain ⟨q, hq⟩ := root_dvd hv
      have hov : AlOne.over p.1 [-r, 1] = q.1 := by
        rw [hq]; exact over_mul q (slin r) (slin_ne r)
      rw [hov]
      have hq0 : q ≠ 0 := fun e => hp (by rw [hq, e]; grind)
      refine RootIs.succ (rootTimes_spec r f q hq0 ?_) hq
      have := P.len_mul hq0 (slin_ne r)
      rw [← hq, slen_lin] at this
      have := P.len_pos hq0
      omega
    · rw [if_pos (Or.inr hv)]
      exact RootIs.zero hv
/-- different roots: fewer than the numbers of the polynomial -/
theorem roots_le : ∀ (l : List Rat) (p : P), p ≠ 0 → l.Pairwise (· < ·) → (∀ r ∈ l, value r p.1 = 0) → l.length + 1 ≤ p.len
  | [], p, hp, _, _ => by have := P.len_pos hp; simp; omega
  | r :: l, p, hp, hl, h => by
    obtain ⟨q, hq⟩ := root_dvd (h r (List.mem_cons_self ..))
    have hq0 : q ≠ 0 := fun e => hp (by rw [hq, e]; grind)
    have ih := roots_le l q hq0 (List.pairwise_cons.mp hl).2 fun x hx => by
      have h1 := h x (List.mem_cons_of_mem _ hx)
      rw [hq, P.val_mul, sval_mul, sval_lin] at h1
      rcases Rat.mul_eq_zero.mp h1 with e | e
      · exact e
      · have := (List.pairwise_cons.mp hl).1 x hx
        grind
    have := P.len_mul hq0 (slin_ne r)
    rw [← hq, slen_lin] at this
    simp
    omega
/-- two rising lists of the same numbers -/
theorem rising_eq : ∀ (l m : List Rat), l.Pairwise (· < ·) → m.Pairwise (· < ·) → (∀ r, r ∈ l ↔ r ∈ m) → l = m
  | [], [], _, _, _ => rfl
  | [], b :: m, _, _, h => by have := (h b).mpr (List.mem_cons_self ..); simp at this
  | a :: l, [], _, _, h => by have := (h a).mp (List.mem_cons_self ..); simp at this
  | a :: l, b :: m, hl, hm, h => by
    have h1 := (List.pairwise_cons.mp hl).1
    have h2 := (List.pairwise_cons.mp hm).1
    have e : a = b := by
      rcases List.mem_cons.mp ((h a).mp (List.mem_cons_self ..)) with e | e
      · exact e
      · rcases List.mem_cons.mp ((h b).mpr (List.mem_cons_self ..)) with e' | e'
        · exact e'.symm
        · have := h1 b e'
          have := h2 a e
          grind
    subst e
    rw [rising_eq l m (List.pairwise_cons.mp hl).2 (List.pairwise_cons.mp hm).2 fun r => ?_]
    constructor
    · intro hr
      rcases List.mem_cons.mp ((h r).mp (List.mem_cons_of_mem _ hr)) with e | e
      · have := h1 r hr
        rw [e] at this
        exact absurd this (by grind)
      · exact e
    · intro hr
      rcases List.mem_cons.mp ((h r).mpr (List.mem_cons_of_mem _ hr)) with e | e
      · have := h2 r hr
        rw [e] at this
        exact absurd this (by grind)
      · exact e
/-- a rising list of just the roots is the specification's -/
theorem ratRoots_eq {p : P} (hp : p ≠ 0) {l : List Rat} (hl : l.Pairwise (· < ·)) (h : ∀ r, r ∈ l ↔ value r p.1 = 0) : Al03.ratRoots p.1 = l := by
  obtain ⟨h1, h2⟩ := ratRoots_spec hp
  exact rising_eq _ _ h1 hl fun r => (h2 r).trans (h r).symm
end Ma
/-! Determinants of polynomials by rows and places: they turn their sign with two rows or two columns, and stand alike along the diagonal. -/
namespace Ma
open AlOne
abbrev RwP := Nat → P
section
variable {A B : Type}
def sgP (l : List A) : P := if l.length % 2 = 0 then 1 else -1
theorem sgP_snoc (l : List A) (c : A) : sgP (l ++ [c]) = - sgP l := by
  unfold sgP
  rw [List.length_append]
  show (if (l.length + 1) % 2 = 0 then (1 : P) else -1) = _
  by_cases h : l.length % 2 = 0
  · rw [if_pos h, if_neg (by omega)]
  · rw [if_neg h, if_pos (by omega)]; grind
theorem sgP_cons (l : List A) (c : A) : sgP (c :: l) = - sgP l := by
  have := sgP_snoc l c
  unfold sgP at *
  rw [List.length_append] at this
  exact this
theorem sgP_len {l : List A} {m : List B} (h : l.length = m.length) : sgP l = sgP m := by unfold sgP; rw [h]
/-- along a row -/
def lapP (f : List A → P) (r : A → P) : List A → List A → P
  | _, [] => 0
  | pre, c :: cs => sgP pre * r c * f (pre ++ cs) + lapP f r (pre ++ [c]) cs
def AltP (f : List A → P) : Prop := ∀ u a b w, f (u ++ a :: b :: w) = - f (u ++ b :: a :: w)
theorem lapP_alt1 {f : List A → P} (hf : AltP f) (r : A → P) : ∀ (w pre : List A) (a b : A) (mid : List A), lapP f r (pre ++ a :: b :: mid) w = - lapP f r (pre ++ b :: a :: mid) w
  | [], _, _, _, _ => by simp only [lapP]; grind
  | c :: w, pre, a, b, mid => by
    have h1 := hf pre a b (mid ++ w)
    have ih := lapP_alt1 hf r w pre a b (mid ++ [c])
    have e1 : (pre ++ a :: b :: mid) ++ [c] = pre ++ a :: b :: (mid ++ [c]) := by simp
    have e2 : (pre ++ b :: a :: mid) ++ [c] = pre ++ b :: a :: (mid ++ [c]) := by simp
    have e3 : (pre ++ a :: b :: mid) ++ w = pre ++ a :: b :: (mid ++ w) := by simp
    have e4 : (pre ++ b :: a :: mid) ++ w = pre ++ b :: a :: (mid ++ w) := by simp
    have e5 : sgP (pre ++ a :: b :: mid) = sgP (pre ++ b :: a :: mid) := sgP_len (by simp)
    rw [lapP, lapP, e1, e2, e3, e4, e5, h1, ih]; grind
theorem lapP_alt {f : List A → P} (hf : AltP f) (r : A → P) : ∀ (u pre : List A) (a b : A) (w : List A), lapP f r pre (u ++ a :: b :: w) = - lapP f r pre (u ++ b :: a :: w)
  | [], pre, a, b, w => by
    show sgP pre * r a * f (pre ++ b :: w) + (sgP (pre ++ [a]) * r b * f ((pre ++ [a]) ++ w) + lapP f r (pre ++ [a] ++ [b]) w) = - (sgP pre * r b * f (pre ++ a :: w) + (sgP (pre ++ [b]) * r a * f ((pre ++ [b]) ++ w) + lapP f r (pre ++ [b] ++ [a]) w))
    have h := lapP_alt1 hf r w pre a b []
    have e1 : pre ++ [a] ++ [b] = pre ++ [a, b] := by simp
    have e2 : pre ++ [b] ++ [a] = pre ++ [b, a] := by simp
    have e3 : (pre ++ [a]) ++ w = pre ++ a :: w := by simp
    have e4 : (pre ++ [b]) ++ w = pre ++ b :: w := by simp
    rw [e1, e2, e3, e4, sgP_snoc, sgP_snoc, h]; grind
  | c :: u, pre, a, b, w => by
    show sgP pre * r c * f (pre ++ (u ++ a :: b :: w)) + lapP f r (pre ++ [c]) (u ++ a :: b :: w) = - (sgP pre * r c * f (pre ++ (u ++ b :: a :: w)) + lapP f r (pre ++ [c]) (u ++ b :: a :: w))
    have h1 := hf (pre ++ u) a b w
    rw [List.append_assoc, List.append_assoc] at h1
    rw [h1, lapP_alt hf r u (pre ++ [c]) a b w]; grind
theorem lapP_zero (r : A → P) : ∀ (cs pre : List A), lapP (fun _ => 0) r pre cs = 0
  | [], _ => rfl
  | c :: cs, pre => by rw [lapP, lapP_zero r cs]; grind
theorem lapP_lin (k : P) (f g : List A → P) (r : A → P) : ∀ (cs pre : List A), lapP (fun x => k * f x + g x) r pre cs = k * lapP f r pre cs + lapP g r pre cs
  | [], _ => by simp only [lapP]; grind
  | c :: cs, pre => by rw [lapP, lapP, lapP, lapP_lin k f g r cs]; grind
theorem lapP_linR (k : P) (f : List A → P) (u v : A → P) : ∀ (cs pre : List A), lapP f (fun x => k * u x + v x) pre cs = k * lapP f u pre cs + lapP f v pre cs
  | [], _ => by simp only [lapP]; grind
  | c :: cs, pre => by rw [lapP, lapP, lapP, lapP_linR k f u v cs]; grind
theorem lapP_congr {f g : List A → P} (h : ∀ x, f x = g x) (r : A → P) (pre cs : List A) : lapP f r pre cs = lapP g r pre cs := by
  have : f = g := funext h
  rw [this]
theorem lapP_map (h : A → B) (f : List B → P) (r : B → P) : ∀ (l pre : List A), lapP f r (pre.map h) (l.map h) = lapP (fun x => f (x.map h)) (fun x => r (h x)) pre l
  | [], _ => rfl
  | c :: cs, pre => by
    have ih := lapP_map h f r cs (pre ++ [c])
    rw [List.map_append] at ih
    show sgP (pre.map h) * r (h c) * f (pre.map h ++ cs.map h) + lapP f r (pre.map h ++ [h c]) (cs.map h) = sgP pre * r (h c) * f ((pre ++ cs).map h) + _
    rw [show lapP f r (pre.map h ++ [h c]) (cs.map h) = lapP f r (pre.map h ++ List.map h [c]) (cs.map h) from rfl, ih, List.map_append, sgP_len (l := pre.map h) (m := pre) (by simp)]
/-- one order or the other -/
theorem lapP_swap (F : List A → List B → P) (e : A → P) (r : B → P) (p0 cs : List B) : ∀ (rs pre : List A), lapP (fun ks => lapP (fun rs' => F rs' ks) e pre rs) r p0 cs = lapP (fun rs' => lapP (F rs') r p0 cs) e pre rs
  | [], _ => lapP_zero r cs p0
  | x :: rs, pre => by
    have ih := lapP_swap F e r p0 cs rs (pre ++ [x])
    have h1 : lapP (fun ks => lapP (fun rs' => F rs' ks) e pre (x :: rs)) r p0 cs = lapP (fun ks => (sgP pre * e x) * F (pre ++ rs) ks + lapP (fun rs' => F rs' ks) e (pre ++ [x]) rs) r p0 cs := rfl
    rw [h1, lapP_lin, ih]; rfl
theorem lapP_neg (f : List A → P) (r : A → P) (x : A) : ∀ (cs pre : List A), lapP f r (x :: pre) cs = - lapP (fun ks => f (x :: ks)) r pre cs
  | [], _ => by simp only [lapP]; grind
  | c :: cs, pre => by
    have ih := lapP_neg f r x cs (pre ++ [c])
    show sgP (x :: pre) * r c * f (x :: (pre ++ cs)) + lapP f r (x :: (pre ++ [c])) cs = - (sgP pre * r c * f (x :: (pre ++ cs)) + lapP (fun ks => f (x :: ks)) r (pre ++ [c]) cs)
    rw [ih, sgP_cons]; grind
end
def dq : List RwP → List Nat → P
  | [], cols => if cols = [] then 1 else 0
  | r :: rs, cols => lapP (dq rs) r [] cols
theorem dq_nil (r : RwP) (rs : List RwP) : dq (r :: rs) [] = 0 := rfl
theorem dq_alt : ∀ rows : List RwP, AltP (dq rows)
  | [] => fun u a b w => by
    have h : ∀ x y : Nat, ¬ (u ++ x :: y :: w = []) := by intro x y; simp
    unfold dq
    rw [if_neg (h a b), if_neg (h b a)]; grind
  | r :: rs => fun u a b w => lapP_alt (dq_alt rs) r u [] a b w
/-- along a column -/
theorem dq_col : ∀ (rows : List RwP) (c : Nat) (cs : List Nat), dq rows (c :: cs) = lapP (fun rs => dq rs cs) (fun r => r c) [] rows
  | [], c, cs => by
    show (if c :: cs = [] then (1 : P) else 0) = 0
    rw [if_neg (by simp)]
  | r :: rs, c, cs => by
    show sgP ([] : List Nat) * r c * dq rs ([] ++ cs) + lapP (dq rs) r ([] ++ [c]) cs = sgP ([] : List RwP) * r c * dq ([] ++ rs) cs + lapP (fun rs => dq rs cs) (fun r => r c) ([] ++ [r]) rs
    have e1 : lapP (dq rs) r ([] ++ [c]) cs = - lapP (fun ks => dq rs (c :: ks)) r [] cs := lapP_neg (dq rs) r c cs []
    have e2 : lapP (fun rs => dq rs cs) (fun r => r c) ([] ++ [r]) rs = - lapP (fun rs' => dq (r :: rs') cs) (fun r => r c) [] rs := lapP_neg (fun rs => dq rs cs) (fun r => r c) r rs []
    have e3 : lapP (fun ks => dq rs (c :: ks)) r [] cs = lapP (fun ks => lapP (fun rs' => dq rs' ks) (fun r => r c) [] rs) r [] cs := lapP_congr (fun ks => dq_col rs c ks) r [] cs
    have e4 := lapP_swap (fun rs' ks => dq rs' ks) (fun r : RwP => r c) r [] cs rs []
    rw [e1, e2, e3, e4]; rfl
/-- two rows turned over -/
theorem dq_altR : ∀ cs : List Nat, AltP (fun rows => dq rows cs)
  | [] => fun u a b w => by
    have h : ∀ x y : RwP, dq (u ++ x :: y :: w) [] = 0 := by intro x y; cases u <;> rfl
    show dq (u ++ a :: b :: w) [] = - dq (u ++ b :: a :: w) []
    rw [h, h]; grind
  | c :: cs => fun u a b w => by
    show dq (u ++ a :: b :: w) (c :: cs) = - dq (u ++ b :: a :: w) (c :: cs)
    rw [dq_col, dq_col]
    exact lapP_alt (dq_altR cs) _ u [] a b w
/-- rows and columns change places -/
theorem dq_tr (M : Nat → Nat → P) : ∀ (J I : List Nat), dq (I.map M) J = dq (J.map fun j i => M i j) I
  | [], [] => rfl
  | [], i :: I => by
    show (0 : P) = if i :: I = [] then 1 else 0
    rw [if_neg (by simp)]
  | j :: J, I => by
    rw [dq_col]
    show lapP (fun rs => dq rs J) (fun r => r j) (List.map M []) (I.map M) = lapP (dq (J.map fun j i => M i j)) (fun i => M i j) [] I
    rw [lapP_map]
    exact lapP_congr (fun x => dq_tr M J x) _ [] I
/-- by one row in the middle -/
theorem dq_mid (k : P) (u v : RwP) (post : List RwP) : ∀ (pre : List RwP) (cs : List Nat), dq (pre ++ (fun x => k * u x + v x) :: post) cs = k * dq (pre ++ u :: post) cs + dq (pre ++ v :: post) cs
  | [], cs => lapP_linR k (dq post) u v cs []
  | r :: pre, cs => by
    show lapP (dq (pre ++ (fun x => k * u x + v x) :: post)) r [] cs = _
    rw [lapP_congr (fun x => dq_mid k u v post pre x) r [] cs, lapP_lin]; rfl
/-- what the rows have in common, one by one -/
theorem lapP_dvd {A : Type} {p g : P} {f : List A → P} {r : A → P} (hf : ∀ x, P.Dvd g (f x)) (hr : ∀ x, P.Dvd p (r x)) : ∀ (cs pre : List A), P.Dvd (p * g) (lapP f r pre cs)
  | [], _ => P.Dvd.zero _
  | c :: cs, pre => by
    obtain ⟨x, hx⟩ := hf (pre ++ cs)
    obtain ⟨y, hy⟩ := hr c
    refine P.Dvd.add ⟨sgP pre * y * x, ?_⟩ (lapP_dvd hf hr cs (pre ++ [c]))
    rw [hx, hy]; grind
def prodP : List P → P
  | [] => 1
  | p :: l => p * prodP l
theorem dq_dvd (M : Nat → Nat → P) (d : Nat → P) (h : ∀ i x, P.Dvd (d i) (M i x)) : ∀ (I cs : List Nat), P.Dvd (prodP (I.map d)) (dq (I.map M) cs)
  | [], cs => ⟨dq [] cs, by show dq [] cs = 1 * dq [] cs; grind⟩
  | i :: I, cs => lapP_dvd (dq_dvd M d h I) (h i) cs []
theorem erase_mid {A : Type} (x : A) : ∀ (pre cs : List A), (pre ++ x :: cs).eraseIdx pre.length = pre ++ cs
  | [], cs => rfl
  | p :: pre, cs => by
    show p :: (pre ++ x :: cs).eraseIdx pre.length = p :: (pre ++ cs)
    rw [erase_mid x pre cs]
theorem lap_det {n : Nat} (R : Mat) (r : RwP) (D : List Nat → P) : ∀ (cs pre : List Nat) (s : P),
    (((cs.map r).zip (List.range' pre.length cs.length)).map fun x => term (x.1 * D ((pre ++ cs).eraseIdx x.2)) x.2).foldl (· + ·) s = s + lapP D r pre cs
  | [], pre, s => by simp only [List.map_nil, List.zip_nil_left, List.foldl_nil, lapP]; grind
  | c :: cs, pre, s => by
    have ih := lap_det (n := n) R r D cs (pre ++ [c]) (s + term (r c * D (pre ++ cs)) pre.length)
    rw [List.length_append, List.append_assoc] at ih
    have e : (pre ++ c :: cs).eraseIdx pre.length = pre ++ cs := erase_mid c pre cs
    show (((cs.map r).zip (List.range' (pre.length + 1) cs.length)).map fun x => term (x.1 * D ((pre ++ c :: cs).eraseIdx x.2)) x.2).foldl (· + ·) (s + term (r c * D ((pre ++ c :: cs).eraseIdx pre.length)) pre.length) = s + (sgP pre * r c * D (pre ++ cs) + lapP D r (pre ++ [c]) cs)
    rw [e]
    refine Eq.trans ih ?_
    have e2 : term (r c * D (pre ++ cs)) pre.length = sgP pre * r c * D (pre ++ cs) := by
      unfold term sgP
      split <;> grind
    rw [e2]; grind
/-- **the specification's determinants** -/
theorem det_dq : ∀ (k : Nat) (R : Mat) (S : List Nat), R.length = k → S.length = k → detP k (pick R S) = dq (R.map fun r j => r.getD j 0) S
  | 0, [], [], _, _ => rfl
  | k + 1, [], _, h, _ => by simp at h
  | k + 1, r :: R, S, h1, h2 => by
    have h1' : R.length = k := by simpa using h1
    show (((S.map fun j => r.getD j 0).zip (List.range (k + 1))).map fun x => term (x.1 * detP k ((pick (r :: R) S).tail.map fun r => r.eraseIdx x.2)) x.2).foldl (· + ·) 0 = lapP (dq (R.map fun r j => r.getD j 0)) (fun j => r.getD j 0) [] S
    have h3 := lap_det (n := k) R (fun j => r.getD j 0) (dq (R.map fun r j => r.getD j 0)) S [] 0
    rw [show (0 : P) + lapP (dq (R.map fun r j => r.getD j 0)) (fun j => r.getD j 0) [] S = lapP (dq (R.map fun r j => r.getD j 0)) (fun j => r.getD j 0) [] S by grind] at h3
    rw [← h3, h2, List.range_eq_range']
    show (List.map _ _).foldl _ _ = (List.map _ ((S.map fun j => r.getD j 0).zip (List.range' 0 (k + 1)))).foldl _ _
    congr 1
    refine List.map_congr_left fun x hx => ?_
    have hx2 : x.2 < S.length := by
      have := (List.of_mem_zip (a := x.1) (b := x.2) hx).2
      rw [List.mem_range'_1] at this
      omega
    rw [pick_tail_erase]
    show term (x.1 * detP k (pick R (S.eraseIdx x.2))) x.2 = _
    rw [det_dq k R (S.eraseIdx x.2) h1' (by rw [List.length_eraseIdx_of_lt hx2]; omega)]
    rfl
end Ma
/-! Square tables over a ring, by places; such that undo one another. -/
namespace Ma
section
variable {R : Type} [Lean.Grind.CommRing R]
/-- a sum -/
def su : Nat → (Nat → R) → R
  | 0, _ => 0
  | n + 1, f => su n f + f n
theorem su_congr {f g : Nat → R} : ∀ {n : Nat}, (∀ k, k < n → f k = g k) → su n f = su n g
  | 0, _ => rfl
  | n + 1, h => by rw [su, su, su_congr fun k hk => h k (by omega), h n (by omega)]
theorem su_add (f g : Nat → R) : ∀ n : Nat, su n (fun k => f k + g k) = su n f + su n g
  | 0 => by simp only [su]; grind
  | n + 1 => by rw [su, su, su, su_add f g n]; grind
theorem su_mul (c : R) (f : Nat → R) : ∀ n : Nat, su n (fun k => c * f k) = c * su n f
  | 0 => by simp only [su]; grind
  | n + 1 => by rw [su, su, su_mul c f n]; grind
theorem su_mulr (c : R) (f : Nat → R) : ∀ n : Nat, su n (fun k => f k * c) = su n f * c
  | 0 => by simp only [su]; grind
  | n + 1 => by rw [su, su, su_mulr c f n]; grind
theorem su_zero : ∀ n : Nat, su n (fun _ => (0 : R)) = 0
  | 0 => rfl
  | n + 1 => by rw [su, su_zero n]; grind
theorem su_zero' {f : Nat → R} {n : Nat} (h : ∀ k, k < n → f k = 0) : su n f = 0 := (su_congr h).trans (su_zero n)
theorem su_comm (f : Nat → Nat → R) (m : Nat) : ∀ n : Nat, su n (fun i => su m (fun j => f i j)) = su m (fun j => su n (fun i => f i j))
  | 0 => by
    show 0 = su m (fun _ => 0)
    rw [su_zero]
  | n + 1 => by
    rw [su, su_comm f m n, ← su_add]
    exact su_congr fun j _ => rfl
theorem su_one {n i : Nat} (hi : i < n) (f : Nat → R) : su n (fun k => if i = k then f k else 0) = f i := by
  induction n with
  | zero => omega
  | succ n ih =>
    rw [su]
    by_cases h : i = n
    · subst h
      rw [if_pos rfl, su_zero' fun k hk => if_neg (by omega)]; grind
    · rw [if_neg h, ih (by omega)]; grind
/-- tables by places -/
abbrev MF (R : Type) := Nat → Nat → R
def mm (n : Nat) (A B : MF R) : MF R := fun i j => su n (fun k => A i k * B k j)
theorem mm_assoc (n : Nat) (A B C : MF R) : mm n (mm n A B) C = mm n A (mm n B C) := by
  funext i j
  show su n (fun k => su n (fun l => A i l * B l k) * C k j) = su n (fun l => A i l * su n (fun k => B l k * C k j))
  have e1 : su n (fun k => su n (fun l => A i l * B l k) * C k j) = su n (fun k => su n (fun l => A i l * B l k * C k j)) := su_congr fun k _ => (su_mulr _ _ n).symm
  have e2 : su n (fun l => A i l * su n (fun k => B l k * C k j)) = su n (fun l => su n (fun k => A i l * B l k * C k j)) := su_congr fun l _ => by
    rw [← su_mul]; exact su_congr fun k _ => by grind
  rw [e1, e2, su_comm]
/-- nothing beyond n rows and columns -/
def Sup (n : Nat) (A : MF R) : Prop := ∀ i j, ¬ (i < n ∧ j < n) → A i j = 0
def cut (n : Nat) (A : MF R) : MF R := fun i j => if i < n ∧ j < n then A i j else 0
theorem cut_sup (n : Nat) (A : MF R) : Sup n (cut n A) := fun i j h => if_neg h
theorem cut_in {n : Nat} {A : MF R} {i j : Nat} (hi : i < n) (hj : j < n) : cut n A i j = A i j := if_pos ⟨hi, hj⟩
theorem mm_sup {n : Nat} {A B : MF R} (hA : Sup n A) (hB : Sup n B) : Sup n (mm n A B) := fun i j h => by
  refine su_zero' fun k _ => ?_
  by_cases hi : i < n
  · rw [hB k j (by omega)]; grind
  · rw [hA i k (by omega)]; grind
theorem sup_ext {n : Nat} {A B : MF R} (hA : Sup n A) (hB : Sup n B) (h : ∀ i j, i < n → j < n → A i j = B i j) : A = B := by
  funext i j
  by_cases hh : i < n ∧ j < n
  · exact h i j hh.1 hh.2
  · rw [hA i j hh, hB i j hh]
def un (n : Nat) : MF R := fun i j => if i = j ∧ i < n then 1 else 0
theorem un_sup (n : Nat) : Sup n (un n : MF R) := fun i j h => if_neg (by omega)
theorem un_in {n i : Nat} (hi : i < n) : (un n : MF R) i i = 1 := if_pos ⟨rfl, hi⟩
theorem un_out {n i j : Nat} (h : i ≠ j) : (un n : MF R) i j = 0 := if_neg (by omega)
theorem un_mm {n : Nat} {A : MF R} (hA : Sup n A) : mm n (un n) A = A := by
  refine sup_ext (mm_sup (un_sup n) hA) hA fun i j hi hj => ?_
  refine Eq.trans (su_congr fun k hk => ?_) (su_one hi (fun k => A k j))
  show (if i = k ∧ i < n then (1 : R) else 0) * A k j = if i = k then A k j else 0
  by_cases h : i = k
  · rw [if_pos ⟨h, hi⟩, if_pos h]; grind
  · rw [if_neg (fun z => h z.1), if_neg h]; grind
theorem mm_un {n : Nat} {A : MF R} (hA : Sup n A) : mm n A (un n) = A := by
  refine sup_ext (mm_sup hA (un_sup n)) hA fun i j hi hj => ?_
  refine Eq.trans (su_congr fun k hk => ?_) (su_one hj (fun k => A i k))
  show A i k * (if k = j ∧ k < n then (1 : R) else 0) = if j = k then A i k else 0
  by_cases h : j = k
  · rw [if_pos ⟨h.symm, hk⟩, if_pos h]; grind
  · rw [if_neg (fun z => h z.1.symm), if_neg h]; grind
/-- tables that undo one another -/
structure Un (n : Nat) (P Q : MF R) : Prop where
  sp : Sup n P
  sq : Sup n Q
  pq : mm n P Q = un n
  qp : mm n Q P = un n
theorem Un.symm {n : Nat} {P Q : MF R} (h : Un n P Q) : Un n Q P := ⟨h.sq, h.sp, h.qp, h.pq⟩
theorem Un.one (n : Nat) : Un n (un n : MF R) (un n) := ⟨un_sup n, un_sup n, un_mm (un_sup n), un_mm (un_sup n)⟩
theorem Un.left {n : Nat} {P Q : MF R} (h : Un n P Q) {A : MF R} (hA : Sup n A) : mm n P (mm n Q A) = A := by
  rw [← mm_assoc, h.pq, un_mm hA]
theorem Un.right {n : Nat} {P Q : MF R} (h : Un n P Q) {A : MF R} (hA : Sup n A) : mm n (mm n A P) Q = A := by
  rw [mm_assoc, h.pq, mm_un hA]
theorem Un.mul {n : Nat} {P Q P2 Q2 : MF R} (h : Un n P Q) (h2 : Un n P2 Q2) : Un n (mm n P P2) (mm n Q2 Q) := by
  refine ⟨mm_sup h.sp h2.sp, mm_sup h2.sq h.sq, ?_, ?_⟩
  · rw [mm_assoc, h2.left h.sq, h.pq]
  · rw [mm_assoc, h.symm.left h2.sp, h2.qp]
/-- some of a row to another -/
def rowAdd (i j : Nat) (c : R) (A : MF R) : MF R := fun k l => if k = i then A i l + c * A j l else A k l
def colAdd (i j : Nat) (c : R) (A : MF R) : MF R := fun k l => if l = i then A k i + c * A k j else A k l
theorem mm_rowAdd (n i j : Nat) (c : R) (A B : MF R) : mm n (rowAdd i j c A) B = rowAdd i j c (mm n A B) := by
  funext k l
  by_cases h : k = i
  · subst h
    show su n (fun m => (if k = k then A k m + c * A j m else A k m) * B m l) = if k = k then su n (fun m => A k m * B m l) + c * su n (fun m => A j m * B m l) else su n (fun m => A k m * B m l)
    rw [if_pos rfl, ← su_mul, ← su_add]
    exact su_congr fun m _ => by rw [if_pos rfl]; grind
  · show su n (fun m => (if k = i then A i m + c * A j m else A k m) * B m l) = if k = i then _ else su n (fun m => A k m * B m l)
    rw [if_neg h]
    exact su_congr fun m _ => by rw [if_neg h]
theorem mm_colAdd (n i j : Nat) (c : R) (A B : MF R) : mm n A (colAdd i j c B) = colAdd i j c (mm n A B) := by
  funext k l
  by_cases h : l = i
  · subst h
    show su n (fun m => A k m * (if l = l then B m l + c * B m j else B m l)) = if l = l then su n (fun m => A k m * B m l) + c * su n (fun m => A k m * B m j) else su n (fun m => A k m * B m l)
    rw [if_pos rfl, ← su_mul, ← su_add]
    exact su_congr fun m _ => by rw [if_pos rfl]; grind
  · show su n (fun m => A k m * (if l = i then B m i + c * B m j else B m l)) = if l = i then _ else su n (fun m => A k m * B m l)
    rw [if_neg h]
    exact su_congr fun m _ => by rw [if_neg h]
theorem rowAdd_sup {n i j : Nat} {c : R} {A : MF R} (hi : i < n) (h : Sup n A) : Sup n (rowAdd i j c A) := fun k l hk => by
  unfold rowAdd
  split
  · rename_i e
    subst e
    rw [h k l hk, h j l (by omega)]; grind
  · exact h k l hk
theorem colAdd_sup {n i j : Nat} {c : R} {A : MF R} (hi : i < n) (h : Sup n A) : Sup n (colAdd i j c A) := fun k l hk => by
  unfold colAdd
  split
  · rename_i e
    subst e
    rw [h k l hk, h k j (by omega)]; grind
  · exact h k l hk
theorem rowAdd_undo {i j : Nat} (hij : i ≠ j) (c : R) (A : MF R) : rowAdd i j c (rowAdd i j (-c) A) = A := by
  funext k l
  unfold rowAdd
  by_cases h : k = i
  · subst h
    rw [if_pos rfl, if_pos rfl, if_neg (fun e => hij e.symm)]; grind
  · rw [if_neg h, if_neg h]
theorem colAdd_undo {i j : Nat} (hij : i ≠ j) (c : R) (A : MF R) : colAdd i j c (colAdd i j (-c) A) = A := by
  funext k l
  unfold colAdd
  by_cases h : l = i
  · subst h
    rw [if_pos rfl, if_pos rfl, if_neg (fun e => hij e.symm)]; grind
  · rw [if_neg h, if_neg h]
theorem Un.row {n i j : Nat} (hi : i < n) (hij : i ≠ j) (c : R) : Un n (rowAdd i j c (un n)) (rowAdd i j (-c) (un n)) := by
  have h : ∀ c : R, mm n (rowAdd i j c (un n)) (rowAdd i j (-c) (un n)) = un n := fun c => by
    rw [mm_rowAdd, un_mm (rowAdd_sup hi (un_sup n)), rowAdd_undo hij]
  have h2 := h (-c)
  rw [show - -c = c by grind] at h2
  exact ⟨rowAdd_sup hi (un_sup n), rowAdd_sup hi (un_sup n), h c, h2⟩
theorem Un.col {n i j : Nat} (hi : i < n) (hij : i ≠ j) (c : R) : Un n (colAdd i j c (un n)) (colAdd i j (-c) (un n)) := by
  have h : ∀ c : R, mm n (colAdd i j (-c) (un n)) (colAdd i j c (un n)) = un n := fun c => by
    rw [mm_colAdd, mm_un (colAdd_sup hi (un_sup n)), colAdd_undo hij]
  have h2 := h (-c)
  rw [show - -c = c by grind] at h2
  exact ⟨colAdd_sup hi (un_sup n), colAdd_sup hi (un_sup n), h2, h c⟩
/-- one from the other by such tables -/
def Eqv (n : Nat) (A B : MF R) : Prop := ∃ P P' Q Q' : MF R, Un n P P' ∧ Un n Q Q' ∧ A = mm n (mm n P B) Q
theorem Eqv.refl {n : Nat} {A : MF R} (hA : Sup n A) : Eqv n A A := ⟨_, _, _, _, Un.one n, Un.one n, by rw [un_mm hA, mm_un hA]⟩
theorem Eqv.row {n : Nat} {A B : MF R} (h : Eqv n A B) (hB : Sup n B) {i j : Nat} (hi : i < n) (hij : i ≠ j) (c : R) : Eqv n A (rowAdd i j c B) := by
  obtain ⟨P, P', Q, Q', h1, h2, h3⟩ := h
  have hu := Un.row (n := n) hi hij c
  refine ⟨_, _, Q, Q', h1.mul hu.symm, h2, ?_⟩
  rw [mm_assoc n P, mm_rowAdd, un_mm (rowAdd_sup hi hB)]
  have e : rowAdd i j (-c) (rowAdd i j c B) = B := by
    have := rowAdd_undo hij (-c) B
    rwa [show - -c = c by grind] at this
  rw [e, h3]
theorem Eqv.col {n : Nat} {A B : MF R} (h : Eqv n A B) (hB : Sup n B) {i j : Nat} (hi : i < n) (hij : i ≠ j) (c : R) : Eqv n A (colAdd i j c B) := by
  obtain ⟨P, P', Q, Q', h1, h2, h3⟩ := h
  have hu := Un.col (n := n) hi hij c
  refine ⟨P, P', _, _, h1, hu.symm.mul h2, ?_⟩
  have e : mm n (colAdd i j c B) (colAdd i j (-c) (un n)) = B := by
    rw [mm_colAdd, mm_un (colAdd_sup hi hB)]
    have := colAdd_undo hij (-c) B
    rwa [show - -c = c by grind] at this
  rw [← mm_assoc, mm_assoc n P, e, h3]
end
end Ma
/-! Each table of polynomials is one along the diagonal, each of which goes into the next, but for tables that can be undone. -/
namespace Ma
open AlOne
/-- done up to t -/
structure Cd (n t : Nat) (A B : MF P) : Prop where
  e : Eqv n A B
  s : Sup n B
  z : ∀ i j, i < t → j ≠ i → B i j = 0 ∧ B j i = 0
  d : ∀ i k l, i < t → i ≤ k → i ≤ l → P.Dvd (B i i) (B k l)
variable {n t : Nat} {A B : MF P}
theorem Cd.row (h : Cd n t A B) {i j : Nat} (hi : t ≤ i) (hj : t ≤ j) (hin : i < n) (hij : i ≠ j) (c : P) : Cd n t A (rowAdd i j c B) := by
  refine ⟨h.e.row h.s hin hij c, rowAdd_sup hin h.s, fun a b ha hb => ⟨?_, ?_⟩, fun a k l ha hk hl => ?_⟩
  · unfold rowAdd
    rw [if_neg (by omega)]
    exact (h.z a b ha hb).1
  · unfold rowAdd
    split
    · rw [(h.z a i ha (by omega)).2, (h.z a j ha (by omega)).2]; grind
    · exact (h.z a b ha hb).2
  · have e : rowAdd i j c B a a = B a a := by unfold rowAdd; rw [if_neg (by omega)]
    rw [e]
    unfold rowAdd
    split
    · exact (h.d a i l ha (by omega) hl).add ((h.d a j l ha (by omega) hl).mul c)
    · exact h.d a k l ha hk hl
theorem Cd.col (h : Cd n t A B) {i j : Nat} (hi : t ≤ i) (hj : t ≤ j) (hin : i < n) (hij : i ≠ j) (c : P) : Cd n t A (colAdd i j c B) := by
  refine ⟨h.e.col h.s hin hij c, colAdd_sup hin h.s, fun a b ha hb => ⟨?_, ?_⟩, fun a k l ha hk hl => ?_⟩
  · unfold colAdd
    split
    · rw [(h.z a i ha (by omega)).1, (h.z a j ha (by omega)).1]; grind
    · exact (h.z a b ha hb).1
  · unfold colAdd
    rw [if_neg (by omega)]
    exact (h.z a b ha hb).2
  · have e : colAdd i j c B a a = B a a := by unfold colAdd; rw [if_neg (by omega)]
    rw [e]
    unfold colAdd
    split
    · exact (h.d a k i ha hk (by omega)).add ((h.d a k j ha hk (by omega)).mul c)
    · exact h.d a k l ha hk hl
theorem Cd.bringRow (h : Cd n t A B) {k : Nat} (hk : t ≤ k) (hkn : k < n) : ∃ B', Cd n t A B' ∧ ∀ l, B' t l = B k l := by
  by_cases e : k = t
  · subst e; exact ⟨B, h, fun l => rfl⟩
  · have h1 := h.row (i := t) (j := k) (Nat.le_refl _) hk (by omega) (fun x => e x.symm) 1
    have h2 := h1.row (i := k) (j := t) hk (Nat.le_refl _) hkn e (-1)
    have h3 := h2.row (i := t) (j := k) (Nat.le_refl _) hk (by omega) (fun x => e x.symm) 1
    refine ⟨_, h3, fun l => ?_⟩
    unfold rowAdd
    have e2 : ¬ t = k := fun x => e x.symm
    simp only [if_pos rfl, if_neg e, if_neg e2]
    simp only [if_true]
    grind
theorem Cd.bringCol (h : Cd n t A B) {k : Nat} (hk : t ≤ k) (hkn : k < n) : ∃ B', Cd n t A B' ∧ ∀ l, B' l t = B l k := by
  by_cases e : k = t
  · subst e; exact ⟨B, h, fun l => rfl⟩
  · have h1 := h.col (i := t) (j := k) (Nat.le_refl _) hk (by omega) (fun x => e x.symm) 1
    have h2 := h1.col (i := k) (j := t) hk (Nat.le_refl _) hkn e (-1)
    have h3 := h2.col (i := t) (j := k) (Nat.le_refl _) hk (by omega) (fun x => e x.symm) 1
    refine ⟨_, h3, fun l => ?_⟩
    unfold colAdd
    have e2 : ¬ t = k := fun x => e x.symm
    simp only [if_pos rfl, if_neg e, if_neg e2]
    simp only [if_true]
    grind
/-- nothing shorter to be had -/
def Lo (n t : Nat) (A : MF P) (m : Nat) : Prop := ∀ B, Cd n t A B → ∀ k l, t ≤ k → t ≤ l → B k l ≠ 0 → m ≤ (B k l).len
theorem Cd.divRow {m : Nat} (hL : Lo n t A m) (h : Cd n t A B) (h0 : B t t ≠ 0) (hm : (B t t).len = m) {j : Nat} (hj : t < j) : P.Dvd (B t t) (B t j) := by
  by_cases hjn : j < n
  · obtain ⟨q, r, _, h1, h2⟩ := divMod_spec (B t j) (B t t) h0
    have hc := h.col (i := j) (j := t) (by omega) (Nat.le_refl _) hjn (by omega) (-q)
    have e : colAdd j t (-q) B t j = r := by
      unfold colAdd
      rw [if_pos rfl, h1]; grind
    by_cases hr : r = 0
    · exact ⟨q, by rw [h1, hr]; grind⟩
    · have := hL _ hc t j (Nat.le_refl _) (by omega) (by rw [e]; exact hr)
      rw [e] at this
      omega
  · rw [h.s t j (by omega)]; exact P.Dvd.zero _
theorem Cd.divCol {m : Nat} (hL : Lo n t A m) (h : Cd n t A B) (h0 : B t t ≠ 0) (hm : (B t t).len = m) {j : Nat} (hj : t < j) : P.Dvd (B t t) (B j t) := by
  by_cases hjn : j < n
  · obtain ⟨q, r, _, h1, h2⟩ := divMod_spec (B j t) (B t t) h0
    have hc := h.row (i := j) (j := t) (by omega) (Nat.le_refl _) hjn (by omega) (-q)
    have e : rowAdd j t (-q) B j t = r := by
      unfold rowAdd
      rw [if_pos rfl, h1]; grind
    by_cases hr : r = 0
    · exact ⟨q, by rw [h1, hr]; grind⟩
    · have := hL _ hc j t (by omega) (Nat.le_refl _) (by rw [e]; exact hr)
      rw [e] at this
      omega
  · rw [h.s j t (by omega)]; exact P.Dvd.zero _
theorem Cd.clearRow {m : Nat} (hL : Lo n t A m) (h : Cd n t A B) (h0 : B t t ≠ 0) (hm : (B t t).len = m) : ∀ w, ∃ B', Cd n t A B' ∧ B' t t = B t t ∧ ∀ j, t < j → j < w → B' t j = 0
  | 0 => ⟨B, h, rfl, fun j _ hj => by omega⟩
  | w + 1 => by
    obtain ⟨B', h1, h2, h3⟩ := Cd.clearRow hL h h0 hm w
    by_cases hw : t < w ∧ w < n
    · obtain ⟨q, hq⟩ := h1.divRow hL (by rw [h2]; exact h0) (by rw [h2]; exact hm) hw.1
      refine ⟨_, h1.col (i := w) (j := t) (by omega) (Nat.le_refl _) hw.2 (by omega) (-q), ?_, fun j hj hjw => ?_⟩
      · unfold colAdd; rw [if_neg (by omega)]; exact h2
      · unfold colAdd
        split
        · rw [hq]; grind
        · exact h3 j hj (by omega)
    · refine ⟨B', h1, h2, fun j hj hjw => ?_⟩
      by_cases e : j = w
      · exact h1.s t j (by omega)
      · exact h3 j hj (by omega)
theorem Cd.clearCol {m : Nat} (hL : Lo n t A m) (h : Cd n t A B) (h0 : B t t ≠ 0) (hm : (B t t).len = m) (hz : ∀ j, t < j → B t j = 0) : ∀ w, ∃ B', Cd n t A B' ∧ B' t t = B t t ∧ (∀ j, t < j → B' t j = 0) ∧ ∀ j, t < j → j < w → B' j t = 0
  | 0 => ⟨B, h, rfl, hz, fun j _ hj => by omega⟩
  | w + 1 => by
    obtain ⟨B', h1, h2, h3, h4⟩ := Cd.clearCol hL h h0 hm hz w
    by_cases hw : t < w ∧ w < n
    · obtain ⟨q, hq⟩ := h1.divCol hL (by rw [h2]; exact h0) (by rw [h2]; exact hm) hw.1
      refine ⟨_, h1.row (i := w) (j := t) (by omega) (Nat.le_refl _) hw.2 (by omega) (-q), ?_, fun j hj => ?_, fun j hj hjw => ?_⟩
      · unfold rowAdd; rw [if_neg (by omega)]; exact h2
      · unfold rowAdd; rw [if_neg (by omega)]; exact h3 j hj
      · unfold rowAdd
        split
        · rw [hq]; grind
        · exact h4 j hj (by omega)
    · refine ⟨B', h1, h2, h3, fun j hj hjw => ?_⟩
      by_cases e : j = w
      · exact h1.s j t (by omega)
      · exact h4 j hj (by omega)
theorem Cd.next (ht : t < n) (h : Cd n t A B) : ∃ B', Cd n (t + 1) A B' := by
  by_cases hz : ∀ k l, t ≤ k → t ≤ l → B k l = 0
  · refine ⟨B, h.e, h.s, fun i j hi hj => ?_, fun i k l hi hk hl => ?_⟩
    · by_cases e : i < t
      · exact h.z i j e hj
      · have e2 : i = t := by omega
        subst e2
        by_cases hjt : j < i
        · exact (h.z j i hjt (by omega)).symm
        · exact ⟨hz i j (by omega) (by omega), hz j i (by omega) (by omega)⟩
    · by_cases e : i < t
      · exact h.d i k l e hk hl
      · rw [hz k l (by omega) (by omega)]; exact P.Dvd.zero _
  · have hex : ∃ k l, t ≤ k ∧ t ≤ l ∧ B k l ≠ 0 := by
      refine Classical.byContradiction fun hn => hz fun k l hk hl => Classical.byContradiction fun h0 => hn ⟨k, l, hk, hl, h0⟩
    obtain ⟨k, l, hk, hl, h0⟩ := hex
    obtain ⟨m, ⟨B1, k1, l1, c1, hk1, hl1, n1, e1⟩, hmin⟩ := least_of (fun m => ∃ B k l, Cd n t A B ∧ t ≤ k ∧ t ≤ l ∧ B k l ≠ 0 ∧ (B k l).len = m) (B k l).len ⟨B, k, l, h, hk, hl, h0, rfl⟩
    have hL : Lo n t A m := fun B2 c2 k2 l2 hk2 hl2 n2 => by
      refine Classical.byContradiction fun hlt => hmin (B2 k2 l2).len (by omega) ⟨B2, k2, l2, c2, hk2, hl2, n2, rfl⟩
    have hkn : k1 < n ∧ l1 < n := Classical.byContradiction fun hh => n1 (c1.s k1 l1 hh)
    obtain ⟨B2, c2, h2⟩ := c1.bringRow hk1 hkn.1
    obtain ⟨B3, c3, h3⟩ := c2.bringCol hl1 hkn.2
    have e3 : B3 t t = B1 k1 l1 := by rw [h3, h2]
    obtain ⟨B4, c4, e4, z4⟩ := c3.clearRow hL (by rw [e3]; exact n1) (by rw [e3]; exact e1) n
    have z4' : ∀ j, t < j → B4 t j = 0 := fun j hj => by
      by_cases hjn : j < n
      · exact z4 j hj hjn
      · exact c4.s t j (by omega)
    have e4' : B4 t t = B1 k1 l1 := by rw [e4, e3]
    obtain ⟨B5, c5, e5, z5, y5⟩ := c4.clearCol hL (by rw [e4']; exact n1) (by rw [e4']; exact e1) z4' n
    have y5' : ∀ j, t < j → B5 j t = 0 := fun j hj => by
      by_cases hjn : j < n
      · exact y5 j hj hjn
      · exact c5.s j t (by omega)
    have e5' : B5 t t = B1 k1 l1 := by rw [e5, e4']
    refine ⟨B5, c5.e, c5.s, fun i j hi hj => ?_, fun i k l hi hka hla => ?_⟩
    · by_cases e : i < t
      · exact c5.z i j e hj
      · have e2 : i = t := by omega
        subst e2
        by_cases hjt : j < i
        · exact (c5.z j i hjt (by omega)).symm
        · exact ⟨z5 j (by omega), y5' j (by omega)⟩
    · by_cases e : i < t
      · exact c5.d i k l e hka hla
      · have e2 : i = t := by omega
        subst e2
        by_cases hki : k = i
        · subst hki
          by_cases hli : l = k
          · subst hli; exact P.Dvd.refl _
          · rw [z5 l (by omega)]; exact P.Dvd.zero _
        · by_cases hli : l = i
          · subst hli; rw [y5' k (by omega)]; exact P.Dvd.zero _
          · have c6 := c5.row (i := i) (j := k) (Nat.le_refl _) hka ht (fun e => hki e.symm) 1
            have f1 : rowAdd i k 1 B5 i i = B5 i i := by
              unfold rowAdd; rw [if_pos rfl, y5' k (by omega)]; grind
            have f2 : rowAdd i k 1 B5 i l = B5 k l := by
              unfold rowAdd; rw [if_pos rfl, z5 l (by omega)]; grind
            have := c6.divRow hL (by rw [f1, e5']; exact n1) (by rw [f1, e5']; exact e1) (j := l) (by omega)
            rwa [f1, f2] at this
theorem Cd.all (hA : Sup n A) : ∀ t, t ≤ n → ∃ B, Cd n t A B
  | 0, _ => ⟨A, Eqv.refl hA, hA, fun i j hi => by omega, fun i k l hi => by omega⟩
  | t + 1, ht => by
    obtain ⟨B, hB⟩ := Cd.all hA t (by omega)
    exact hB.next (by omega)
/-- along the diagonal -/
def dgP (n : Nat) (d : Nat → P) : MF P := fun i j => if i = j ∧ i < n then d i else 0
theorem dgP_sup (n : Nat) (d : Nat → P) : Sup n (dgP n d) := fun i j h => if_neg (by omega)
theorem smith (hA : Sup n A) : ∃ d : Nat → P, Eqv n A (dgP n d) ∧ ∀ i j, i ≤ j → j < n → P.Dvd (d i) (d j) := by
  obtain ⟨B, hB⟩ := Cd.all hA n (Nat.le_refl _)
  have e : B = dgP n fun i => B i i := by
    refine sup_ext hB.s (dgP_sup n _) fun i j hi hj => ?_
    unfold dgP
    by_cases h : i = j
    · subst h; rw [if_pos ⟨rfl, hi⟩]
    · rw [if_neg (fun z => h z.1)]; exact (hB.z i j hi (fun z => h z.symm)).1
  refine ⟨fun i => B i i, by rw [← e]; exact hB.e, fun i j hij hj => hB.d i j j (by omega) hij hij⟩
end Ma
/-! The forms are what stands along the diagonal. -/
namespace Ma
open AlOne
theorem self_neg {p : P} (h : p = -p) : p = 0 := by
  apply P.ext'
  intro i
  have := congrArg (fun q => P.c q i) h
  rw [show P.c (0 : P) i = 0 by rw [P.c, P.zero_val]; exact co_nil i]
  have h2 : p.c i = (-p).c i := this
  rw [P.c_neg] at h2
  grind
theorem dvd_ins {F : List Nat → P} (hF : AltP F) {g : P} {n k : Nat} (h : ∀ s : List Nat, s.Pairwise (· < ·) → (∀ x ∈ s, x < n) → s.length = k + 1 → P.Dvd g (F s)) :
    ∀ (l pre : List Nat) (x : Nat), (pre ++ l).Pairwise (· < ·) → (∀ y ∈ pre, y < x) → x < n → (∀ y ∈ pre ++ l, y < n) → (pre ++ l).length = k → P.Dvd g (F (pre ++ x :: l))
  | [], pre, x, h1, h2, h3, h4, h5 => by
    rw [List.append_nil] at h1 h4 h5
    refine h _ ?_ ?_ (by rw [List.length_append, h5]; rfl)
    · rw [List.pairwise_append]
      exact ⟨h1, List.pairwise_singleton _ _, fun a ha b hb => by rw [List.mem_singleton] at hb; rw [hb]; exact h2 a ha⟩
    · intro y hy
      rcases List.mem_append.mp hy with e | e
      · exact h4 y e
      · rw [List.mem_singleton] at e; omega
  | y :: l, pre, x, h1, h2, h3, h4, h5 => by
    have hl : (pre ++ y :: l).Pairwise (· < ·) := h1
    rw [List.pairwise_append] at hl
    obtain ⟨p1, p2, p3⟩ := hl
    rw [List.pairwise_cons] at p2
    rcases Nat.lt_trichotomy x y with e | e | e
    · refine h _ ?_ ?_ (by rw [List.length_append] at h5 ⊢; simp only [List.length_cons] at h5 ⊢; omega)
      · rw [List.pairwise_append, List.pairwise_cons, List.pairwise_cons]
        refine ⟨p1, ⟨fun a ha => ?_, p2⟩, fun a ha b hb => ?_⟩
        · rcases List.mem_cons.mp ha with e2 | e2
          · omega
          · have := p2.1 a e2; omega
        · have := h2 a ha
          rcases List.mem_cons.mp hb with e2 | e2
          · omega
          · exact p3 a ha b e2
      · intro z hz
        rcases List.mem_append.mp hz with e2 | e2
        · exact h4 z (List.mem_append.mpr (.inl e2))
        · rcases List.mem_cons.mp e2 with e3 | e3
          · omega
          · exact h4 z (List.mem_append.mpr (.inr e3))
    · subst e
      have := hF pre x x l
      rw [self_neg this]; exact P.Dvd.zero _
    · rw [hF pre x y l]
      have e1 : pre ++ y :: x :: l = (pre ++ [y]) ++ x :: l := by simp
      have e2 : pre ++ y :: l = (pre ++ [y]) ++ l := by simp
      rw [e1]
      rw [e2] at h1 h4 h5
      refine (dvd_ins hF h l (pre ++ [y]) x h1 (fun z hz => ?_) h3 h4 h5).neg
      rcases List.mem_append.mp hz with e3 | e3
      · exact h2 z e3
      · rw [List.mem_singleton] at e3; omega
theorem dvd_any {g : P} {n : Nat} : ∀ (k : Nat) (F : List Nat → P), AltP F → (∀ s : List Nat, s.Pairwise (· < ·) → (∀ x ∈ s, x < n) → s.length = k → P.Dvd g (F s)) → ∀ l : List Nat, l.length = k → (∀ x ∈ l, x < n) → P.Dvd g (F l)
  | 0, F, hF, h, [], _, _ => h [] List.Pairwise.nil (fun x hx => by cases hx) rfl
  | k + 1, F, hF, h, x :: t, hl, hx => by
    refine dvd_any k (fun s => F (x :: s)) (fun u a b w => hF (x :: u) a b w) (fun s h1 h2 h3 => ?_) t (by simpa using hl) fun y hy => hx y (List.mem_cons_of_mem _ hy)
    exact dvd_ins hF h s [] x h1 (fun y hy => by cases hy) (hx x List.mem_cons_self) h2 h3
/-- something goes into all determinants of k rows and columns -/
def AllDv (g : P) (n k : Nat) (A : MF P) : Prop := ∀ I J : List Nat, I.length = k → J.length = k → (∀ i ∈ I, i < n) → (∀ j ∈ J, j < n) → P.Dvd g (dq (I.map A) J)
theorem AllDv.of {g : P} {n k : Nat} {A : MF P} (h : ∀ I J : List Nat, I.Pairwise (· < ·) → J.Pairwise (· < ·) → I.length = k → J.length = k → (∀ i ∈ I, i < n) → (∀ j ∈ J, j < n) → P.Dvd g (dq (I.map A) J)) : AllDv g n k A := by
  intro I J hI hJ hi hj
  refine dvd_any k (fun I => dq (I.map A) J) (fun u a b w => ?_) (fun s h1 h2 h3 => ?_) I hI hi
  · show dq ((u ++ a :: b :: w).map A) J = - dq ((u ++ b :: a :: w).map A) J
    rw [List.map_append, List.map_append]
    exact dq_altR J _ _ _ _
  · refine dvd_any k (dq (s.map A)) (dq_alt _) (fun s' h1' h2' h3' => ?_) J hJ hj
    exact h s s' h1 h1' h3 h3' h2 h2'
theorem AllDv.tr {g : P} {n k : Nat} {A : MF P} (h : AllDv g n k A) : AllDv g n k (fun i j => A j i) := by
  intro I J hI hJ hi hj
  have := dq_tr A I J
  rw [← this]
  exact h J I hJ hI hj hi
theorem dq_zrow (pre post : List RwP) (cs : List Nat) : dq (pre ++ (fun _ => 0) :: post) cs = 0 := by
  have := dq_mid (-1) (fun _ => 0) (fun _ => 0) post pre cs
  have e : (fun x : Nat => (-1 : P) * 0 + 0) = fun _ => 0 := by funext x; grind
  rw [e] at this
  grind
theorem dq_sum (pre post : List RwP) (c : Nat → P) (R : Nat → RwP) (cs : List Nat) : ∀ n : Nat, dq (pre ++ (fun x => su n (fun k => c k * R k x)) :: post) cs = su n (fun k => c k * dq (pre ++ R k :: post) cs)
  | 0 => dq_zrow pre post cs
  | n + 1 => by
    have e : (fun x => su (n + 1) (fun k => c k * R k x)) = fun x => c n * R n x + (fun x => su n (fun k => c k * R k x)) x := by
      funext x; rw [su]; grind
    rw [e, dq_mid, dq_sum pre post c R cs n, su]; grind
theorem dvd_su {g : P} {f : Nat → P} : ∀ {n : Nat}, (∀ k, k < n → P.Dvd g (f k)) → P.Dvd g (su n f)
  | 0, _ => P.Dvd.zero _
  | n + 1, h => (dvd_su fun k hk => h k (by omega)).add (h n (by omega))
theorem dq_rows {g : P} {n : Nat} {A B C : MF P} (hA : ∀ i, A i = fun x => su n (fun k => C i k * B k x)) (J : List Nat) : ∀ (I : List Nat) (pre : List RwP), (∀ K : List Nat, K.length = I.length → (∀ k ∈ K, k < n) → P.Dvd g (dq (pre ++ K.map B) J)) → P.Dvd g (dq (pre ++ I.map A) J)
  | [], pre, h => h [] rfl (fun k hk => by cases hk)
  | i :: I, pre, h => by
    have e : pre ++ (i :: I).map A = (pre ++ [A i]) ++ I.map A := by simp
    rw [e]
    refine dq_rows hA J I (pre ++ [A i]) fun K hK hk => ?_
    have e2 : (pre ++ [A i]) ++ K.map B = pre ++ A i :: K.map B := by simp
    rw [e2, hA i, dq_sum]
    refine dvd_su fun m hm => P.Dvd.mul ?_ _
    refine h (m :: K) (by simp [hK]) fun k hk' => ?_
    rcases List.mem_cons.mp hk' with e3 | e3
    · omega
    · exact hk k e3
theorem AllDv.left {g : P} {n k : Nat} {B : MF P} (h : AllDv g n k B) (C : MF P) : AllDv g n k (mm n C B) := by
  intro I J hI hJ hi hj
  refine dq_rows (n := n) (A := mm n C B) (B := B) (C := C) (fun i => rfl) J I [] fun K hK hk => ?_
  exact h K J (hK.trans hI) hJ hk hj
theorem AllDv.right {g : P} {n k : Nat} {B : MF P} (h : AllDv g n k B) (C : MF P) : AllDv g n k (mm n B C) := by
  have h1 := (h.tr.left (fun i j => C j i)).tr
  have e : (fun i j => mm n (fun i j => C j i) (fun i j => B j i) j i) = mm n B C := by
    funext i j
    exact su_congr fun k _ => by grind
  rwa [e] at h1
theorem lapP_zr {A : Type} (f : List A → P) {r : A → P} : ∀ (cs pre : List A), (∀ c ∈ cs, r c = 0) → lapP f r pre cs = 0
  | [], _, _ => rfl
  | c :: cs, pre, h => by
    rw [lapP, h c List.mem_cons_self, lapP_zr f cs _ fun x hx => h x (List.mem_cons_of_mem _ hx)]; grind
theorem dq_dgP {n : Nat} (d : Nat → P) : ∀ (m s : Nat), s + m ≤ n → dq ((List.range' s m).map (dgP n d)) (List.range' s m) = prodP ((List.range' s m).map d)
  | 0, s, _ => rfl
  | m + 1, s, h => by
    rw [List.range'_succ]
    show sgP ([] : List Nat) * dgP n d s s * dq ((List.range' (s + 1) m).map (dgP n d)) ([] ++ List.range' (s + 1) m) + lapP _ (dgP n d s) ([] ++ [s]) (List.range' (s + 1) m) = d s * prodP ((List.range' (s + 1) m).map d)
    rw [lapP_zr _ _ _ fun c hc => ?_, List.nil_append, dq_dgP d m (s + 1) (by omega)]
    · have e1 : sgP ([] : List Nat) = 1 := rfl
      have e2 : dgP n d s s = d s := if_pos ⟨rfl, by omega⟩
      rw [e1, e2]; grind
    · rw [List.mem_range'_1] at hc
      exact if_neg (by omega)
theorem dvd_mul2 {a b c d : P} (h : P.Dvd a b) (h2 : P.Dvd c d) : P.Dvd (a * c) (b * d) := by
  obtain ⟨x, hx⟩ := h
  obtain ⟨y, hy⟩ := h2
  exact ⟨x * y, by rw [hx, hy]; grind⟩
theorem prod_sorted {n : Nat} {d : Nat → P} (hd : ∀ i j, i ≤ j → j < n → P.Dvd (d i) (d j)) : ∀ (I : List Nat) (s : Nat), I.Pairwise (· < ·) → (∀ i ∈ I, s ≤ i) → (∀ i ∈ I, i < n) → P.Dvd (prodP ((List.range' s I.length).map d)) (prodP (I.map d))
  | [], s, _, _, _ => P.Dvd.refl _
  | x :: I, s, h1, h2, h3 => by
    rw [List.pairwise_cons] at h1
    rw [List.length_cons, List.range'_succ]
    have hx := h2 x List.mem_cons_self
    refine dvd_mul2 (hd s x hx (h3 x List.mem_cons_self)) (prod_sorted hd I (s + 1) h1.2 (fun i hi => ?_) fun i hi => h3 i (List.mem_cons_of_mem _ hi))
    have := h1.1 i hi
    omega
theorem dgP_all {n : Nat} {d : Nat → P} (hd : ∀ i j, i ≤ j → j < n → P.Dvd (d i) (d j)) (k : Nat) : AllDv (prodP ((List.range' 0 k).map d)) n k (dgP n d) := by
  refine AllDv.of fun I J hI hJ h1 h2 h3 h4 => ?_
  subst h1
  refine (prod_sorted hd I 0 hI (fun i _ => Nat.zero_le _) h3).trans (dq_dvd (dgP n d) d (fun i x => ?_) I J)
  unfold dgP
  split
  · exact P.Dvd.refl _
  · exact P.Dvd.zero _
/-- x less the table, by places -/
def xm (a : Al09.Table) : MF P := fun i j => ((lessP a).getD i []).getD j 0
theorem xm_sup {n : Nat} {a : Al09.Table} (h : Sq n a) : Sup n (xm a) := fun i j hij => by
  have hx := lessP_isX h
  unfold xm
  by_cases hi : i < n
  · have := hx.wid _ (hx.mem hi)
    rw [List.getD_eq_getElem?_getD, List.getElem?_eq_none (by omega)]; rfl
  · rw [List.getD_eq_getElem?_getD (l := lessP a), List.getElem?_eq_none (by rw [hx.rows]; omega)]
    rfl
theorem lessP_range {n : Nat} {a : Al09.Table} (h : Sq n a) : lessP a = (List.range n).map fun i => (lessP a).getD i [] := by
  have hx := lessP_isX h
  apply List.ext_getElem
  · simp [hx.rows]
  · intro i h1 h2
    simp [List.getD_eq_getElem?_getD, h1]
theorem sub_range : ∀ (m s : Nat) (l : List Nat), l.Pairwise (· < ·) → (∀ x ∈ l, s ≤ x ∧ x < s + m) → l.Sublist (List.range' s m)
  | 0, s, [], _, _ => List.Sublist.slnil
  | 0, s, x :: l, _, h => by have := h x List.mem_cons_self; omega
  | m + 1, s, [], _, _ => List.nil_sublist _
  | m + 1, s, x :: l, h1, h2 => by
    rw [List.range'_succ]
    rw [List.pairwise_cons] at h1
    have hx := h2 x List.mem_cons_self
    by_cases e : x = s
    · subst e
      refine List.Sublist.cons_cons x (sub_range m (x + 1) l h1.2 fun y hy => ?_)
      have := h1.1 y hy
      have := h2 y (List.mem_cons_of_mem _ hy)
      omega
    · refine List.Sublist.cons s (sub_range m (s + 1) (x :: l) (List.pairwise_cons.mpr h1) fun y hy => ?_)
      have := h2 y hy
      rcases List.mem_cons.mp hy with e2 | e2
      · omega
      · have := h1.1 y e2; omega
theorem minor_dq {n : Nat} {a : Al09.Table} (h : Sq n a) {k : Nat} {I J : List Nat} (hI : I.length = k) (hJ : J.length = k) : detP k (pick (I.map fun i => (lessP a).getD i []) J) = dq (I.map (xm a)) J := by
  rw [det_dq k _ J (by rw [List.length_map]; exact hI) hJ, List.map_map]
  rfl
theorem dP_allDv {n : Nat} {a : Al09.Table} (h : Sq n a) (k : Nat) : AllDv (dP a k) n k (xm a) := by
  refine AllDv.of fun I J hI hJ h1 h2 h3 h4 => ?_
  rw [← minor_dq h h1 h2]
  refine dP_each (mem_minors.mpr ⟨_, J, ?_, by rw [List.length_map]; exact h1, ?_, h2, rfl⟩)
  · conv => rhs; rw [lessP_range h]
    refine List.Sublist.map _ ?_
    rw [List.range_eq_range']
    exact sub_range n 0 I hI fun x hx => ⟨Nat.zero_le _, by have := h3 x hx; omega⟩
  · rw [h.rows, List.range_eq_range']
    exact sub_range n 0 J hJ fun x hx => ⟨Nat.zero_le _, by have := h4 x hx; omega⟩
theorem dvd_dP {n : Nat} {a : Al09.Table} (h : Sq n a) {k : Nat} {g : P} (hg : AllDv g n k (xm a)) : P.Dvd g (dP a k) := by
  refine (comL_spec (minorsP a k) 0).all g (P.Dvd.zero _) fun p hp => ?_
  obtain ⟨R, S, h1, h2, h3, h4, e⟩ := mem_minors.mp hp
  rw [lessP_range h, List.sublist_map_iff] at h1
  obtain ⟨I, hI, rfl⟩ := h1
  rw [List.length_map] at h2
  rw [e, minor_dq h h2 h4]
  refine hg I S h2 h4 (fun i hi => List.mem_range.mp (hI.subset hi)) fun j hj => ?_
  have := List.mem_range.mp (h3.subset hj)
  rw [h.rows] at this
  exact this
theorem prodP_app : ∀ l m : List P, prodP (l ++ m) = prodP l * prodP m
  | [], m => by show prodP m = 1 * prodP m; grind
  | p :: l, m => by show p * prodP (l ++ m) = p * prodP l * prodP m; rw [prodP_app l m]; grind
/-- a table along its diagonal -/
structure Smt (n : Nat) (a : Al09.Table) (d : Nat → P) : Prop where
  e : Eqv n (xm a) (dgP n d)
  c : ∀ i j, i ≤ j → j < n → P.Dvd (d i) (d j)
  f : ∀ i, i < n → P.Dvd (d i) (fP a i) ∧ P.Dvd (fP a i) (d i)
theorem smt {n : Nat} {a : Al09.Table} (h : Sq n a) : ∃ d, Smt n a d := by
  obtain ⟨d, he, hc⟩ := smith (xm_sup h)
  have h1 : ∀ k, k ≤ n → P.Dvd (dP a k) (prodP ((List.range' 0 k).map d)) := fun k hk => by
    obtain ⟨P1, P2, Q1, Q2, u1, u2, e⟩ := he
    have e2 : dgP n d = mm n (mm n P2 (xm a)) Q2 := by
      rw [e, mm_assoc n P1, u1.symm.left (mm_sup (dgP_sup n d) u2.sp), u2.right (dgP_sup n d)]
    have := ((dP_allDv h k).left P2).right Q2
    rw [← e2] at this
    have h3 := this (List.range' 0 k) (List.range' 0 k) (by simp) (by simp) (fun i hi => by rw [List.mem_range'_1] at hi; omega) (fun i hi => by rw [List.mem_range'_1] at hi; omega)
    rwa [dq_dgP d k 0 (by omega)] at h3
  have h2 : ∀ k, k ≤ n → P.Dvd (prodP ((List.range' 0 k).map d)) (dP a k) := fun k hk => by
    obtain ⟨P1, P2, Q1, Q2, u1, u2, e⟩ := he
    refine dvd_dP h ?_
    rw [e]
    exact ((dgP_all hc k).left P1).right Q1
  refine ⟨d, he, hc, fun i hi => ?_⟩
  have hs : prodP ((List.range' 0 (i + 1)).map d) = prodP ((List.range' 0 i).map d) * d i := by
    rw [List.range'_1_concat, List.map_append, prodP_app]
    show _ * (d (0 + i) * 1) = _
    rw [Nat.zero_add]; grind
  have hf := (fP_all h hi).1
  have a1 := h1 (i + 1) (by omega)
  have a2 := h2 (i + 1) (by omega)
  have b1 := h1 i (by omega)
  have b2 := h2 i (by omega)
  rw [hs, hf] at a1 a2
  have hd0 := dP_ne h (show i ≤ n by omega)
  generalize prodP ((List.range' 0 i).map d) = p at *
  generalize dP a i = q at *
  have hp0 : p ≠ 0 := fun e => by
    rw [e] at b2
    exact hd0 b2.of_zero
  obtain ⟨x, hx⟩ := b1
  obtain ⟨y, hy⟩ := b2
  obtain ⟨z, hz⟩ := a1
  obtain ⟨w, hw⟩ := a2
  constructor
  · refine ⟨x * w, P.mul_cancel hd0 ?_⟩
    rw [show q * fP a i = fP a i * q by grind, hw, hx]; grind
  · refine ⟨y * z, P.mul_cancel hp0 ?_⟩
    rw [hz, hy]; grind
end Ma
/-! How many don't hang on others: spaces put into one another. -/
namespace Ma
class Vs (V : Type) where
  ad : V → V → V
  sc : Rat → V → V
  ze : V
open Vs
instance : Vs Rat := ⟨fun a b => a + b, fun c a => c * a, 0⟩
instance : Vs P := ⟨fun a b => a + b, fun c a => P.cst c * a, 0⟩
instance {A W : Type} [Vs W] : Vs (A → W) := ⟨fun a b x => ad (a x) (b x), fun c a x => sc c (a x), fun _ => ze⟩
abbrev Vec := Nat → Rat
structure Lin {V W : Type} [Vs V] [Vs W] (f : V → W) : Prop where
  a : ∀ u v, f (ad u v) = ad (f u) (f v)
  s : ∀ c v, f (sc c v) = sc c (f v)
def Emb {V W : Type} [Vs V] [Vs W] (S : V → Prop) (T : W → Prop) : Prop := ∃ f : V → W, Lin f ∧ (∀ v, S v → T (f v)) ∧ ∀ v, S v → f v = ze → v = ze
theorem Emb.trans {U V W : Type} [Vs U] [Vs V] [Vs W] {S : U → Prop} {T : V → Prop} {R : W → Prop} (h : Emb S T) (h2 : Emb T R) : Emb S R := by
  obtain ⟨f, f1, f2, f3⟩ := h
  obtain ⟨g, g1, g2, g3⟩ := h2
  exact ⟨fun v => g (f v), ⟨fun u v => by rw [f1.a, g1.a], fun c v => by rw [f1.s, g1.s]⟩, fun v hv => g2 _ (f2 v hv), fun v hv e => f3 v hv (g3 _ (f2 v hv) e)⟩
def Iso {V W : Type} [Vs V] [Vs W] (S : V → Prop) (T : W → Prop) : Prop := Emb S T ∧ Emb T S
theorem Iso.trans {U V W : Type} [Vs U] [Vs V] [Vs W] {S : U → Prop} {T : V → Prop} {R : W → Prop} (h : Iso S T) (h2 : Iso T R) : Iso S R := ⟨h.1.trans h2.1, h2.2.trans h.2⟩
theorem Iso.symm {V W : Type} [Vs V] [Vs W] {S : V → Prop} {T : W → Prop} (h : Iso S T) : Iso T S := ⟨h.2, h.1⟩
/-- d numbers -/
def Spc (d : Nat) (v : Vec) : Prop := ∀ i, d ≤ i → v i = 0
theorem spc_sub {d : Nat} {u v : Vec} (hu : Spc d u) (hv : Spc d v) (c : Rat) : Spc d (ad u (sc (-c) v)) := fun i hi => by
  show u i + -c * v i = 0
  rw [hu i hi, hv i hi]; grind
theorem emb_in {d : Nat} {f : Vec → Vec} (hf : Lin f) (hk : ∀ v, Spc d v → f v = ze → v = ze) : ∀ (zs : List RwF) (u : Vec), (∀ z ∈ zs, Spc d z) → Spc d u → InS (zs.map f) (f u) → InS zs u
  | [], u, _, hu, h => fun x => by
    have : f u = ze := funext h
    rw [hk u hu this]; rfl
  | z :: zs, u, hz, hu, ⟨c, h⟩ => by
    refine ⟨c, ?_⟩
    have e : (fun x => f u x - c * f z x) = f (ad u (sc (-c) z)) := by
      rw [hf.a, hf.s]
      funext x
      show _ = f u x + -c * f z x
      grind
    rw [e] at h
    have := emb_in hf hk zs _ (fun y hy => hz y (List.mem_cons_of_mem _ hy)) (spc_sub hu (hz z List.mem_cons_self) c) h
    refine this.congr fun x => ?_
    show u x + -c * z x = u x - c * z x
    grind
theorem emb_ind {d : Nat} {f : Vec → Vec} (hf : Lin f) (hk : ∀ v, Spc d v → f v = ze → v = ze) : ∀ (zs : List RwF), (∀ z ∈ zs, Spc d z) → Ind zs → Ind (zs.map f)
  | [], _, _ => trivial
  | z :: zs, hz, h => ⟨fun hin => h.1 (emb_in hf hk zs z (fun y hy => hz y (List.mem_cons_of_mem _ hy)) (hz z List.mem_cons_self) hin), emb_ind hf hk zs (fun y hy => hz y (List.mem_cons_of_mem _ hy)) h.2⟩
def uv (i : Nat) : Vec := fun j => if j = i then 1 else 0
theorem units_ind : ∀ (m s : Nat), Ind ((List.range' s m).map uv)
  | 0, s => trivial
  | m + 1, s => by
    rw [List.range'_succ]
    refine ⟨fun hin => ?_, units_ind m (s + 1)⟩
    have := InS.zero_at (k := s) hin fun z hz => ?_
    · have h1 : uv s s = 1 := if_pos rfl
      rw [h1] at this
      exact absurd this (by decide)
    · rw [List.mem_map] at hz
      obtain ⟨i, hi, rfl⟩ := hz
      rw [List.mem_range'_1] at hi
      exact if_neg (by omega)
theorem units_span : ∀ (m s : Nat) (v : Vec), (∀ i, i < s → v i = 0) → (∀ i, s + m ≤ i → v i = 0) → InS ((List.range' s m).map uv) v
  | 0, s, v, h1, h2 => fun x => by
    by_cases h : x < s
    · exact h1 x h
    · exact h2 x (by omega)
  | m + 1, s, v, h1, h2 => by
    rw [List.range'_succ]
    refine ⟨v s, units_span m (s + 1) _ (fun i hi => ?_) fun i hi => ?_⟩
    · by_cases e : i = s
      · subst e
        show v i - v i * (if i = i then 1 else 0) = 0
        rw [if_pos rfl]; grind
      · show v i - v s * (if i = s then 1 else 0) = 0
        rw [if_neg e, h1 i (by omega)]; grind
    · show v i - v s * (if i = s then 1 else 0) = 0
      rw [if_neg (by omega), h2 i (by omega)]; grind
theorem emb_le {d e : Nat} (h : Emb (Spc d) (Spc e)) : d ≤ e := by
  obtain ⟨f, hf, h1, h2⟩ := h
  have hs : ∀ z ∈ (List.range' 0 d).map uv, Spc d z := fun z hz => by
    rw [List.mem_map] at hz
    obtain ⟨i, hi, rfl⟩ := hz
    rw [List.mem_range'_1] at hi
    exact fun j hj => if_neg (by omega)
  have := steinitz ((List.range' 0 e).map uv) (((List.range' 0 d).map uv).map f) (emb_ind hf h2 _ hs (units_ind d 0)) fun u hu => by
    rw [List.mem_map] at hu
    obtain ⟨z, hz, rfl⟩ := hu
    exact units_span e 0 _ (fun i hi => by omega) fun i hi => h1 z (hs z hz) i (by omega)
  simpa using this
theorem iso_eq {d e : Nat} (h : Iso (Spc d) (Spc e)) : d = e := Nat.le_antisymm (emb_le h.1) (emb_le h.2)
/-- a sum of whole numbers -/
def sn : Nat → (Nat → Nat) → Nat
  | 0, _ => 0
  | n + 1, f => sn n f + f n
theorem sn_congr {f g : Nat → Nat} : ∀ {n : Nat}, (∀ k, k < n → f k = g k) → sn n f = sn n g
  | 0, _ => rfl
  | n + 1, h => by rw [sn, sn, sn_congr fun k hk => h k (by omega), h n (by omega)]
/-- several beside one another -/
def Pro {V : Type} [Vs V] (m : Nat) (S : Nat → V → Prop) (w : Nat → V) : Prop := (∀ t, t < m → S t (w t)) ∧ ∀ t, m ≤ t → w t = ze
theorem vec_ad (u v : Vec) (i : Nat) : (ad u v) i = u i + v i := rfl
theorem vec_sc (c : Rat) (v : Vec) (i : Nat) : (sc c v) i = c * v i := rfl
theorem ze_vec (i : Nat) : (ze : Vec) i = 0 := rfl
theorem pro_iso {V : Type} [Vs V] (hz : ∀ c : Rat, sc c (ze : V) = ze) (hz2 : ad (ze : V) ze = ze) {S : Nat → V → Prop} {d : Nat → Nat} : ∀ (m : Nat), (∀ t, t < m → Iso (S t) (Spc (d t))) → Iso (Pro m S) (Spc (sn m d))
  | 0, _ => by
    constructor
    · exact ⟨fun _ => ze, ⟨fun u v => by funext i; show (0 : Rat) = 0 + 0; grind, fun c v => by funext i; show (0 : Rat) = c * 0; grind⟩, fun v _ i _ => rfl, fun v hv _ => funext fun t => hv.2 t (Nat.zero_le _)⟩
    · exact ⟨fun _ => ze, ⟨fun u v => by funext t; exact hz2.symm, fun c v => by funext t; exact (hz c).symm⟩, fun v _ => ⟨fun t ht => by omega, fun t _ => rfl⟩, fun v hv _ => funext fun t => hv t (Nat.zero_le _)⟩
  | m + 1, h => by
    have ih := pro_iso hz hz2 m fun t ht => h t (by omega)
    obtain ⟨⟨f, f1, f2, f3⟩, ⟨g, g1, g2, g3⟩⟩ := ih
    obtain ⟨⟨p, p1, p2, p3⟩, ⟨q, q1, q2, q3⟩⟩ := h m (by omega)
    have hsn : sn (m + 1) d = sn m d + d m := rfl
    rw [hsn]
    generalize sn m d = D at *
    constructor
    · refine ⟨fun w i => if i < D then f (fun t => if t < m then w t else ze) i else p (w m) (i - D), ⟨fun u v => ?_, fun c v => ?_⟩, fun w hw i hi => ?_, fun w hw e => ?_⟩
      · have e1 : (fun t => if t < m then (ad u v) t else ze) = ad (fun t => if t < m then u t else ze) (fun t => if t < m then v t else ze) := by
          funext t
          show (if t < m then ad (u t) (v t) else ze) = ad (if t < m then u t else ze) (if t < m then v t else ze)
          split
          · rfl
          · exact hz2.symm
        funext i
        show (if i < D then f _ i else p (ad (u m) (v m)) (i - D)) = _
        rw [e1, f1.a, p1.a]
        show _ = (if i < D then f _ i else p (u m) (i - D)) + (if i < D then f _ i else p (v m) (i - D))
        split
        · rfl
        · rfl
      · have e1 : (fun t => if t < m then (sc c v) t else ze) = sc c (fun t => if t < m then v t else ze) := by
          funext t
          show (if t < m then sc c (v t) else ze) = sc c (if t < m then v t else ze)
          split
          · rfl
          · exact (hz c).symm
        funext i
        show (if i < D then f _ i else p (sc c (v m)) (i - D)) = _
        rw [e1, f1.s, p1.s]
        show _ = c * (if i < D then f _ i else p (v m) (i - D))
        split
        · rfl
        · rfl
      · show (if i < D then f _ i else p (w m) (i - D)) = 0
        rw [if_neg (by omega)]
        exact p2 _ (hw.1 m (by omega)) _ (by omega)
      · have hS : Pro m S (fun t => if t < m then w t else ze) := ⟨fun t ht => by
          show S t (if t < m then w t else ze)
          rw [if_pos ht]; exact hw.1 t (by omega), fun t ht => if_neg (by omega)⟩
        have k1 := f3 _ hS (funext fun i => by
          by_cases hi : i < D
          · have := congrFun e i
            dsimp only at this
            rw [if_pos hi] at this
            exact this
          · exact f2 _ hS i (by omega))
        have k2 := p3 (w m) (hw.1 m (by omega)) (funext fun i => by
          have := congrFun e (D + i)
          dsimp only at this
          rw [if_neg (by omega), show D + i - D = i by omega] at this
          exact this)
        funext t
        by_cases ht : t < m
        · have := congrFun k1 t
          rw [if_pos ht] at this
          exact this
        · by_cases e2 : t = m
          · subst e2; exact k2
          · exact hw.2 t (by omega)
    · refine ⟨fun u t => if t = m then q (fun i => u (D + i)) else g (fun i => if i < D then u i else 0) t, ⟨fun u v => ?_, fun c v => ?_⟩, fun u hu => ⟨fun t ht => ?_, fun t ht => ?_⟩, fun u hu e => ?_⟩
      · have e1 : (fun i => if i < D then (ad u v) i else (0 : Rat)) = ad (fun i => if i < D then u i else (0 : Rat)) (fun i => if i < D then v i else 0) := by
          funext i
          show (if i < D then u i + v i else 0) = (if i < D then u i else 0) + (if i < D then v i else 0)
          split
          · rfl
          · grind
        have e2 : (fun i => (ad u v) (D + i)) = ad (fun i => u (D + i)) (fun i => v (D + i)) := rfl
        funext t
        show (if t = m then q (fun i => (ad u v) (D + i)) else g (fun i => if i < D then (ad u v) i else 0) t) = _
        rw [e1, e2, g1.a, q1.a]
        show _ = ad (if t = m then q (fun i => u (D + i)) else g _ t) (if t = m then q (fun i => v (D + i)) else g _ t)
        split
        · rfl
        · rfl
      · have e1 : (fun i => if i < D then (sc c v) i else (0 : Rat)) = sc c (fun i => if i < D then v i else (0 : Rat)) := by
          funext i
          show (if i < D then c * v i else 0) = c * (if i < D then v i else 0)
          split
          · rfl
          · grind
        have e2 : (fun i => (sc c v) (D + i)) = sc c (fun i => v (D + i)) := rfl
        funext t
        show (if t = m then q (fun i => (sc c v) (D + i)) else g (fun i => if i < D then (sc c v) i else 0) t) = _
        rw [e1, e2, g1.s, q1.s]
        show _ = sc c (if t = m then q (fun i => v (D + i)) else g _ t)
        split
        · rfl
        · rfl
      · show S t (if t = m then q (fun i => u (D + i)) else g (fun i => if i < D then u i else 0) t)
        by_cases e : t = m
        · subst e
          rw [if_pos rfl]
          exact q2 _ fun i hi => hu _ (by omega)
        · rw [if_neg e]
          exact (g2 _ fun i hi => if_neg (by omega)).1 t (by omega)
      · show (if t = m then q (fun i => u (D + i)) else g (fun i => if i < D then u i else 0) t) = ze
        rw [if_neg (by omega)]
        exact (g2 _ fun i hi => if_neg (by omega)).2 t (by omega)
      · have k1 := q3 (fun i => u (D + i)) (fun i hi => hu _ (by omega)) (by
          have := congrFun e m
          dsimp only at this
          rw [if_pos rfl] at this
          exact this)
        have hG : Spc D (fun i => if i < D then u i else 0) := fun i hi => if_neg (by omega)
        have k2 := g3 _ hG (funext fun t => by
          by_cases ht : t = m
          · rw [ht]; exact (g2 _ hG).2 m (Nat.le_refl _)
          · have := congrFun e t
            dsimp only at this
            rw [if_neg ht] at this
            exact this)
        funext i
        by_cases hi : i < D
        · have := congrFun k2 i
          rw [if_pos hi] at this
          exact this
        · have := congrFun k1 (i - D)
          rw [show D + (i - D) = i by omega] at this
          exact this
end Ma
/-! As many solutions that don't hang on others as there are unknowns less the rank. -/
namespace Ma
open Vs
/-- row times vector -/
def dv1 (n : Nat) (r v : Nat → Rat) : Rat := su n (fun j => r j * v j)
/-- solutions from place k on -/
def Sol (k n : Nat) (rows : List (Nat → Rat)) (v : Vec) : Prop := (∀ i, i < k → v i = 0) ∧ Spc n v ∧ ∀ r ∈ rows, dv1 n r v = 0
def zk (k : Nat) (v : Vec) : Vec := fun j => if j = k then 0 else v j
theorem zk_lin (k : Nat) : Lin (zk k) := ⟨fun u v => by
  funext j
  show (if j = k then 0 else u j + v j) = (if j = k then 0 else u j) + (if j = k then 0 else v j)
  split
  · grind
  · rfl, fun c v => by
  funext j
  show (if j = k then 0 else c * v j) = c * (if j = k then 0 else v j)
  split
  · grind
  · rfl⟩
theorem dv1_zk {n k : Nat} (hk : k < n) (r v : Vec) : dv1 n r v = dv1 n r (zk k v) + r k * v k := by
  have h := su_one hk (fun j => r j * v j)
  unfold dv1
  rw [← h, ← su_add]
  refine su_congr fun j _ => ?_
  unfold zk
  by_cases e : j = k
  · subst e; rw [if_pos rfl, if_pos rfl]; grind
  · rw [if_neg e, if_neg (fun x => e x.symm)]; grind
theorem dv1_ad (n : Nat) (r u v : Vec) : dv1 n r (ad u v) = dv1 n r u + dv1 n r v := by
  unfold dv1
  rw [← su_add]
  exact su_congr fun j _ => by rw [vec_ad]; grind
theorem dv1_sc (n : Nat) (r : Vec) (c : Rat) (v : Vec) : dv1 n r (sc c v) = c * dv1 n r v := by
  unfold dv1
  rw [← su_mul]
  exact su_congr fun j _ => by rw [vec_sc]; grind
theorem dv1_row (n : Nat) (r p v : Vec) (c : Rat) : dv1 n (fun j => r j - c * p j) v = dv1 n r v - c * dv1 n p v := by
  unfold dv1
  have e : su n (fun j => r j * v j) - c * su n (fun j => p j * v j) = su n (fun j => r j * v j) + (-c) * su n (fun j => p j * v j) := by grind
  rw [e, ← su_mul, ← su_add]
  exact su_congr fun j _ => by grind
theorem vec_zero {v : Vec} (h : ∀ i, v i = 0) : v = ze := funext h
/-- a place that no row asks anything of -/
theorem sol_free {k n m : Nat} (hk : k < n) {rows : List (Nat → Rat)} (h0 : ∀ r ∈ rows, r k = 0) (h : Iso (Sol (k + 1) n rows) (Spc m)) : Iso (Sol k n rows) (Spc (m + 1)) := by
  obtain ⟨⟨f, f1, f2, f3⟩, ⟨g, g1, g2, g3⟩⟩ := h
  have hz : ∀ v, Sol k n rows v → Sol (k + 1) n rows (zk k v) := fun v hv => by
    refine ⟨fun i hi => ?_, fun i hi => ?_, fun r hr => ?_⟩
    · unfold zk; split
      · rfl
      · exact hv.1 i (by omega)
    · unfold zk; rw [if_neg (by omega)]; exact hv.2.1 i hi
    · have := dv1_zk hk r v
      rw [h0 r hr, hv.2.2 r hr] at this
      grind
  constructor
  · refine ⟨fun v i => if i = 0 then v k else f (zk k v) (i - 1), ⟨fun u v => ?_, fun c v => ?_⟩, fun v hv i hi => ?_, fun v hv e => ?_⟩
    · funext i
      show (if i = 0 then u k + v k else f (zk k (ad u v)) (i - 1)) = (if i = 0 then u k else f (zk k u) (i - 1)) + (if i = 0 then v k else f (zk k v) (i - 1))
      rw [(zk_lin k).a, f1.a]
      split
      · rfl
      · rfl
    · funext i
      show (if i = 0 then c * v k else f (zk k (sc c v)) (i - 1)) = c * (if i = 0 then v k else f (zk k v) (i - 1))
      rw [(zk_lin k).s, f1.s]
      split
      · rfl
      · rfl
    · show (if i = 0 then v k else f (zk k v) (i - 1)) = 0
      rw [if_neg (by omega)]
      exact f2 _ (hz v hv) _ (by omega)
    · have k1 := f3 _ (hz v hv) (funext fun i => by
        have := congrFun e (i + 1)
        dsimp only at this
        rw [if_neg (by omega), Nat.add_sub_cancel] at this
        exact this)
      have k2 := congrFun e 0
      dsimp only at k2
      rw [if_pos rfl] at k2
      funext i
      by_cases hi : i = k
      · rw [hi]; exact k2
      · have := congrFun k1 i
        unfold zk at this
        rw [if_neg hi] at this
        exact this
  · refine ⟨fun u i => (if i = k then u 0 else g (fun j => u (j + 1)) i), ⟨fun u v => ?_, fun c v => ?_⟩, fun u hu => ⟨fun i hi => ?_, fun i hi => ?_, fun r hr => ?_⟩, fun u hu e => ?_⟩
    · have e1 : (fun j => (ad u v) (j + 1)) = ad (fun j => u (j + 1)) (fun j => v (j + 1)) := rfl
      funext i
      show (if i = k then u 0 + v 0 else g (fun j => (ad u v) (j + 1)) i) = (if i = k then u 0 else g (fun j => u (j + 1)) i) + (if i = k then v 0 else g (fun j => v (j + 1)) i)
      rw [e1, g1.a]
      split
      · rfl
      · rfl
    · have e1 : (fun j => (sc c v) (j + 1)) = sc c (fun j => v (j + 1)) := rfl
      funext i
      show (if i = k then c * v 0 else g (fun j => (sc c v) (j + 1)) i) = c * (if i = k then v 0 else g (fun j => v (j + 1)) i)
      rw [e1, g1.s]
      split
      · rfl
      · rfl
    · show (if i = k then u 0 else g (fun j => u (j + 1)) i) = 0
      rw [if_neg (by omega)]
      exact (g2 _ fun j hj => hu _ (by omega)).1 i (by omega)
    · show (if i = k then u 0 else g (fun j => u (j + 1)) i) = 0
      rw [if_neg (by omega)]
      exact (g2 _ fun j hj => hu _ (by omega)).2.1 i hi
    · have hg := g2 (fun j => u (j + 1)) fun j hj => hu _ (by omega)
      rw [dv1_zk hk, h0 r hr]
      have e : zk k (fun i => if i = k then u 0 else g (fun j => u (j + 1)) i) = g (fun j => u (j + 1)) := by
        funext i
        show (if i = k then 0 else if i = k then u 0 else g (fun j => u (j + 1)) i) = _
        by_cases hi : i = k
        · rw [if_pos hi, hi, hg.1 k (by omega)]
        · rw [if_neg hi, if_neg hi]
      rw [e, hg.2.2 r hr]; grind
    · have hg := g2 (fun j => u (j + 1)) fun j hj => hu _ (by omega)
      have k1 := g3 (fun j => u (j + 1)) (fun j hj => hu _ (by omega)) (funext fun i => by
        by_cases hi : i = k
        · rw [hi]; exact hg.1 k (by omega)
        · have := congrFun e i
          dsimp only at this
          rw [if_neg hi] at this
          exact this)
      have k2 := congrFun e k
      dsimp only at k2
      rw [if_pos rfl] at k2
      funext i
      cases i with
      | zero => exact k2
      | succ i => exact congrFun k1 i
/-- a row with something at a place -/
theorem sol_piv {k n : Nat} (hk : k < n) {rows rest : List (Nat → Rat)} {p : Nat → Rat} (hpk : p k ≠ 0) (hp : p ∈ rows) (h1 : ∀ z ∈ rest, ∃ r ∈ rows, z = fun j => r j - r k / p k * p j) (h2 : ∀ r ∈ rows, r = p ∨ (fun j => r j - r k / p k * p j) ∈ rest) : Iso (Sol k n rows) (Sol (k + 1) n rest) := by
  have hzk : ∀ r : Nat → Rat, r k - r k / p k * p k = 0 := fun r => by rw [Rat.div_mul_cancel hpk]; grind
  constructor
  · refine ⟨zk k, zk_lin k, fun v hv => ⟨fun i hi => ?_, fun i hi => ?_, fun z hz => ?_⟩, fun v hv e => ?_⟩
    · unfold zk; split
      · rfl
      · exact hv.1 i (by omega)
    · unfold zk; rw [if_neg (by omega)]; exact hv.2.1 i hi
    · obtain ⟨r, hr, rfl⟩ := h1 z hz
      have e1 := dv1_zk hk (fun j => r j - r k / p k * p j) v
      have e2 := dv1_row n r p v (r k / p k)
      rw [hv.2.2 r hr, hv.2.2 p hp] at e2
      rw [hzk r] at e1
      grind
    · have e1 := dv1_zk hk p v
      rw [hv.2.2 p hp, e] at e1
      have e2 : dv1 n p ze = 0 := su_zero' fun j _ => by rw [ze_vec]; grind
      rw [e2] at e1
      have e3 : v k = 0 := by
        have : p k * v k = 0 := by grind
        rcases Rat.mul_eq_zero.mp this with h | h
        · exact absurd h hpk
        · exact h
      funext i
      by_cases hi : i = k
      · rw [hi]; exact e3
      · have := congrFun e i
        unfold zk at this
        rw [if_neg hi] at this
        exact this
  · have hF : ∀ u, Sol (k + 1) n rest u → ∀ r : Nat → Rat, dv1 n r (fun i => if i = k then -(dv1 n p u / p k) else u i) = dv1 n r u - r k * (dv1 n p u / p k) := fun u hu r => by
      rw [dv1_zk hk]
      have e : zk k (fun i => if i = k then -(dv1 n p u / p k) else u i) = u := by
        funext i
        show (if i = k then 0 else if i = k then -(dv1 n p u / p k) else u i) = _
        by_cases hi : i = k
        · rw [if_pos hi, hi, hu.1 k (by omega)]
        · rw [if_neg hi, if_neg hi]
      rw [e, if_pos rfl]; grind
    refine ⟨fun u i => if i = k then -(dv1 n p u / p k) else u i, ⟨fun u v => ?_, fun c v => ?_⟩, fun u hu => ⟨fun i hi => ?_, fun i hi => ?_, fun r hr => ?_⟩, fun u hu e => ?_⟩
    · funext i
      show (if i = k then -(dv1 n p (ad u v) / p k) else u i + v i) = (if i = k then -(dv1 n p u / p k) else u i) + (if i = k then -(dv1 n p v / p k) else v i)
      rw [dv1_ad]
      split
      · rw [Rat.div_def, Rat.div_def, Rat.div_def]; grind
      · rfl
    · funext i
      show (if i = k then -(dv1 n p (sc c v) / p k) else c * v i) = c * (if i = k then -(dv1 n p v / p k) else v i)
      rw [dv1_sc]
      split
      · rw [Rat.div_def, Rat.div_def]; grind
      · rfl
    · show (if i = k then -(dv1 n p u / p k) else u i) = 0
      rw [if_neg (by omega)]; exact hu.1 i (by omega)
    · show (if i = k then -(dv1 n p u / p k) else u i) = 0
      rw [if_neg (by omega)]; exact hu.2.1 i hi
    · rw [hF u hu r]
      rcases h2 r hr with h | h
      · rw [h]
        have : dv1 n p u / p k * p k = dv1 n p u := Rat.div_mul_cancel hpk
        grind
      · have e1 := hu.2.2 _ h
        rw [dv1_row] at e1
        rw [Rat.div_def] at e1 ⊢
        grind
    · funext i
      by_cases hi : i = k
      · rw [hi]; exact hu.1 k (by omega)
      · have := congrFun e i
        dsimp only at this
        rw [if_neg hi] at this
        exact this
theorem nul_from {n : Nat} : ∀ (c k : Nat) (rows : List (List Rat)), c + k = n → (∀ r ∈ rows, r.length = n) → Al09.rankFrom c k rows ≤ c ∧ Iso (Sol k n (rows.map fn)) (Spc (c - Al09.rankFrom c k rows))
  | 0, k, rows, hk, hl => by
    have hz : ∀ v, Sol k n (rows.map fn) v → v = ze := fun v hv => by
      funext i
      by_cases hi : i < k
      · exact hv.1 i hi
      · exact hv.2.1 i (by omega)
    refine ⟨Nat.le_refl _, ⟨fun v => v, ⟨fun _ _ => rfl, fun _ _ => rfl⟩, fun v hv i _ => by rw [hz v hv]; rfl, fun v hv _ => hz v hv⟩, ⟨fun v => v, ⟨fun _ _ => rfl, fun _ _ => rfl⟩, fun v hv => ?_, fun v hv e => e⟩⟩
    have e : v = ze := vec_zero fun i => hv i (by show 0 - _ ≤ i; omega)
    rw [e]
    exact ⟨fun _ _ => rfl, fun _ _ => rfl, fun r _ => su_zero' fun j _ => by show r j * 0 = 0; grind⟩
  | c + 1, k, rows, hk, hl => by
    rw [Al09.rankFrom]
    split
    · rename_i hf
      rw [List.findIdx?_eq_none_iff] at hf
      obtain ⟨h1, h2⟩ := nul_from (n := n) c (k + 1) rows (by omega) hl
      refine ⟨by omega, ?_⟩
      rw [show c + 1 - Al09.rankFrom c (k + 1) rows = (c - Al09.rankFrom c (k + 1) rows) + 1 by omega]
      refine sol_free (by omega) (fun r hr => ?_) h2
      rw [List.mem_map] at hr
      obtain ⟨r', hr', rfl⟩ := hr
      have := hf r' hr'
      have h9 : r'.getD k 0 = 0 := by simpa using this
      exact h9
    · rename_i i hf
      rw [List.findIdx?_eq_some_iff_getElem] at hf
      obtain ⟨hi, h1, _⟩ := hf
      have hp : rows.getD i [] = rows[i] := by rw [List.getD_eq_getElem?_getD, List.getElem?_eq_getElem hi]; rfl
      have hpm : rows[i] ∈ rows := List.getElem_mem hi
      rw [hp]
      generalize hpe : rows[i] = p at h1 hpm
      have hpk : fn p k ≠ 0 := by
        have h9 : p.getD k 0 ≠ 0 := by simpa using h1
        exact h9
      have hpl := hl p hpm
      show 1 + Al09.rankFrom c (k + 1) ((rows.eraseIdx i).map fun (r : List Rat) => (r.zip p).map fun (x : Rat × Rat) => x.1 - r.getD k 0 / p.getD k 0 * x.2) ≤ c + 1 ∧ Iso (Sol k n (rows.map fn)) (Spc (c + 1 - (1 + Al09.rankFrom c (k + 1) ((rows.eraseIdx i).map fun (r : List Rat) => (r.zip p).map fun (x : Rat × Rat) => x.1 - r.getD k 0 / p.getD k 0 * x.2))))
      have hrest : ∀ r ∈ rows.eraseIdx i, r ∈ rows := fun r hr => List.mem_of_mem_eraseIdx hr
      have hfn : ∀ r ∈ rows, fn ((r.zip p).map fun (x : Rat × Rat) => x.1 - r.getD k 0 / p.getD k 0 * x.2) = fun j => fn r j - fn r k / fn p k * fn p j := fun r hr => fn_zipc _ (by rw [hl r hr, hpl])
      obtain ⟨h2, h3⟩ := nul_from (n := n) c (k + 1) ((rows.eraseIdx i).map fun (r : List Rat) => (r.zip p).map fun (x : Rat × Rat) => x.1 - r.getD k 0 / p.getD k 0 * x.2) (by omega) (fun r hr => by
        rw [List.mem_map] at hr
        obtain ⟨r', hr', rfl⟩ := hr
        rw [zipc_len _ (by rw [hl r' (hrest r' hr'), hpl])]
        exact hl r' (hrest r' hr'))
      refine ⟨by omega, ?_⟩
      rw [show ∀ x : Nat, c + 1 - (1 + x) = c - x by intro x; omega]
      refine Iso.trans (sol_piv (by omega) hpk (List.mem_map.mpr ⟨p, hpm, rfl⟩) (fun z hz => ?_) (fun r hr => ?_)) h3
      · rw [List.map_map, List.mem_map] at hz
        obtain ⟨r, hr, rfl⟩ := hz
        exact ⟨fn r, List.mem_map.mpr ⟨r, hrest r hr, rfl⟩, hfn r (hrest r hr)⟩
      · rw [List.mem_map] at hr
        obtain ⟨r', hr', rfl⟩ := hr
        by_cases hrp : r' = p
        · exact .inl (by rw [hrp])
        · refine .inr ?_
          rw [List.map_map, List.mem_map]
          refine ⟨r', ?_, hfn r' hr'⟩
          rw [List.mem_eraseIdx_iff_getElem]
          obtain ⟨j, hj, ej⟩ := List.getElem_of_mem hr'
          exact ⟨j, hj, fun e => hrp (by rw [← ej, ← hpe]; congr 1), ej⟩
/-- **the specification's rank tells how many solutions there are** -/
theorem nul_rank {n : Nat} {rows : List (List Rat)} (hl : ∀ r ∈ rows, r.length = n) : Al09.rank n rows ≤ n ∧ Iso (Sol 0 n (rows.map fn)) (Spc (n - Al09.rank n rows)) := nul_from n 0 rows (by omega) hl
end Ma
/-! Division of tables of polynomials by x less a table; polynomials divided, all at once. -/
namespace Ma
open Vs
theorem c_zero (i : Nat) : (0 : P).c i = 0 := by rw [P.c, P.zero_val]; exact co_nil i
theorem c_su (f : Nat → P) (i : Nat) : ∀ n, (su n f).c i = su n (fun k => (f k).c i)
  | 0 => c_zero i
  | n + 1 => by rw [su, su, P.c_add, c_su f i n]
theorem cst_add (a b : Rat) : P.cst (a + b) = P.cst a + P.cst b := P.ext' fun i => by
  rw [P.c_add, P.c_cst, P.c_cst, P.c_cst]; grind
theorem cst_zero : P.cst 0 = 0 := P.ext' fun i => by rw [P.c_cst, c_zero]; grind
theorem cst_su (f : Nat → Rat) : ∀ n, P.cst (su n f) = su n (fun k => P.cst (f k))
  | 0 => cst_zero
  | n + 1 => by rw [su, su, cst_add, cst_su f n]
theorem cst_at0 (a : Rat) : (P.cst a).c 0 = a := by rw [P.c_cst]; show a * 1 = a; grind
theorem cst_cs (a : Rat) (i : Nat) : (P.cst a).c (i + 1) = 0 := by rw [P.c_cst]; show a * 0 = 0; grind
theorem cst_inj {a b : Rat} (h : P.cst a = P.cst b) : a = b := by
  have := congrArg (fun p => P.c p 0) h
  try dsimp only at this
  rwa [cst_at0, cst_at0] at this
theorem len_of_c {p : P} {m : Nat} (h : ∀ i, m ≤ i → p.c i = 0) : p.len ≤ m := len_le p.2 h
theorem c_of_len {p : P} {m i : Nat} (h : p.len ≤ m) (hi : m ≤ i) : p.c i = 0 := co_ge (show p.1.length ≤ i from Nat.le_trans h hi)
theorem len_cst_le (a : Rat) : (P.cst a).len ≤ 1 := len_of_c fun i hi => by
  cases i with
  | zero => omega
  | succ i => exact cst_cs a i
theorem zero_of_len {p : P} (h : p.len ≤ 0) : p = 0 := P.ext' fun i => by rw [c_zero]; exact c_of_len h (Nat.zero_le _)
theorem cst_of_len {p : P} (h : p.len ≤ 1) : p = P.cst (p.c 0) := P.ext' fun i => by
  cases i with
  | zero => rw [cst_at0]
  | succ i => rw [cst_cs]; exact c_of_len h (by omega)
/-- a polynomial less its number, by x -/
def tl (p : P) : P := ⟨p.1.tail, by
  obtain ⟨l, hl⟩ := p
  cases l with
  | nil => exact hl
  | cons a l => exact tr_tail hl⟩
theorem c_tl (p : P) (i : Nat) : (tl p).c i = p.c (i + 1) := by
  obtain ⟨l, hl⟩ := p
  cases l with
  | nil => show co [] i = co [] (i + 1); rw [co_nil, co_nil]
  | cons a l => exact (co_succ a l i).symm
theorem tl_eq (p : P) : p = P.cst (p.c 0) + Ma.X 1 * tl p := P.ext' fun i => by
  obtain ⟨h1, h2⟩ := c_X1 (tl p)
  rw [P.c_add]
  cases i with
  | zero => rw [h1, cst_at0]; grind
  | succ i => rw [h2, cst_cs, c_tl]; grind
theorem tl_len {p : P} {m : Nat} (h : p.len ≤ m + 1) : (tl p).len ≤ m := len_of_c fun i hi => by
  rw [c_tl]; exact c_of_len h (by omega)
/-- numbers as polynomials -/
def cm (X : MF Rat) : MF P := fun i j => P.cst (X i j)
theorem cm_sup {n : Nat} {X : MF Rat} (h : Sup n X) : Sup n (cm X) := fun i j hij => by
  show P.cst (X i j) = 0
  rw [h i j hij, cst_zero]
theorem mm_cm (n : Nat) (X Y : MF Rat) : mm n (cm X) (cm Y) = cm (mm n X Y) := by
  funext i j
  show su n (fun k => P.cst (X i k) * P.cst (Y k j)) = P.cst (su n (fun k => X i k * Y k j))
  rw [cst_su]
  exact su_congr fun k _ => scst_mul _ _
theorem cm_inj {X Y : MF Rat} (h : cm X = cm Y) : X = Y := by
  funext i j
  exact cst_inj (congrFun (congrFun h i) j)
theorem E_sup {n : Nat} {a : Al09.Table} (h : Sq n a) : Sup n (E a) := fun i j hij => by
  unfold E
  by_cases hi : i < n
  · obtain ⟨r, h1, h2⟩ := h.row hi
    rw [h1]
    show r.getD j 0 = 0
    rw [List.getD_eq_getElem?_getD, List.getElem?_eq_none (by omega)]; rfl
  · rw [List.getElem?_eq_none (by rw [h.rows]; omega)]
    rfl
theorem xm_eq {n : Nat} {a : Al09.Table} (h : Sq n a) : xm a = fun i j => Ma.X 1 * un n i j - P.cst (E a i j) := by
  refine sup_ext (xm_sup h) (fun i j hij => ?_) fun i j hi hj => ?_
  · rw [un_sup n i j hij, E_sup h i j hij, cst_zero]; grind
  · show ((lessP a).getD i []).getD j 0 = _
    rw [lessP_entry h hi hj]
    have e : (a.getD i []).getD j 0 = E a i j := by unfold E; rw [List.getD_eq_getElem?_getD (l := a)]
    rw [e]
    apply P.ext'
    intro t
    have hX : ∀ p : P, (Ma.X 1 * p).c t = if t = 0 then 0 else p.c (t - 1) := fun p => by
      obtain ⟨h1, h2⟩ := c_X1 p
      cases t with
      | zero => rw [h1]; rfl
      | succ t => rw [h2]; rfl
    rw [P.c_sub, hX]
    by_cases hij : j = i
    · subst hij
      rw [un_in hj, decide_eq_true rfl]
      show co (AlOne.trim [-E a j j, 1]) t = _
      rw [co_trim]
      have e1 : ∀ s, (1 : P).c s = delta s := fun s => by
        rw [show (1 : P) = P.cst 1 from cst_one.symm, P.c_cst]; grind
      match t with
      | 0 => rw [if_pos rfl, cst_at0]; show -E a j j = 0 - E a j j; grind
      | 1 => rw [if_neg (by decide), cst_cs, e1]; show (1 : Rat) = 1 - 0; grind
      | t + 2 => rw [if_neg (by omega), cst_cs, e1]; show co [-E a j j, 1] (t + 2) = 0 - 0; rw [co_succ, co_succ, co_nil]; grind
    · rw [un_out (fun e => hij e.symm), decide_eq_false hij]
      show co (AlOne.trim [-E a i j]) t = _
      rw [co_trim]
      match t with
      | 0 => rw [if_pos rfl, cst_at0]; show -E a i j = 0 - E a i j; grind
      | t + 1 => rw [if_neg (by omega), cst_cs, c_zero]; show co [-E a i j] (t + 1) = 0 - 0; rw [co_succ, co_nil]; grind
theorem mm_xm {n : Nat} {b : Al09.Table} (h : Sq n b) {W : MF P} (hW : Sup n W) : mm n W (xm b) = fun i j => Ma.X 1 * W i j - mm n W (cm (E b)) i j := by
  funext i j
  rw [xm_eq h]
  have h1 : W i j = mm n W (un n) i j := by rw [mm_un hW]
  conv => rhs; rw [h1]
  show su n (fun k => W i k * (Ma.X 1 * un n k j - P.cst (E b k j))) = Ma.X 1 * su n (fun k => W i k * un n k j) - su n (fun k => W i k * P.cst (E b k j))
  rw [show ∀ x y : P, x - y = x + (-1) * y by intro x y; grind, ← su_mul, ← su_mul, ← su_add]
  exact su_congr fun k _ => by grind
theorem xm_mm {n : Nat} {b : Al09.Table} (h : Sq n b) {W : MF P} (hW : Sup n W) : mm n (xm b) W = fun i j => Ma.X 1 * W i j - mm n (cm (E b)) W i j := by
  funext i j
  rw [xm_eq h]
  have h1 : W i j = mm n (un n) W i j := by rw [un_mm hW]
  conv => rhs; rw [h1]
  show su n (fun k => (Ma.X 1 * un n i k - P.cst (E b i k)) * W k j) = Ma.X 1 * su n (fun k => un n i k * W k j) - su n (fun k => P.cst (E b i k) * W k j)
  rw [show ∀ x y : P, x - y = x + (-1) * y by intro x y; grind, ← su_mul, ← su_mul, ← su_add]
  exact su_congr fun k _ => by grind
theorem le_sn {f : Nat → Nat} : ∀ {n k : Nat}, k < n → f k ≤ sn n f
  | n + 1, k, h => by
    rw [sn]
    by_cases e : k = n
    · rw [e]; omega
    · have := le_sn (f := f) (n := n) (k := k) (by omega); omega
theorem len_bound {n : Nat} {W : MF P} (hW : Sup n W) : ∃ N, ∀ i j, (W i j).len ≤ N := by
  refine ⟨sn n fun i => sn n fun j => (W i j).len, fun i j => ?_⟩
  by_cases h : i < n ∧ j < n
  · exact Nat.le_trans (le_sn (f := fun j => (W i j).len) h.2) (le_sn (f := fun i => sn n fun j => (W i j).len) h.1)
  · rw [hW i j h, P.len_zero]; exact Nat.zero_le _
theorem deg_down {n m : Nat} {b : Al09.Table} (h : Sq n b) {W : MF P} (hW : Sup n W) (hl : ∀ i j, (mm n W (xm b) i j).len ≤ m + 1) : ∀ t, (∀ i j, (W i j).len ≤ m + t) → ∀ i j, (W i j).len ≤ m
  | 0, h1 => h1
  | t + 1, h1 => by
    refine deg_down h hW hl t fun i j => ?_
    refine len_of_c fun s hs => ?_
    by_cases e : s = m + t
    · subst e
      have h2 : (mm n W (xm b) i j).c (m + t + 1) = 0 := c_of_len (hl i j) (by omega)
      rw [mm_xm h hW] at h2
      dsimp only at h2
      rw [P.c_sub, (c_X1 (W i j)).2] at h2
      have h3 : (mm n W (cm (E b)) i j).c (m + t + 1) = 0 := by
        show (su n (fun k => W i k * P.cst (E b k j))).c (m + t + 1) = 0
        rw [c_su]
        refine su_zero' fun k _ => ?_
        rw [P.mul_cst, c_of_len (h1 i k) (by omega)]; grind
      rw [h3] at h2
      grind
    · exact c_of_len (h1 i j) (by omega)
theorem deg_xm {n m : Nat} {b : Al09.Table} (h : Sq n b) {W : MF P} (hW : Sup n W) (hl : ∀ i j, (mm n W (xm b) i j).len ≤ m + 1) (i j : Nat) : (W i j).len ≤ m := by
  obtain ⟨N, hN⟩ := len_bound hW
  exact deg_down h hW hl N (fun i j => Nat.le_trans (hN i j) (by omega)) i j
/-- quotient and rest by x less a table -/
def IsRem (n : Nat) (b : Al09.Table) (U W : MF P) (X : MF Rat) : Prop := Sup n W ∧ Sup n X ∧ U = fun i j => mm n W (xm b) i j + P.cst (X i j)
theorem rem_from {n : Nat} {b : Al09.Table} (h : Sq n b) : ∀ (N : Nat) (U : MF P), Sup n U → (∀ i j, (U i j).len ≤ N) → ∃ W X, IsRem n b U W X
  | 0, U, hU, hl => by
    refine ⟨fun _ _ => 0, fun _ _ => 0, fun _ _ _ => rfl, fun _ _ _ => rfl, ?_⟩
    funext i j
    rw [zero_of_len (hl i j), cst_zero]
    show (0 : P) = su n (fun k => 0 * xm b k j) + 0
    rw [su_zero' fun k _ => by grind]; grind
  | N + 1, U, hU, hl => by
    obtain ⟨W, X, h1, h2, h3⟩ := rem_from h N (fun i j => tl (U i j)) (fun i j hij => by
      show tl (U i j) = 0
      rw [hU i j hij]
      exact P.ext' fun i => by rw [c_tl, c_zero, c_zero]) fun i j => tl_len (hl i j)
    have hcX := cm_sup h2
    have hW' : Sup n (fun i j => Ma.X 1 * W i j + cm X i j) := fun i j hij => by
      show Ma.X 1 * W i j + cm X i j = 0
      rw [h1 i j hij, hcX i j hij]; grind
    refine ⟨fun i j => Ma.X 1 * W i j + cm X i j, fun i j => mm n X (E b) i j + (U i j).c 0, hW', fun i j hij => ?_, ?_⟩
    · show mm n X (E b) i j + (U i j).c 0 = 0
      rw [mm_sup h2 (E_sup h) i j hij, hU i j hij, c_zero]; grind
    · funext i j
      have e0 := tl_eq (U i j)
      have e1 : tl (U i j) = mm n W (xm b) i j + P.cst (X i j) := congrFun (congrFun h3 i) j
      have e2 : mm n (fun i j => Ma.X 1 * W i j + cm X i j) (xm b) i j = Ma.X 1 * mm n W (xm b) i j + mm n (cm X) (xm b) i j := by
        show su n (fun k => (Ma.X 1 * W i k + cm X i k) * xm b k j) = Ma.X 1 * su n (fun k => W i k * xm b k j) + su n (fun k => cm X i k * xm b k j)
        rw [← su_mul, ← su_add]
        exact su_congr fun k _ => by grind
      have e3 : mm n (cm X) (xm b) i j = Ma.X 1 * P.cst (X i j) - P.cst (mm n X (E b) i j) := by
        rw [mm_xm h hcX, mm_cm]; rfl
      rw [e2, e3, cst_add, e0, e1]
      rw [show (P.cst ((U i j).c 0) + Ma.X 1 * (mm n W (xm b) i j + P.cst (X i j))).c 0 = (U i j).c 0 by rw [← e1, ← e0]]
      grind
theorem rem_ex {n : Nat} {b : Al09.Table} (h : Sq n b) {U : MF P} (hU : Sup n U) : ∃ W X, IsRem n b U W X := by
  obtain ⟨N, hN⟩ := len_bound hU
  exact rem_from h N U hU hN
theorem const_xm {n : Nat} {b : Al09.Table} (h : Sq n b) {W : MF P} (hW : Sup n W) {X : MF Rat} (e : mm n W (xm b) = cm X) : W = (fun _ _ => 0) ∧ X = fun _ _ => 0 := by
  have hw : W = fun _ _ => 0 := by
    funext i j
    refine zero_of_len (deg_xm h hW (m := 0) (fun i j => ?_) i j)
    rw [e]; exact len_cst_le _
  refine ⟨hw, ?_⟩
  funext i j
  have := congrFun (congrFun e i) j
  rw [hw] at this
  refine cst_inj (this.symm.trans ?_)
  show su n (fun k => 0 * xm b k j) = P.cst 0
  rw [su_zero' fun k _ => by grind, cst_zero]
theorem mm_subL (n : Nat) (A B C : MF P) : mm n (fun i j => A i j - B i j) C = fun i j => mm n A C i j - mm n B C i j := by
  funext i j
  show su n (fun k => (A i k - B i k) * C k j) = su n (fun k => A i k * C k j) - su n (fun k => B i k * C k j)
  rw [show ∀ x y : P, x - y = x + (-1) * y by intro x y; grind, ← su_mul, ← su_add]
  exact su_congr fun k _ => by grind
theorem mm_addL {R : Type} [Lean.Grind.CommRing R] (n : Nat) (A B C : MF R) : mm n (fun i j => A i j + B i j) C = fun i j => mm n A C i j + mm n B C i j := by
  funext i j
  show su n (fun k => (A i k + B i k) * C k j) = su n (fun k => A i k * C k j) + su n (fun k => B i k * C k j)
  rw [← su_add]
  exact su_congr fun k _ => by grind
theorem mm_addR {R : Type} [Lean.Grind.CommRing R] (n : Nat) (A B C : MF R) : mm n C (fun i j => A i j + B i j) = fun i j => mm n C A i j + mm n C B i j := by
  funext i j
  show su n (fun k => C i k * (A k j + B k j)) = su n (fun k => C i k * A k j) + su n (fun k => C i k * B k j)
  rw [← su_add]
  exact su_congr fun k _ => by grind
theorem mm_scL {R : Type} [Lean.Grind.CommRing R] (n : Nat) (c : R) (A C : MF R) : mm n (fun i j => c * A i j) C = fun i j => c * mm n A C i j := by
  funext i j
  show su n (fun k => c * A i k * C k j) = c * su n (fun k => A i k * C k j)
  rw [← su_mul]
  exact su_congr fun k _ => by grind
theorem mm_scR {R : Type} [Lean.Grind.CommRing R] (n : Nat) (c : R) (A C : MF R) : mm n C (fun i j => c * A i j) = fun i j => c * mm n C A i j := by
  funext i j
  show su n (fun k => C i k * (c * A k j)) = c * su n (fun k => C i k * A k j)
  rw [← su_mul]
  exact su_congr fun k _ => by grind
theorem rem_unique {n : Nat} {b : Al09.Table} (h : Sq n b) {U W W' : MF P} {X X' : MF Rat} (h1 : IsRem n b U W X) (h2 : IsRem n b U W' X') : W = W' ∧ X = X' := by
  obtain ⟨w1, x1, e1⟩ := h1
  obtain ⟨w2, x2, e2⟩ := h2
  have e : mm n (fun i j => W i j - W' i j) (xm b) = cm (fun i j => X' i j - X i j) := by
    rw [mm_subL]
    funext i j
    have a1 := congrFun (congrFun e1 i) j
    have a2 := congrFun (congrFun e2 i) j
    try dsimp only at a1 a2
    show _ = P.cst (X' i j - X i j)
    have : P.cst (X' i j) = P.cst (X' i j - X i j) + P.cst (X i j) := by rw [← cst_add]; congr 1; grind
    grind
  obtain ⟨k1, k2⟩ := const_xm h (W := fun i j => W i j - W' i j) (fun i j hij => by
    show W i j - W' i j = 0
    rw [w1 i j hij, w2 i j hij]; grind) e
  constructor
  · funext i j
    have := congrFun (congrFun k1 i) j
    try dsimp only at this
    grind
  · funext i j
    have := congrFun (congrFun k2 i) j
    try dsimp only at this
    grind
/-- division of polynomials -/
theorem div_ex (p q : P) (hq : q ≠ 0) : ∃ s r : P, p = s * q + r ∧ r.len < q.len := by
  obtain ⟨s, r, _, h1, h2⟩ := divMod_spec p q hq
  exact ⟨s, r, h1, h2⟩
open Classical in
noncomputable def ov (p q : P) : P := if h : q = 0 then 0 else Classical.choose (div_ex p q h)
open Classical in
noncomputable def rs (p q : P) : P := if h : q = 0 then 0 else Classical.choose (Classical.choose_spec (div_ex p q h))
theorem ov_rs (p : P) {q : P} (h : q ≠ 0) : p = ov p q * q + rs p q ∧ (rs p q).len < q.len := by
  unfold ov rs
  rw [dif_neg h, dif_neg h]
  exact Classical.choose_spec (Classical.choose_spec (div_ex p q h))
theorem ov_eq {p q s r : P} (h : q ≠ 0) (e : p = s * q + r) (hr : r.len < q.len) : ov p q = s ∧ rs p q = r := by
  obtain ⟨h1, h2⟩ := ov_rs p h
  exact P.div_unique (h1.symm.trans e) h2 hr
theorem len_cmul (c : Rat) (p : P) : (P.cst c * p).len ≤ p.len := len_of_c fun i hi => by
  rw [show P.cst c * p = p * P.cst c by grind, P.mul_cst, c_of_len (Nat.le_refl _) hi]; grind
theorem ov_lin (q : P) : Lin (fun p => ov p q) ∧ Lin (fun p => rs p q) := by
  by_cases h : q = 0
  · have h1 : ∀ p, ov p q = 0 := fun p => dif_pos h
    have h2 : ∀ p, rs p q = 0 := fun p => dif_pos h
    refine ⟨⟨fun u v => ?_, fun c v => ?_⟩, ⟨fun u v => ?_, fun c v => ?_⟩⟩
    · show ov _ q = ov u q + ov v q
      rw [h1, h1, h1]; grind
    · show ov _ q = P.cst c * ov v q
      rw [h1, h1]; grind
    · show rs _ q = rs u q + rs v q
      rw [h2, h2, h2]; grind
    · show rs _ q = P.cst c * rs v q
      rw [h2, h2]; grind
  · have ha : ∀ u v, ov (u + v) q = ov u q + ov v q ∧ rs (u + v) q = rs u q + rs v q := fun u v => by
      obtain ⟨u1, u2⟩ := ov_rs u h
      obtain ⟨v1, v2⟩ := ov_rs v h
      refine ov_eq h ?_ ?_
      · generalize ov u q = a at *
        generalize ov v q = b at *
        generalize rs u q = x at *
        generalize rs v q = y at *
        rw [u1, v1]; grind
      · have := P.len_add (rs u q) (rs v q); omega
    have hs : ∀ c v, ov (P.cst c * v) q = P.cst c * ov v q ∧ rs (P.cst c * v) q = P.cst c * rs v q := fun c v => by
      obtain ⟨v1, v2⟩ := ov_rs v h
      refine ov_eq h ?_ ?_
      · generalize ov v q = b at *
        generalize rs v q = y at *
        rw [v1]; grind
      · have := len_cmul c (rs v q); omega
    exact ⟨⟨fun u v => (ha u v).1, fun c v => (hs c v).1⟩, ⟨fun u v => (ha u v).2, fun c v => (hs c v).2⟩⟩
/-- what's left of two by what they have in common -/
theorem cop {d e f g : P} (h1 : P.Dvd d f) (h2 : P.Dvd f d) (h3 : P.Dvd e g) (h4 : P.Dvd g e) (hd : d ≠ 0) : com f g ≠ 0 ∧ ∃ p q, d = com f g * p ∧ e = com f g * q ∧ ∀ u v, d * u = v * e → ∃ w, u = q * w := by
  have hc := com_spec f g
  obtain ⟨p, hp⟩ := hc.left.trans h2
  obtain ⟨q, hq⟩ := hc.right.trans h4
  have h0 : com f g ≠ 0 := fun z => hd (by rw [hp, z]; grind)
  refine ⟨h0, p, q, hp, hq, fun u v huv => ?_⟩
  obtain ⟨a, b, k1, k2⟩ := bez_gcd e.len d e (Nat.le_refl _)
  obtain ⟨s, hs⟩ := hc.all _ (k1.trans h1) (k2.trans h3)
  generalize com f g = h at *
  have e1 : (1 : P) = (a * p + b * q) * s := P.mul_cancel h0 (by
    have : h * ((a * p + b * q) * s) = (a * d + b * e) * s := by rw [hp, hq]; grind
    rw [this, ← hs]; grind)
  have e2 : p * u = v * q := P.mul_cancel h0 (by
    have : h * (v * q) = v * e := by rw [hq]; grind
    rw [this, ← huv, hp]; grind)
  refine ⟨a * s * v + b * s * u, ?_⟩
  have : u = (a * p + b * q) * s * u := by rw [← e1]; grind
  rw [this]
  have : (a * p + b * q) * s * u = a * s * (p * u) + b * q * s * u := by grind
  rw [this, e2]; grind
end Ma
/-! How many tables carry one into another, by the forms. -/
namespace Ma
open Vs
/-- tables that carry a into b -/
def Car (n : Nat) (a b : Al09.Table) (X : Nat → Nat → Rat) : Prop := Sup n X ∧ mm n (E a) X = mm n X (E b)
def PL (d : Nat) (p : P) : Prop := p.len ≤ d
theorem plen_iso (d : Nat) : Iso (PL d) (Spc d) := by
  have hsc : ∀ (c : Rat) (p : P) (i : Nat), (P.cst c * p).c i = c * p.c i := fun c p i => by rw [show P.cst c * p = p * P.cst c by grind, P.mul_cst]
  constructor
  · refine ⟨fun p i => p.c i, ⟨fun u v => funext fun i => P.c_add u v i, fun c v => funext fun i => hsc c v i⟩, fun p hp i hi => c_of_len hp hi, fun p hp e => P.ext' fun i => ?_⟩
    have := congrFun e i
    show p.c i = (0 : P).c i
    rw [c_zero]
    exact this
  · have hc : ∀ (u : Vec) (i : Nat), (mk ((List.range d).map u)).c i = if i < d then u i else 0 := fun u i => by rw [mk_c, co_range_map]
    refine ⟨fun u => mk ((List.range d).map u), ⟨fun u v => P.ext' fun i => ?_, fun c v => P.ext' fun i => ?_⟩, fun u hu => len_of_c fun i hi => ?_, fun u hu e => funext fun i => ?_⟩
    · show (mk ((List.range d).map (ad u v))).c i = (mk ((List.range d).map u) + mk ((List.range d).map v)).c i
      rw [P.c_add, hc, hc, hc]
      split
      · rfl
      · grind
    · show (mk ((List.range d).map (sc c v))).c i = (P.cst c * mk ((List.range d).map v)).c i
      rw [hsc, hc, hc]
      split
      · rfl
      · grind
    · rw [hc, if_neg (by omega)]
    · by_cases hi : i < d
      · have := congrArg (fun p => P.c p i) e
        have h2 : (mk ((List.range d).map u)).c i = (0 : P).c i := this
        rw [hc, if_pos hi, c_zero] at h2
        exact h2
      · exact hu i (by omega)
theorem car_xm {n : Nat} {a b : Al09.Table} (ha : Sq n a) (hb : Sq n b) {X : MF Rat} (h : Car n a b X) : mm n (xm a) (cm X) = mm n (cm X) (xm b) := by
  rw [xm_mm ha (cm_sup h.1), mm_xm hb (cm_sup h.1), mm_cm, mm_cm, h.2]
theorem dgP_mm {n : Nat} (d : Nat → P) (U : MF P) {i : Nat} (hi : i < n) (j : Nat) : mm n (dgP n d) U i j = d i * U i j := by
  refine Eq.trans (su_congr fun k hk => ?_) (su_one hi (fun k => d i * U k j))
  show (if i = k ∧ i < n then d i else 0) * U k j = if i = k then d i * U k j else 0
  by_cases e : i = k
  · rw [if_pos ⟨e, hi⟩, if_pos e]
  · rw [if_neg (fun z => e z.1), if_neg e]; grind
theorem mm_dgP {n : Nat} (d : Nat → P) (U : MF P) (i : Nat) {j : Nat} (hj : j < n) : mm n U (dgP n d) i j = U i j * d j := by
  refine Eq.trans (su_congr fun k hk => ?_) (su_one hj (fun k => U i k * d k))
  show U i k * (if k = j ∧ k < n then d k else 0) = if j = k then U i k * d k else 0
  by_cases e : j = k
  · rw [if_pos ⟨e.symm, hk⟩, if_pos e]
  · rw [if_neg (fun z => e z.1.symm), if_neg e]; grind
theorem sup_outer {n : Nat} {A B : MF P} (hA : Sup n A) (hB : Sup n B) (Z : MF P) : Sup n (mm n (mm n A Z) B) := fun i j hij => by
  refine su_zero' fun k _ => ?_
  by_cases hi : i < n
  · rw [hB k j (by omega)]; grind
  · have : mm n A Z i k = 0 := su_zero' fun l _ => by rw [hA i l (by omega)]; grind
    rw [this]; grind
/-- how many there are of one pair -/
def hdg (a b : Al09.Table) (i j : Nat) : Nat := (com (fP a i) (fP b j)).len - 1
def TT (n : Nat) (a b : Al09.Table) (w : Nat → Nat → P) : Prop := Pro n (fun i => Pro n (fun j => PL (hdg a b i j))) w
/-- what's known of two tables -/
structure Two (n : Nat) (a b : Al09.Table) where
  ha : Sq n a
  hb : Sq n b
  d : Nat → P
  e : Nat → P
  P1 : MF P
  P1' : MF P
  Q1 : MF P
  Q1' : MF P
  P2 : MF P
  P2' : MF P
  Q2 : MF P
  Q2' : MF P
  uP1 : Un n P1 P1'
  uQ1 : Un n Q1 Q1'
  uP2 : Un n P2 P2'
  uQ2 : Un n Q2 Q2'
  eA : xm a = mm n (mm n P1 (dgP n d)) Q1
  eB : xm b = mm n (mm n P2 (dgP n e)) Q2
  p : MF P
  q : MF P
  e0 : ∀ j, j < n → e j ≠ 0
  hc : ∀ i j, i < n → j < n → com (fP a i) (fP b j) ≠ 0 ∧ d i = com (fP a i) (fP b j) * p i j ∧ e j = com (fP a i) (fP b j) * q i j ∧ ∀ u v, d i * u = v * e j → ∃ w, u = q i j * w
theorem two {n : Nat} {a b : Al09.Table} (ha : Sq n a) (hb : Sq n b) : Nonempty (Two n a b) := by
  obtain ⟨d, ⟨⟨P1, P1', Q1, Q1', uP1, uQ1, eA⟩, cA, fA⟩⟩ := smt ha
  obtain ⟨e, ⟨⟨P2, P2', Q2, Q2', uP2, uQ2, eB⟩, cB, fB⟩⟩ := smt hb
  have hf0 : ∀ {a : Al09.Table}, Sq n a → ∀ i, i < n → fP a i ≠ 0 := fun h i hi z => by
    have := (fP_all h hi).2.1
    rw [z] at this
    have h2 : (0 : P).ld = 0 := by show AlOne.lead (0 : P).1 = 0; rw [P.zero_val]; rfl
    rw [h2] at this
    exact absurd this (by decide)
  have hd0 : ∀ i, i < n → d i ≠ 0 := fun i hi z => by
    have := (fA i hi).1
    rw [z] at this
    exact hf0 ha i hi this.of_zero
  have he0 : ∀ i, i < n → e i ≠ 0 := fun i hi z => by
    have := (fB i hi).1
    rw [z] at this
    exact hf0 hb i hi this.of_zero
  have H : ∀ i j, ∃ pq : P × P, i < n → j < n → com (fP a i) (fP b j) ≠ 0 ∧ d i = com (fP a i) (fP b j) * pq.1 ∧ e j = com (fP a i) (fP b j) * pq.2 ∧ ∀ u v, d i * u = v * e j → ∃ w, u = pq.2 * w := fun i j => by
    by_cases h : i < n ∧ j < n
    · obtain ⟨h0, p, q, h1, h2, h3⟩ := cop (fA i h.1).1 (fA i h.1).2 (fB j h.2).1 (fB j h.2).2 (hd0 i h.1)
      exact ⟨(p, q), fun _ _ => ⟨h0, h1, h2, h3⟩⟩
    · exact ⟨(0, 0), fun hi hj => absurd ⟨hi, hj⟩ h⟩
  exact ⟨⟨ha, hb, d, e, P1, P1', Q1, Q1', P2, P2', Q2, Q2', uP1, uQ1, uP2, uQ2, eA, eB, fun i j => (Classical.choose (H i j)).1, fun i j => (Classical.choose (H i j)).2, he0, fun i j hi hj => Classical.choose_spec (H i j) hi hj⟩⟩
variable {n : Nat} {a b : Al09.Table}
theorem Two.q0 (T : Two n a b) {i j : Nat} (hi : i < n) (hj : j < n) : T.q i j ≠ 0 := fun z => by
  have := (T.hc i j hi hj).2.2.1
  rw [z] at this
  exact T.e0 j hj (by rw [this]; grind)
/-- the second table's side -/
theorem Two.bq (T : Two n a b) : mm n (xm b) T.Q2' = mm n T.P2 (dgP n T.e) := by
  rw [T.eB, T.uQ2.right (mm_sup T.uP2.sp (dgP_sup n _))]
theorem Two.eq2 (T : Two n a b) : mm n (dgP n T.e) T.Q2 = mm n T.P2' (xm b) := by
  rw [T.eB, mm_assoc n T.P2, T.uP2.symm.left (mm_sup (dgP_sup n _) T.uQ2.sp)]
theorem Two.pa (T : Two n a b) : mm n T.P1' (xm a) = mm n (dgP n T.d) T.Q1 := by
  rw [T.eA, mm_assoc n T.P1, T.uP1.symm.left (mm_sup (dgP_sup n _) T.uQ1.sp)]
noncomputable def Two.f (T : Two n a b) (X : Nat → Nat → Rat) : Nat → Nat → P := fun i j => if i < n ∧ j < n then rs (ov (mm n (mm n T.Q1 (cm X)) T.Q2' i j) (T.q i j)) (com (fP a i) (fP b j)) else 0
theorem Two.f_lin (T : Two n a b) : Lin T.f := by
  constructor
  · intro u v
    funext i j
    show (if i < n ∧ j < n then _ else _) = (if i < n ∧ j < n then _ else (0 : P)) + (if i < n ∧ j < n then _ else 0)
    have e1 : cm (ad u v) = fun i j => cm u i j + cm v i j := by
      funext i j; exact cst_add _ _
    rw [e1, mm_addR, mm_addL]
    split
    · have e2 := (ov_lin (T.q i j)).1.a (mm n (mm n T.Q1 (cm u)) T.Q2' i j) (mm n (mm n T.Q1 (cm v)) T.Q2' i j)
      have e3 := (ov_lin (com (fP a i) (fP b j))).2.a (ov (mm n (mm n T.Q1 (cm u)) T.Q2' i j) (T.q i j)) (ov (mm n (mm n T.Q1 (cm v)) T.Q2' i j) (T.q i j))
      exact (congrArg (fun x => rs x (com (fP a i) (fP b j))) e2).trans e3
    · grind
  · intro c v
    funext i j
    show (if i < n ∧ j < n then _ else _) = P.cst c * (if i < n ∧ j < n then _ else (0 : P))
    have e1 : cm (sc c v) = fun i j => P.cst c * cm v i j := by
      funext i j; exact (scst_mul _ _).symm
    rw [e1, mm_scR, mm_scL]
    split
    · have e2 := (ov_lin (T.q i j)).1.s c (mm n (mm n T.Q1 (cm v)) T.Q2' i j)
      have e3 := (ov_lin (com (fP a i) (fP b j))).2.s c (ov (mm n (mm n T.Q1 (cm v)) T.Q2' i j) (T.q i j))
      exact (congrArg (fun x => rs x (com (fP a i) (fP b j))) e2).trans e3
    · grind
theorem Two.f_in (T : Two n a b) (X : Nat → Nat → Rat) : TT n a b (T.f X) := by
  refine ⟨fun i hi => ⟨fun j hj => ?_, fun j hj => if_neg (by omega)⟩, fun i hi => funext fun j => if_neg (by omega)⟩
  show (T.f X i j).len ≤ _
  unfold Two.f hdg
  rw [if_pos ⟨hi, hj⟩]
  have := (ov_rs (ov (mm n (mm n T.Q1 (cm X)) T.Q2' i j) (T.q i j)) (T.hc i j hi hj).1).2
  omega
theorem Two.f_ker (T : Two n a b) {X : Nat → Nat → Rat} (hX : Car n a b X) (hz : T.f X = ze) : X = ze := by
  have hcX := cm_sup hX.1
  have hAB := car_xm T.ha T.hb hX
  have sU : Sup n (mm n (mm n T.Q1 (cm X)) T.Q2') := sup_outer T.uQ1.sp T.uQ2.sq _
  have hDU : mm n (dgP n T.d) (mm n (mm n T.Q1 (cm X)) T.Q2') = mm n (mm n T.P1' (mm n (cm X) T.P2)) (dgP n T.e) := by
    rw [← mm_assoc, ← mm_assoc, ← T.pa, mm_assoc n T.P1', hAB, mm_assoc n T.P1', mm_assoc n (cm X), T.bq, mm_assoc n T.P1', mm_assoc n (cm X)]
  generalize hU : mm n (mm n T.Q1 (cm X)) T.Q2' = U at *
  have hs : ∀ i j, i < n → j < n → U i j = ov (ov (U i j) (T.q i j)) (com (fP a i) (fP b j)) * T.e j := fun i j hi hj => by
    obtain ⟨h0, h1, h2, h3⟩ := T.hc i j hi hj
    have k1 := congrFun (congrFun hDU i) j
    rw [dgP_mm T.d U hi, mm_dgP T.e _ i hj] at k1
    obtain ⟨w, hw⟩ := h3 _ _ k1
    have k2 : ov (U i j) (T.q i j) = w := (ov_eq (s := w) (r := 0) (T.q0 hi hj) (by rw [hw]; grind) (by rw [P.len_zero]; exact P.len_pos (T.q0 hi hj))).1
    have k3 : T.f X i j = 0 := by rw [hz]; rfl
    unfold Two.f at k3
    rw [if_pos ⟨hi, hj⟩, hU] at k3
    have k4 := (ov_rs (ov (U i j) (T.q i j)) h0).1
    rw [k3] at k4
    rw [k2] at k4 ⊢
    rw [hw, h2]
    generalize ov w (com (fP a i) (fP b j)) = s at *
    rw [k4]; grind
  have hUS : U = mm n (cut n fun i j => ov (ov (U i j) (T.q i j)) (com (fP a i) (fP b j))) (dgP n T.e) := by
    refine sup_ext sU (mm_sup (cut_sup _ _) (dgP_sup _ _)) fun i j hi hj => ?_
    rw [mm_dgP T.e _ i hj, cut_in hi hj]
    exact hs i j hi hj
  generalize hS : (cut n fun i j => ov (ov (U i j) (T.q i j)) (com (fP a i) (fP b j))) = S at hUS
  have sS : Sup n S := by rw [← hS]; exact cut_sup _ _
  have hX2 : cm X = mm n (mm n T.Q1' (mm n S T.P2')) (xm b) := by
    have k1 : mm n T.Q1' (mm n U T.Q2) = cm X := by
      rw [← hU, mm_assoc n (mm n T.Q1 (cm X)), T.uQ2.qp, mm_un (mm_sup T.uQ1.sp hcX), T.uQ1.symm.left hcX]
    rw [← k1, hUS, mm_assoc n S, T.eq2, mm_assoc n T.Q1', mm_assoc n S]
  have := (const_xm T.hb (mm_sup T.uQ1.sq (mm_sup sS T.uP2.sq)) hX2.symm).2
  rw [this]; rfl
/-- the way back -/
noncomputable def Two.U (T : Two n a b) (w : Nat → Nat → P) : MF P := mm n (mm n T.Q1' (fun i j => T.q i j * w i j)) T.Q2
theorem Two.U_sup (T : Two n a b) (w : Nat → Nat → P) : Sup n (T.U w) := sup_outer T.uQ1.sq T.uQ2.sp _
noncomputable def Two.W (T : Two n a b) (w : Nat → Nat → P) : MF P := Classical.choose (rem_ex T.hb (T.U_sup w))
noncomputable def Two.g (T : Two n a b) (w : Nat → Nat → P) : Nat → Nat → Rat := Classical.choose (Classical.choose_spec (rem_ex T.hb (T.U_sup w)))
theorem Two.g_spec (T : Two n a b) (w : Nat → Nat → P) : IsRem n b (T.U w) (T.W w) (T.g w) := Classical.choose_spec (Classical.choose_spec (rem_ex T.hb (T.U_sup w)))
theorem Two.g_lin (T : Two n a b) : Lin T.g := by
  constructor
  · intro u v
    have h := T.g_spec (ad u v)
    obtain ⟨a1, a2, a3⟩ := T.g_spec u
    obtain ⟨b1, b2, b3⟩ := T.g_spec v
    have e : T.U (ad u v) = fun i j => T.U u i j + T.U v i j := by
      unfold Two.U
      have e1 : (fun i j => T.q i j * (ad u v) i j) = fun i j => (fun i j => T.q i j * u i j) i j + (fun i j => T.q i j * v i j) i j := by
        funext i j
        show T.q i j * (u i j + v i j) = _
        grind
      rw [e1, mm_addR, mm_addL]
    refine (rem_unique T.hb h (W' := fun i j => T.W u i j + T.W v i j) ⟨fun i j hij => ?_, fun i j hij => ?_, ?_⟩).2
    · show T.W u i j + T.W v i j = 0
      rw [a1 i j hij, b1 i j hij]; grind
    · show T.g u i j + T.g v i j = 0
      rw [a2 i j hij, b2 i j hij]; grind
    · rw [e, mm_addL]
      funext i j
      have k1 := congrFun (congrFun a3 i) j
      have k2 := congrFun (congrFun b3 i) j
      rw [k1, k2]
      show _ = _ + P.cst (T.g u i j + T.g v i j)
      rw [cst_add]; grind
  · intro c v
    have h := T.g_spec (sc c v)
    obtain ⟨b1, b2, b3⟩ := T.g_spec v
    have e : T.U (sc c v) = fun i j => P.cst c * T.U v i j := by
      unfold Two.U
      have e1 : (fun i j => T.q i j * (sc c v) i j) = fun i j => P.cst c * (fun i j => T.q i j * v i j) i j := by
        funext i j
        show T.q i j * (P.cst c * v i j) = _
        grind
      rw [e1, mm_scR, mm_scL]
    refine (rem_unique T.hb h (W' := fun i j => P.cst c * T.W v i j) ⟨fun i j hij => ?_, fun i j hij => ?_, ?_⟩).2
    · show P.cst c * T.W v i j = 0
      rw [b1 i j hij]; grind
    · show c * T.g v i j = 0
      rw [b2 i j hij]; grind
    · rw [e, mm_scL]
      funext i j
      have k2 := congrFun (congrFun b3 i) j
      rw [k2]
      show _ = _ + P.cst (c * T.g v i j)
      rw [← scst_mul]; grind
theorem TT.out {w : Nat → Nat → P} (h : TT n a b w) {i j : Nat} (hij : ¬ (i < n ∧ j < n)) : w i j = 0 := by
  by_cases hi : i < n
  · exact (h.1 i hi).2 j (by omega)
  · rw [h.2 i (by omega)]; rfl
theorem Two.g_in (T : Two n a b) {w : Nat → Nat → P} (hw : TT n a b w) : Car n a b (T.g w) := by
  obtain ⟨s1, s2, s3⟩ := T.g_spec w
  have sU' : Sup n (fun i j => T.q i j * w i j) := fun i j hij => by
    show T.q i j * w i j = 0
    rw [hw.out hij]; grind
  have sV' : Sup n (fun i j => T.p i j * w i j) := fun i j hij => by
    show T.p i j * w i j = 0
    rw [hw.out hij]; grind
  have hDU : mm n (dgP n T.d) (fun i j => T.q i j * w i j) = mm n (fun i j => T.p i j * w i j) (dgP n T.e) := by
    refine sup_ext (mm_sup (dgP_sup n _) sU') (mm_sup sV' (dgP_sup n _)) fun i j hi hj => ?_
    rw [dgP_mm T.d _ hi, mm_dgP T.e _ i hj]
    obtain ⟨h0, h1, h2, h3⟩ := T.hc i j hi hj
    rw [h1, h2]; grind
  have hAU : mm n (xm a) (T.U w) = mm n (mm n (mm n T.P1 (fun i j => T.p i j * w i j)) T.P2') (xm b) := by
    unfold Two.U
    rw [T.eA, mm_assoc n (mm n T.P1 (dgP n T.d)), mm_assoc n T.Q1', T.uQ1.left (mm_sup sU' T.uQ2.sp), mm_assoc n T.P1, ← mm_assoc n (dgP n T.d), hDU, mm_assoc n _ (dgP n T.e), T.eq2, ← mm_assoc, ← mm_assoc]
  generalize hV : mm n (mm n T.P1 (fun i j => T.p i j * w i j)) T.P2' = V at hAU
  have sV : Sup n V := by rw [← hV]; exact sup_outer T.uP1.sp T.uP2.sq _
  have hAX : mm n (xm a) (cm (T.g w)) = mm n (fun i j => V i j - mm n (xm a) (T.W w) i j) (xm b) := by
    rw [mm_subL, mm_assoc n (xm a), ← hAU, s3]
    have e := mm_addR n (mm n (T.W w) (xm b)) (cm (T.g w)) (xm a)
    have e2 : (fun i j => mm n (T.W w) (xm b) i j + cm (T.g w) i j) = fun i j => mm n (T.W w) (xm b) i j + P.cst (T.g w i j) := rfl
    rw [← e2, e]
    funext i j
    grind
  have sV2 : Sup n (fun i j => V i j - mm n (xm a) (T.W w) i j) := fun i j hij => by
    show V i j - mm n (xm a) (T.W w) i j = 0
    rw [sV i j hij, mm_sup (xm_sup T.ha) s1 i j hij]; grind
  generalize (fun i j => V i j - mm n (xm a) (T.W w) i j) = V2 at hAX sV2
  have hscX := cm_sup s2
  have hL : mm n (xm a) (cm (T.g w)) = fun i j => Ma.X 1 * P.cst (T.g w i j) - P.cst (mm n (E a) (T.g w) i j) := by
    rw [xm_mm T.ha hscX, mm_cm]; rfl
  have cX1 : ∀ (x y : Rat) (t : Nat), (Ma.X 1 * P.cst x - P.cst y).c t = if t = 0 then -y else if t = 1 then x else 0 := fun x y t => by
    obtain ⟨h1, h2⟩ := c_X1 (P.cst x)
    rw [P.c_sub]
    match t with
    | 0 => rw [h1, cst_at0, if_pos rfl]; grind
    | 1 => rw [h2, cst_at0, cst_cs, if_neg (by decide), if_pos rfl]; grind
    | t + 2 => rw [h2, cst_cs, cst_cs, if_neg (by omega), if_neg (by omega)]; grind
  have hlen : ∀ i j, (V2 i j).len ≤ 1 := fun i j => deg_xm T.hb sV2 (m := 1) (fun i j => by
    rw [← hAX, hL]
    refine len_of_c fun t ht => ?_
    rw [cX1, if_neg (by omega), if_neg (by omega)]) i j
  have hV2 : V2 = cm (fun i j => (V2 i j).c 0) := by
    funext i j
    exact cst_of_len (hlen i j)
  generalize (fun i j => (V2 i j).c 0) = Y at hV2
  have hR : mm n V2 (xm b) = fun i j => Ma.X 1 * P.cst (Y i j) - P.cst (mm n Y (E b) i j) := by
    rw [mm_xm T.hb sV2, hV2, mm_cm]; rfl
  rw [hL, hR] at hAX
  have hXY : T.g w = Y := by
    funext i j
    have := congrArg (fun p => P.c p 1) (congrFun (congrFun hAX i) j)
    have h2 : (Ma.X 1 * P.cst (T.g w i j) - P.cst (mm n (E a) (T.g w) i j)).c 1 = (Ma.X 1 * P.cst (Y i j) - P.cst (mm n Y (E b) i j)).c 1 := this
    rw [cX1, cX1, if_neg (by decide), if_pos rfl, if_neg (by decide), if_pos rfl] at h2
    exact h2
  refine ⟨s2, ?_⟩
  funext i j
  have := congrArg (fun p => P.c p 0) (congrFun (congrFun hAX i) j)
  have h2 : (Ma.X 1 * P.cst (T.g w i j) - P.cst (mm n (E a) (T.g w) i j)).c 0 = (Ma.X 1 * P.cst (Y i j) - P.cst (mm n Y (E b) i j)).c 0 := this
  rw [cX1, cX1, if_pos rfl, if_pos rfl, ← hXY] at h2
  grind
theorem Two.g_ker (T : Two n a b) {w : Nat → Nat → P} (hw : TT n a b w) (hz : T.g w = ze) : w = ze := by
  obtain ⟨s1, s2, s3⟩ := T.g_spec w
  have sU' : Sup n (fun i j => T.q i j * w i j) := fun i j hij => by
    show T.q i j * w i j = 0
    rw [hw.out hij]; grind
  have e1 : T.U w = mm n (T.W w) (xm b) := by
    rw [s3, hz]
    funext i j
    show _ + P.cst 0 = _
    rw [cst_zero]; grind
  have e2 : (fun i j => T.q i j * w i j) = mm n (mm n T.Q1 (mm n (T.W w) T.P2)) (dgP n T.e) := by
    have k1 : mm n T.Q1 (mm n (T.U w) T.Q2') = fun i j => T.q i j * w i j := by
      unfold Two.U
      rw [mm_assoc n (mm n T.Q1' _), T.uQ2.pq, mm_un (mm_sup T.uQ1.sq sU'), T.uQ1.left sU']
    rw [← k1, e1, mm_assoc n (T.W w), T.bq, mm_assoc n T.Q1, mm_assoc n (T.W w)]
  funext i
  funext j
  by_cases hij : i < n ∧ j < n
  · obtain ⟨hi, hj⟩ := hij
    obtain ⟨h0, h1, h2, h3⟩ := T.hc i j hi hj
    have k1 := congrFun (congrFun e2 i) j
    rw [mm_dgP T.e _ i hj, h2] at k1
    generalize mm n T.Q1 (mm n (T.W w) T.P2) i j = s at k1
    have hl : (w i j).len ≤ (com (fP a i) (fP b j)).len - 1 := (hw.1 i hi).1 j hj
    have hq := T.q0 hi hj
    generalize com (fP a i) (fP b j) = h at *
    have k2 : w i j = s * h := P.mul_cancel hq (by
      show T.q i j * w i j = _
      rw [k1]; grind)
    have hp := P.len_pos h0
    by_cases hs : s = 0
    · rw [k2, hs]
      show 0 * h = (0 : P)
      grind
    · exfalso
      have := P.len_mul hs h0
      have hp2 := P.len_pos hs
      rw [← k2] at this
      omega
  · exact hw.out hij
/-- **as many as the degrees of what the forms have in common** -/
theorem car_iso (ha : Sq n a) (hb : Sq n b) : Iso (Car n a b) (Spc (sn n fun i => sn n fun j => hdg a b i j)) := by
  obtain ⟨T⟩ := two ha hb
  have h1 : Iso (Car n a b) (TT n a b) := ⟨⟨T.f, T.f_lin, fun X _ => T.f_in X, fun X hX hz => T.f_ker hX hz⟩, ⟨T.g, T.g_lin, fun w hw => T.g_in hw, fun w hw hz => T.g_ker hw hz⟩⟩
  refine h1.trans ?_
  have z1 : ∀ c : Rat, sc c (ze : P) = ze := fun c => by show P.cst c * 0 = (0 : P); grind
  have z2 : ad (ze : P) ze = ze := by show (0 : P) + 0 = 0; grind
  refine pro_iso (V := Nat → P) (fun c => funext fun _ => z1 c) (funext fun _ => z2) n fun i hi => ?_
  exact pro_iso z1 z2 n fun j hj => plen_iso _
end Ma
/-! The specification's carried and stretches, by the forms. -/
namespace Ma
open Vs
theorem su_app (f : Nat → Rat) (m : Nat) : ∀ k, su (m + k) f = su m f + su k (fun l => f (m + l))
  | 0 => by show su m f = su m f + 0; grind
  | k + 1 => by
    show su (m + k) f + f (m + k) = su m f + (su k (fun l => f (m + l)) + f (m + k))
    rw [su_app f m k]; grind
theorem su_flat (n : Nat) (f : Nat → Rat) : ∀ m, su (m * n) f = su m (fun k => su n (fun l => f (k * n + l)))
  | 0 => by rw [Nat.zero_mul]; rfl
  | m + 1 => by rw [Nat.succ_mul, su_app, su_flat n f m]; rfl
theorem flat_len (n : Nat) (f : Nat → Nat → Rat) (m : Nat) : ((List.range m).flatMap fun k => (List.range n).map fun l => f k l).length = m * n := by
  induction m with
  | zero => simp
  | succ m ih => rw [List.range_succ, List.flatMap_append, List.length_append, ih]; simp [Nat.succ_mul]
theorem flat_get (n : Nat) (f : Nat → Nat → Rat) : ∀ (m k l : Nat), k < m → l < n → ((List.range m).flatMap fun k => (List.range n).map fun l => f k l).getD (k * n + l) 0 = f k l
  | 0, k, l, hk, _ => by omega
  | m + 1, k, l, hk, hl => by
    have hlen := flat_len n f m
    rw [List.range_succ, List.flatMap_append, List.getD_eq_getElem?_getD]
    by_cases e : k = m
    · subst e
      rw [List.getElem?_append_right (by omega), hlen, show k * n + l - k * n = l by omega]
      simp [hl]
    · have hkm : k * n + n ≤ m * n := by
        have : (k + 1) * n ≤ m * n := Nat.mul_le_mul_right n (by omega)
        rwa [Nat.succ_mul] at this
      rw [List.getElem?_append_left (by omega), ← List.getD_eq_getElem?_getD]
      exact flat_get n f m k l (by omega) hl
/-- the row of the equation at i, j -/
def crow (n : Nat) (a b : Al09.Table) (i j : Nat) : List Rat := (List.range n).flatMap fun k => (List.range n).map fun l => (if l = j then (a.getD i []).getD k 0 else 0) - (if k = i then (b.getD l []).getD j 0 else 0)
theorem crow_dot {n : Nat} {a b : Al09.Table} {i j : Nat} (hi : i < n) (hj : j < n) (v : Vec) : dv1 (n * n) (fn (crow n a b i j)) v = mm n (E a) (fun k l => v (k * n + l)) i j - mm n (fun k l => v (k * n + l)) (E b) i j := by
  unfold dv1
  rw [su_flat]
  have e1 : su n (fun k => su n (fun l => fn (crow n a b i j) (k * n + l) * v (k * n + l))) = su n (fun k => su n (fun l => (if j = l then E a i k * v (k * n + l) else 0) + (-1) * (if i = k then E b l j * v (k * n + l) else 0))) := by
    refine su_congr fun k hk => su_congr fun l hl => ?_
    have : fn (crow n a b i j) (k * n + l) = _ := flat_get n (fun k l => (if l = j then (a.getD i []).getD k 0 else 0) - (if k = i then (b.getD l []).getD j 0 else 0)) n k l hk hl
    rw [this]
    have ea : (a.getD i []).getD k 0 = E a i k := by unfold E; rw [List.getD_eq_getElem?_getD (l := a)]
    have eb : (b.getD l []).getD j 0 = E b l j := by unfold E; rw [List.getD_eq_getElem?_getD (l := b)]
    rw [ea, eb]
    by_cases h1 : l = j
    · by_cases h2 : k = i
      · rw [if_pos h1, if_pos h2, if_pos h1.symm, if_pos h2.symm]; grind
      · rw [if_pos h1, if_neg h2, if_pos h1.symm, if_neg (fun e => h2 e.symm)]; grind
    · by_cases h2 : k = i
      · rw [if_neg h1, if_pos h2, if_neg (fun e => h1 e.symm), if_pos h2.symm]; grind
      · rw [if_neg h1, if_neg h2, if_neg (fun e => h1 e.symm), if_neg (fun e => h2 e.symm)]; grind
  have e2 : ∀ k, su n (fun l => (if j = l then E a i k * v (k * n + l) else 0) + (-1) * (if i = k then E b l j * v (k * n + l) else 0)) = E a i k * v (k * n + j) + (-1) * (if i = k then su n (fun l => E b l j * v (k * n + l)) else 0) := fun k => by
    rw [su_add, su_one hj (fun l => E a i k * v (k * n + l)), su_mul]
    congr 2
    by_cases h : i = k
    · rw [if_pos h]; exact su_congr fun l _ => if_pos h
    · rw [if_neg h]; exact su_zero' fun l _ => if_neg h
  rw [e1, su_congr fun k _ => e2 k, su_add, su_mul, su_one hi (fun k => su n (fun l => E b l j * v (k * n + l)))]
  have e3 : su n (fun l => E b l j * v (i * n + l)) = mm n (fun k l => v (k * n + l)) (E b) i j := su_congr fun l _ => by grind
  rw [e3]
  show su n (fun k => E a i k * v (k * n + j)) + _ = su n (fun k => E a i k * v (k * n + j)) - _
  grind
theorem mem_crow {n : Nat} {a b : Al09.Table} (ha : Sq n a) {r : List Rat} : r ∈ Al09.carryRows a b ↔ ∃ i j, i < n ∧ j < n ∧ r = crow n a b i j := by
  unfold Al09.carryRows
  simp only [ha.rows, List.mem_flatMap, List.mem_map, List.mem_range]
  constructor
  · rintro ⟨i, hi, j, hj, e⟩
    exact ⟨i, j, hi, hj, e.symm⟩
  · rintro ⟨i, j, hi, hj, e⟩
    exact ⟨i, hi, j, hj, e.symm⟩
theorem sol_car {n : Nat} {a b : Al09.Table} (ha : Sq n a) (hb : Sq n b) : Iso (Sol 0 (n * n) ((Al09.carryRows a b).map fn)) (Car n a b) := by
  have hin : ∀ v : Vec, (∀ r ∈ (Al09.carryRows a b).map fn, dv1 (n * n) r v = 0) ↔ ∀ i j, i < n → j < n → mm n (E a) (fun k l => v (k * n + l)) i j = mm n (fun k l => v (k * n + l)) (E b) i j := fun v => by
    constructor
    · intro h i j hi hj
      have := h _ (List.mem_map.mpr ⟨_, (mem_crow ha).mpr ⟨i, j, hi, hj, rfl⟩, rfl⟩)
      rw [crow_dot hi hj] at this
      grind
    · intro h r hr
      rw [List.mem_map] at hr
      obtain ⟨r', hr', rfl⟩ := hr
      obtain ⟨i, j, hi, hj, rfl⟩ := (mem_crow ha).mp hr'
      rw [crow_dot hi hj, h i j hi hj]; grind
  have hcutL : ∀ v : Vec, ∀ i j, i < n → j < n → mm n (E a) (cut n fun k l => v (k * n + l)) i j = mm n (E a) (fun k l => v (k * n + l)) i j := fun v i j hi hj => su_congr fun k hk => by rw [cut_in hk hj]
  have hcutR : ∀ v : Vec, ∀ i j, i < n → j < n → mm n (cut n fun k l => v (k * n + l)) (E b) i j = mm n (fun k l => v (k * n + l)) (E b) i j := fun v i j hi hj => su_congr fun k hk => by rw [cut_in hi hk]
  constructor
  · refine ⟨fun v => cut n fun k l => v (k * n + l), ⟨fun u v => ?_, fun c v => ?_⟩, fun v hv => ⟨cut_sup _ _, ?_⟩, fun v hv e => ?_⟩
    · funext k l
      show (if k < n ∧ l < n then u (k * n + l) + v (k * n + l) else 0) = (if k < n ∧ l < n then u (k * n + l) else 0) + (if k < n ∧ l < n then v (k * n + l) else 0)
      split
      · rfl
      · grind
    · funext k l
      show (if k < n ∧ l < n then c * v (k * n + l) else 0) = c * (if k < n ∧ l < n then v (k * n + l) else 0)
      split
      · rfl
      · grind
    · refine sup_ext (mm_sup (E_sup ha) (cut_sup _ _)) (mm_sup (cut_sup _ _) (E_sup hb)) fun i j hi hj => ?_
      rw [hcutL v i j hi hj, hcutR v i j hi hj]
      exact (hin v).mp hv.2.2 i j hi hj
    · funext t
      by_cases ht : t < n * n
      · have hn : 0 < n := by
          rcases Nat.eq_zero_or_pos n with h | h
          · subst h; omega
          · exact h
        have h1 : t / n < n := Nat.div_lt_of_lt_mul ht
        have h2 : t % n < n := Nat.mod_lt t hn
        have := congrFun (congrFun e (t / n)) (t % n)
        dsimp only at this
        rw [cut_in h1 h2, Nat.div_add_mod' t n] at this
        exact this
      · exact hv.2.1 t (by omega)
  · have hX : ∀ X : Nat → Nat → Rat, Sup n X → ∀ k l, k < n → l < n → (fun t => if t < n * n then X (t / n) (t % n) else 0) (k * n + l) = X k l := fun X _ k l hk hl => by
      have h1 : k * n + l < n * n := by
        have : (k + 1) * n ≤ n * n := Nat.mul_le_mul_right n (by omega)
        rw [Nat.succ_mul] at this
        omega
      dsimp only
      rw [if_pos h1, Nat.mul_comm k n, Nat.mul_add_div (by omega), Nat.mul_add_mod, Nat.div_eq_of_lt hl, Nat.mod_eq_of_lt hl, Nat.add_zero]
    refine ⟨fun X t => if t < n * n then X (t / n) (t % n) else 0, ⟨fun u v => ?_, fun c v => ?_⟩, fun X hX' => ⟨fun i hi => by omega, fun t ht => if_neg (by omega), ?_⟩, fun X hX' e => ?_⟩
    · funext t
      show (if t < n * n then u (t / n) (t % n) + v (t / n) (t % n) else 0) = (if t < n * n then u (t / n) (t % n) else 0) + (if t < n * n then v (t / n) (t % n) else 0)
      split
      · rfl
      · grind
    · funext t
      show (if t < n * n then c * v (t / n) (t % n) else 0) = c * (if t < n * n then v (t / n) (t % n) else 0)
      split
      · rfl
      · grind
    · refine (hin _).mpr fun i j hi hj => ?_
      have e1 : mm n (E a) (fun k l => (fun t => if t < n * n then X (t / n) (t % n) else 0) (k * n + l)) i j = mm n (E a) X i j := su_congr fun k hk => congrArg (fun z => E a i k * z) (hX X hX'.1 k j hk hj)
      have e2 : mm n (fun k l => (fun t => if t < n * n then X (t / n) (t % n) else 0) (k * n + l)) (E b) i j = mm n X (E b) i j := su_congr fun k hk => congrArg (fun z => z * E b k j) (hX X hX'.1 i k hi hk)
      rw [e1, e2, hX'.2]
    · refine sup_ext hX'.1 (fun _ _ _ => rfl) fun i j hi hj => ?_
      rw [← hX X hX'.1 i j hi hj]
      exact congrFun e (i * n + j)
theorem carried_sn {n : Nat} {a b : Al09.Table} (ha : Sq n a) (hb : Sq n b) : Al09.carried a b = sn n fun i => sn n fun j => hdg a b i j := by
  have h := nul_rank (n := n * n) (rows := Al09.carryRows a b) (fun r hr => by
    obtain ⟨i, j, hi, hj, rfl⟩ := (mem_crow ha).mp hr
    exact flat_len n _ n)
  have := iso_eq ((h.2.symm.trans (sol_car ha hb)).trans (car_iso ha hb))
  unfold Al09.carried
  rw [ha.rows]
  exact this
theorem sn_sum (f : Nat → Nat) : ∀ n, sn n f = ((List.range n).map f).sum
  | 0 => rfl
  | n + 1 => by rw [sn, sn_sum f n, List.range_succ, List.map_append, List.sum_append]; simp
theorem sum_filter {A : Type} (c : A → Bool) (G : A → Nat) : ∀ l : List A, (∀ x ∈ l, c x = false → G x = 0) → ((l.filter c).map G).sum = (l.map G).sum
  | [], _ => rfl
  | x :: l, h => by
    have ih := sum_filter c G l fun y hy => h y (List.mem_cons_of_mem _ hy)
    rw [List.map_cons, List.sum_cons]
    cases hc : c x with
    | true => rw [List.filter_cons_of_pos hc, List.map_cons, List.sum_cons, ih]
    | false => rw [List.filter_cons_of_neg (by rw [hc]; decide), ih, h x List.mem_cons_self hc]; omega
theorem com_short {f g : P} (h : f.len ≤ 1) (h0 : f ≠ 0) : (com f g).len - 1 = 0 := by
  have := (com_spec f g).left.len h0
  omega
theorem com_short' {f g : P} (h : g.len ≤ 1) (h0 : g ≠ 0) : (com f g).len - 1 = 0 := by
  have := (com_spec f g).right.len h0
  omega
theorem fP_ne {n : Nat} {a : Al09.Table} (h : Sq n a) {i : Nat} (hi : i < n) : fP a i ≠ 0 := fun z => by
  have := (fP_all h hi).2.1
  rw [z] at this
  have h2 : (0 : P).ld = 0 := by show AlOne.lead (0 : P).1 = 0; rw [P.zero_val]; rfl
  rw [h2] at this
  exact absurd this (by decide)
/-- a sum over the forms -/
theorem sum_forms {n : Nat} {a : Al09.Table} (h : Sq n a) (G : P → Nat) (hG : ∀ p : P, p ≠ 0 → p.len ≤ 1 → G p = 0) : ((formsP a).map G).sum = sn n fun i => G (fP a i) := by
  unfold formsP
  rw [h.rows, sum_filter, List.map_map, sn_sum]
  · rfl
  · intro x hx hc
    rw [List.mem_map] at hx
    obtain ⟨i, hi, rfl⟩ := hx
    have hc2 := of_decide_eq_false hc
    exact hG _ (fP_ne h (List.mem_range.mp hi)) (by show (fP a i).1.length ≤ 1; omega)
/-- **the specification's carried, by the forms** -/
theorem carried_forms {n : Nat} {a b : Al09.Table} (ha : Sq n a) (hb : Sq n b) : Al09.carried a b = ((formsP a).map fun f => ((formsP b).map fun g => (com f g).len - 1).sum).sum := by
  rw [carried_sn ha hb, sum_forms ha]
  · refine sn_congr fun i hi => ?_
    rw [sum_forms hb]
    · rfl
    · exact fun p hp hl => com_short' hl hp
  · intro p hp hl
    have : ((formsP b).map fun g => (com p g).len - 1) = (formsP b).map fun _ => 0 := List.map_congr_left fun g _ => com_short hl hp
    rw [this]
    generalize formsP b = l
    induction l with
    | nil => rfl
    | cons x l ih => rw [List.map_cons, List.sum_cons, ih]
end Ma
/-! How large the numbers are that Euclid's way comes by. -/
namespace Ma
def rsum : List (RwF × Nat) → Nat
  | [] => 0
  | z :: zs => z.2 + rsum zs
def RB (z : RwF × Nat) : Prop := ∀ x, Qb 1 (2 ^ z.2) (z.1 x)
theorem elim_from {R : List (RwF × Nat)} {ks : List Nat} {r : RwF} {d L T : Nat} (hu : ∀ h, InS (R.map Prod.fst) h → (∀ k ∈ ks, h k = 0) → ∃ c : Rat, ∀ x, h x = c * r x) (hr : InS (R.map Prod.fst) r) (hz : ∀ k ∈ ks, r k = 0) (hd : r d ≠ 0) :
    ∀ (Rm zs : List (RwF × Nat)) (js : List Nat), (∀ z ∈ Rm, z ∈ R) → (∀ z ∈ zs, z ∈ R) → (∀ k ∈ js, k ∈ ks) → Ech (zs.map Prod.fst) js → zs.length = js.length → (∀ z ∈ R, z ∈ Rm ∨ InS (zs.map Prod.fst) z.1) → rsum zs + rsum Rm ≤ T → zs.length + Rm.length ≤ L →
    ∃ (ys : List (RwF × Nat)) (js : List Nat) (c : Rat), c ≠ 0 ∧ (∀ z ∈ ys, z ∈ R) ∧ js.length + 1 = ys.length ∧ rsum ys ≤ T ∧ ys.length ≤ L ∧ ∀ x, dt (ys.map Prod.fst) (x :: js) = c * r x
  | [], zs, js, _, _, h3, h4, _, h6, _, _ => by
    exfalso
    have h1 : InS (zs.map Prod.fst) r := InS.trans hr fun z hz' => by
      rw [List.mem_map] at hz'
      obtain ⟨y, hy, rfl⟩ := hz'
      rcases h6 y hy with e | e
      · cases e
      · exact e
    exact hd (h4.ind r h1 (fun k hk => hz k (h3 k hk)) d)
  | y :: Rm, zs, js, h1, h2, h3, h4, h5, h6, h7, h8 => by
    have hzsR : ∀ u, InS (zs.map Prod.fst) u → InS (R.map Prod.fst) u := fun u hin => InS.trans hin fun z hz' => by
      rw [List.mem_map] at hz'
      obtain ⟨w, hw, rfl⟩ := hz'
      exact InS.mem (List.mem_map.mpr ⟨w, h2 w hw, rfl⟩)
    have hyR := h1 y List.mem_cons_self
    have hyI : InS (R.map Prod.fst) y.1 := InS.mem (List.mem_map.mpr ⟨y, hyR, rfl⟩)
    have hf := dt_first y.1 (zs.map Prod.fst) js
    have hin : InS (R.map Prod.fst) (fun x => dt (y.1 :: zs.map Prod.fst) (x :: js)) := (InS.lin 1 (dt (zs.map Prod.fst) js) (hzsR _ hf) hyI).congr fun x => by grind
    by_cases hall : ∀ k ∈ ks, dt (y.1 :: zs.map Prod.fst) (k :: js) = 0
    · obtain ⟨c, hc⟩ := hu _ hin hall
      by_cases h0 : c = 0
      · refine elim_from hu hr hz hd Rm zs js (fun z hz' => h1 z (List.mem_cons_of_mem _ hz')) h2 h3 h4 h5 (fun z hz' => ?_) (by rw [rsum] at h7; omega) (by rw [List.length_cons] at h8; omega)
        rcases h6 z hz' with e | e
        · rcases List.mem_cons.mp e with e2 | e2
          · right
            rw [e2]
            have hk := h4.ne
            refine (InS.lin (- (1 / dt (zs.map Prod.fst) js)) 0 hf hf).congr fun x => ?_
            show - (1 / dt (zs.map Prod.fst) js) * (dt (y.1 :: zs.map Prod.fst) (x :: js) - dt (zs.map Prod.fst) js * y.1 x) + 0 * _ = y.1 x
            have e3 : dt (y.1 :: zs.map Prod.fst) (x :: js) = 0 := by
              have := hc x
              rw [this, h0]; grind
            rw [e3]
            have e4 : 1 / dt (zs.map Prod.fst) js * dt (zs.map Prod.fst) js = 1 := Rat.div_mul_cancel hk
            generalize dt (zs.map Prod.fst) js = k at *
            generalize 1 / k = i at *
            have : -i * (0 - k * y.1 x) + 0 * (dt (y.1 :: zs.map Prod.fst) (x :: js) - k * y.1 x) = (i * k) * y.1 x := by rw [e3]; grind
            rw [e3] at this
            rw [this, e4]; grind
          · exact .inl e2
        · exact .inr e
      · refine ⟨y :: zs, js, c, h0, fun z hz' => ?_, by rw [List.length_cons, h5], by rw [rsum] at h7 ⊢; omega, by rw [List.length_cons] at h8 ⊢; omega, fun x => hc x⟩
        rcases List.mem_cons.mp hz' with e | e
        · rw [e]; exact hyR
        · exact h2 z e
    · have hex : ∃ k ∈ ks, dt (y.1 :: zs.map Prod.fst) (k :: js) ≠ 0 := Classical.byContradiction fun hn => hall fun k hk => Classical.byContradiction fun h => hn ⟨k, hk, h⟩
      obtain ⟨k, hk, hkn⟩ := hex
      have hE := h4.next (z := y.1) (l := fun x => dt (y.1 :: zs.map Prod.fst) (x :: js)) (a := dt (zs.map Prod.fst) js) h4.ne hf (fun k hk => dt_like js k hk) hkn
      refine elim_from hu hr hz hd Rm (y :: zs) (k :: js) (fun z hz' => h1 z (List.mem_cons_of_mem _ hz')) (fun z hz' => ?_) (fun j hj => ?_) hE (by rw [List.length_cons, List.length_cons, h5]) (fun z hz' => ?_) (by rw [rsum] at h7 ⊢; omega) (by rw [List.length_cons] at h8 ⊢; omega)
      · rcases List.mem_cons.mp hz' with e | e
        · rw [e]; exact hyR
        · exact h2 z e
      · rcases List.mem_cons.mp hj with e | e
        · rw [e]; exact hk
        · exact h3 j e
      · rcases h6 z hz' with e | e
        · rcases List.mem_cons.mp e with e2 | e2
          · right; rw [e2]; exact InS.self _ _
          · exact .inl e2
        · exact .inr (InS.more e)
theorem qB_le {m : Nat} (hm : m ≤ 8) : ∀ ys : List (RwF × Nat), qB m (ys.map fun z => (1, 2 ^ z.2)) ≤ 2 ^ (3 * ys.length + rsum ys)
  | [] => Nat.one_le_two_pow
  | y :: ys => by
    show m * (2 ^ y.2 * qB m (ys.map fun z => (1, 2 ^ z.2))) ≤ 2 ^ (3 * (ys.length + 1) + (y.2 + rsum ys))
    have h1 := Nat.mul_le_mul_left (2 ^ y.2) (qB_le hm ys)
    have h2 := Nat.mul_le_mul hm h1
    refine Nat.le_trans h2 ?_
    rw [← Nat.pow_add]
    have e : (8 : Nat) = 2 ^ 3 := rfl
    rw [e, ← Nat.pow_add]
    exact Nat.pow_le_pow_right (by omega) (by omega)
theorem qM_one : ∀ ys : List (RwF × Nat), qM (ys.map fun z => (1, 2 ^ z.2)) = 1
  | [] => rfl
  | y :: ys => by
    show 1 * qM (ys.map fun z => (1, 2 ^ z.2)) = 1
    rw [qM_one ys]
theorem rowsQ_of : ∀ {ys : List (RwF × Nat)}, (∀ z ∈ ys, RB z) → RowsQ (ys.map Prod.fst) (ys.map fun z => (1, 2 ^ z.2))
  | [], _ => trivial
  | y :: ys, h => ⟨h y List.mem_cons_self, rowsQ_of fun z hz => h z (List.mem_cons_of_mem _ hz)⟩
/-- **the one row that's 0 at the places: its sizes** -/
theorem elim_size {R : List (RwF × Nat)} {ks : List Nat} {r : RwF} {d : Nat} (hR : ∀ z ∈ R, RB z) (hl : R.length ≤ 8) (hu : ∀ h, InS (R.map Prod.fst) h → (∀ k ∈ ks, h k = 0) → ∃ c : Rat, ∀ x, h x = c * r x) (hr : InS (R.map Prod.fst) r) (hz : ∀ k ∈ ks, r k = 0) (hd : r d = 1) :
    ∃ D : Nat, 0 < D ∧ D ≤ 2 ^ (rsum R + 24) ∧ ∀ i, ∃ y : Int, (D : Rat) * r i = (y : Rat) ∧ B y (rsum R + 24) := by
  obtain ⟨ys, js, c, hc, h1, h2, h3, h4, h5⟩ := elim_from (L := 8) (T := rsum R) hu hr hz (by rw [hd]; decide) R [] [] (fun z h => h) (fun z h => by cases h) (fun z h => by cases h) Ech.nil rfl (fun z h => .inl h) (by show 0 + _ ≤ _; omega) (by show 0 + _ ≤ 8; omega)
  have hq : ∀ x, ∃ y : Int, c * r x = (y : Rat) ∧ B y (rsum R + 24) := fun x => by
    have := dt_qb (m := ys.length) (rowsQ_of fun z hz' => hR z (h1 z hz')) (x :: js) (by rw [List.length_cons]; omega)
    rw [qM_one, h5 x] at this
    obtain ⟨y, e, hy⟩ := this
    refine ⟨y, by rw [← e]; have : (((1 : Nat) : Rat)) = 1 := rfl; rw [this]; grind, ?_⟩
    refine Nat.le_trans hy (Nat.le_trans (qB_le h4 ys) (Nat.pow_le_pow_right (by omega) (by omega)))
  obtain ⟨yd, e1, b1⟩ := hq d
  rw [hd, show c * 1 = c by grind] at e1
  have hyd : yd ≠ 0 := fun e => hc (by rw [e1, e]; rfl)
  refine ⟨yd.natAbs, Int.natAbs_pos.mpr hyd, b1, fun i => ?_⟩
  obtain ⟨y, e2, b2⟩ := hq i
  refine ⟨yd.sign * y, ?_, ?_⟩
  · rw [Rat.intCast_mul, ← e2, e1]
    have : ((yd.natAbs : Nat) : Rat) = ((yd.sign : Int) : Rat) * ((yd : Int) : Rat) := by
      rw [← Rat.intCast_mul, ← sign_abs yd]; rfl
    rw [this]; grind
  · unfold B at *
    rw [Int.natAbs_mul, Int.natAbs_sign_of_ne_zero hyd, Nat.one_mul]
    exact b2
/-! polynomials times powers of x, as rows -/
theorem c_Xs (s i : Nat) : (Ma.X s).c i = if i = s then 1 else 0 := by
  have h := X_mul 1 s i
  rw [show Ma.X s * (1 : P) = Ma.X s by grind] at h
  rw [h]
  have e1 : ∀ t, (1 : P).c t = delta t := fun t => by
    rw [show (1 : P) = P.cst 1 from cst_one.symm, P.c_cst]; grind
  rw [e1]
  by_cases h1 : i = s
  · subst h1
    rw [if_pos (Nat.le_refl _), if_pos rfl, Nat.sub_self]; rfl
  · rw [if_neg h1]
    by_cases h2 : s ≤ i
    · rw [if_pos h2]
      obtain ⟨t, ht⟩ : ∃ t, i - s = t + 1 := ⟨i - s - 1, by omega⟩
      rw [ht]; rfl
    · rw [if_neg h2]
def rowX (F : P) (i : Nat) : RwF := (Ma.X i * F).c
theorem cmul_c (c : Rat) (p : P) (i : Nat) : (P.cst c * p).c i = c * p.c i := by rw [show P.cst c * p = p * P.cst c by grind, P.mul_cst]
theorem len_cX (c : Rat) (s : Nat) : (P.cst c * Ma.X s).len ≤ s + 1 := len_of_c fun i hi => by
  rw [cmul_c, c_Xs, if_neg (by omega)]; grind
theorem in_span (F : P) : ∀ (m s : Nat) (h : RwF), InS ((List.range' s m).map (rowX F)) h → ∃ u : P, u.len ≤ s + m ∧ ∀ x, h x = (u * F).c x
  | 0, s, h, hh => ⟨0, by rw [P.len_zero]; omega, fun x => by rw [hh x, show (0 : P) * F = 0 by grind, c_zero]⟩
  | m + 1, s, h, hh => by
    rw [List.range'_succ] at hh
    obtain ⟨c, hh⟩ := hh
    obtain ⟨u, hu, e⟩ := in_span F m (s + 1) _ hh
    refine ⟨u + P.cst c * Ma.X s, ?_, fun x => ?_⟩
    · have := P.len_add u (P.cst c * Ma.X s)
      have := len_cX c s
      omega
    · have h1 : h x - c * rowX F s x = (u * F).c x := e x
      rw [show (u + P.cst c * Ma.X s) * F = u * F + P.cst c * (Ma.X s * F) by grind, P.c_add, cmul_c, ← h1]
      unfold rowX; grind
theorem span_in (F : P) : ∀ (m s : Nat) (u : P), (∀ i, i < s → u.c i = 0) → u.len ≤ s + m → InS ((List.range' s m).map (rowX F)) (u * F).c
  | 0, s, u, h1, h2 => fun x => by
    have : u = 0 := P.ext' fun i => by
      rw [c_zero]
      by_cases h : i < s
      · exact h1 i h
      · exact c_of_len h2 (by omega)
    rw [this, show (0 : P) * F = 0 by grind, c_zero]
  | m + 1, s, u, h1, h2 => by
    rw [List.range'_succ]
    have hc : ∀ i, (u - P.cst (u.c s) * Ma.X s).c i = if i = s then 0 else u.c i := fun i => by
      rw [P.c_sub, cmul_c, c_Xs]
      by_cases e : i = s
      · rw [if_pos e, if_pos e, e]; grind
      · rw [if_neg e, if_neg e]; grind
    refine ⟨u.c s, (span_in F m (s + 1) (u - P.cst (u.c s) * Ma.X s) (fun i hi => ?_) (len_of_c fun i hi => ?_)).congr fun x => ?_⟩
    · rw [hc]
      split
      · rfl
      · exact h1 i (by omega)
    · rw [hc, if_neg (by omega)]
      exact c_of_len h2 (by omega)
    · rw [show (u - P.cst (u.c s) * Ma.X s) * F = u * F - P.cst (u.c s) * (Ma.X s * F) by grind, P.c_sub, cmul_c]; rfl
theorem InS.left {h : RwF} (l2 : List RwF) : ∀ {l1 : List RwF} {h : RwF}, InS l1 h → InS (l1 ++ l2) h
  | [], h, hh => (InS.zero l2).congr fun x => (hh x).symm
  | _ :: _, h, ⟨c, hh⟩ => ⟨c, InS.left (h := h) l2 hh⟩
theorem InS.right : ∀ (l1 : List RwF) {l2 : List RwF} {h : RwF}, InS l2 h → InS (l1 ++ l2) h
  | [], _, _, hh => hh
  | _ :: l1, _, _, hh => InS.more (InS.right l1 hh)
theorem InS.parts : ∀ (l1 : List RwF) {l2 : List RwF} {h : RwF}, InS (l1 ++ l2) h → ∃ h1 h2, InS l1 h1 ∧ InS l2 h2 ∧ ∀ x, h x = h1 x + h2 x
  | [], l2, h, hh => ⟨fun _ => 0, h, fun _ => rfl, hh, fun x => by grind⟩
  | z :: l1, l2, h, ⟨c, hh⟩ => by
    obtain ⟨h1, h2, k1, k2, k3⟩ := InS.parts l1 hh
    refine ⟨fun x => h1 x + c * z x, h2, ⟨c, k1.congr fun x => by grind⟩, k2, fun x => ?_⟩
    have := k3 x
    grind
/-- two neighbours of Euclid's way -/
structure Ch (f g L S : P) : Prop where
  ex : ∃ u1 w1 u2 w2 : P, L = u1 * f + w1 * g ∧ S = u2 * f + w2 * g ∧ (∃ k : Rat, k ≠ 0 ∧ u1 * w2 - u2 * w1 = P.cst k) ∧ w2.len + L.len = f.len + 1 ∧ u2.len + L.len = g.len + 1 ∧ w1.len ≤ w2.len ∧ u1.len ≤ u2.len
/-- only multiples of it -/
theorem ch_unique {f g L S : P} (h : Ch f g L S) (hf : f ≠ 0) (hS : S ≠ 0) (hlt : S.len < L.len) {u w : P} (hw : w.len + L.len ≤ f.len + 1) (hh : (u * f + w * g).len < L.len) : ∃ c : Rat, u * f + w * g = P.cst c * S := by
  obtain ⟨u1, w1, u2, w2, eL, eS, ⟨k, hk, ek⟩, l1, l2, l3, l4⟩ := h.ex
  have hfp := P.len_pos hf
  have hw2 : w2 ≠ 0 := fun e => by
    rw [e, P.len_zero] at l1
    rw [e, P.len_zero] at l3
    have : w1 = 0 := zero_of_len l3
    rw [e, this] at ek
    have e0 : (P.cst k) = 0 := by rw [← ek]; grind
    exact hk (cst_inj (e0.trans cst_zero.symm))
  have hw2p := P.len_pos hw2
  have key : f * (u * w2 - w * u2) = (u * f + w * g) * w2 - w * S := by rw [eS]; grind
  have hz : u * w2 - w * u2 = 0 := by
    refine Classical.byContradiction fun hne => ?_
    have e1 := P.len_mul hf hne
    have e2 := P.len_pos hne
    rw [key] at e1
    have e3 := P.len_sub ((u * f + w * g) * w2) (w * S)
    have e4 : ((u * f + w * g) * w2).len + 1 ≤ f.len ∨ ((u * f + w * g) * w2).len = 0 := by
      by_cases e : u * f + w * g = 0
      · right; rw [e, show (0 : P) * w2 = 0 by grind, P.len_zero]
      · left
        have := P.len_mul e hw2
        omega
    have e5 : (w * S).len + 1 ≤ f.len ∨ (w * S).len = 0 := by
      by_cases e : w = 0
      · right; rw [e, show (0 : P) * S = 0 by grind, P.len_zero]
      · left
        have := P.len_mul e hS
        have := P.len_pos hS
        have := P.len_pos e
        omega
    omega
  have hk2 : P.cst (1 / k) * P.cst k = 1 := by rw [scst_mul, Rat.div_mul_cancel hk, cst_one]
  have eu : u = P.cst (1 / k) * (u1 * w - u * w1) * u2 := by
    have h1 : P.cst k * u = u2 * (u1 * w - u * w1) := by
      rw [← ek]
      have : u * w2 = w * u2 := by grind
      have e : (u1 * w2 - u2 * w1) * u = u1 * (u * w2) - u2 * w1 * u := by grind
      rw [e, this]; grind
    have : u = P.cst (1 / k) * (P.cst k * u) := by
      rw [show P.cst (1 / k) * (P.cst k * u) = (P.cst (1 / k) * P.cst k) * u by grind, hk2]; grind
    rw [this, h1]; grind
  have ew : w = P.cst (1 / k) * (u1 * w - u * w1) * w2 := by
    have h1 : P.cst k * w = w2 * (u1 * w - u * w1) := by
      rw [← ek]
      have : u * w2 = w * u2 := by grind
      have e : (u1 * w2 - u2 * w1) * w = u1 * w2 * w - (w * u2) * w1 := by grind
      rw [e, ← this]; grind
    have : w = P.cst (1 / k) * (P.cst k * w) := by
      rw [show P.cst (1 / k) * (P.cst k * w) = (P.cst (1 / k) * P.cst k) * w by grind, hk2]; grind
    rw [this, h1]; grind
  generalize P.cst (1 / k) * (u1 * w - u * w1) = b at eu ew
  have hb : b.len ≤ 1 := by
    by_cases e : b = 0
    · rw [e, P.len_zero]; omega
    · have := P.len_mul e hw2
      rw [← ew] at this
      have := P.len_pos e
      omega
  refine ⟨b.c 0, ?_⟩
  rw [← cst_of_len hb, eS, eu, ew]
  have : b * u2 * f + b * w2 * g = b * (u2 * f + w2 * g) := by grind
  rw [← eu, ← ew]
  rw [show u * f + w * g = b * u2 * f + b * w2 * g by rw [← eu, ← ew]]
  exact this
end Ma
/-! Euclid's way, step by step, with sizes. -/
namespace Ma
theorem len_mul_up (p q : P) : (p * q).len + 1 ≤ p.len + q.len ∨ (p * q).len = 0 := by
  by_cases hp : p = 0
  · right; rw [hp, show (0 : P) * q = 0 by grind, P.len_zero]
  · by_cases hq : q = 0
    · right; rw [hq, show p * (0 : P) = 0 by grind, P.len_zero]
    · left
      have := P.len_mul hp hq
      have := P.len_pos hp
      omega
theorem rowX_qb {F : P} {A : Nat} (hF : ∀ i, ∃ y : Int, F.c i = (y : Rat) ∧ B y A) (s : Nat) : RB (rowX F s, A) := fun x => by
  show Qb 1 (2 ^ A) ((Ma.X s * F).c x)
  rw [X_mul]
  split
  · obtain ⟨y, e, hy⟩ := hF (x - s)
    exact ⟨y, by rw [e]; have : (((1 : Nat) : Rat)) = 1 := rfl; rw [this]; grind, hy⟩
  · exact Qb.zero _ _
theorem rsum_app : ∀ a b : List (RwF × Nat), rsum (a ++ b) = rsum a + rsum b
  | [], b => by show rsum b = 0 + rsum b; omega
  | z :: a, b => by show z.2 + rsum (a ++ b) = z.2 + rsum a + rsum b; rw [rsum_app a b]; omega
theorem rsum_rows (F : P) (A : Nat) : ∀ m s, rsum ((List.range' s m).map fun i => (rowX F i, A)) = m * A
  | 0, s => by show 0 = 0 * A; omega
  | m + 1, s => by
    rw [List.range'_succ]
    show A + rsum ((List.range' (s + 1) m).map fun i => (rowX F i, A)) = (m + 1) * A
    rw [rsum_rows F A m (s + 1), Nat.succ_mul]; omega
/-- **how large the next one is** -/
theorem ch_size {f g L S : P} (h : Ch f g L S) (hf : f ≠ 0) (hS : S.ld = 1) (hS0 : S ≠ 0) (hlt : S.len < L.len) (hLf : L.len ≤ f.len) (hLg : L.len ≤ g.len) (h2 : 2 ≤ L.len) (hf5 : f.len ≤ 5) (hg5 : g.len ≤ 5) {D1 D2 A C : Nat} (hD1 : 0 < D1) (hD2 : 0 < D2) (h1 : HtD f D1 A) (h3 : HtD g D2 C) :
    HtP S.1 ((g.len + 1 - L.len) * A + (f.len + 1 - L.len) * C + 24) := by
  have hF := htD_iff.mp h1
  have hG := htD_iff.mp h3
  have n1 : (D1 : Rat) ≠ 0 := by
    intro e
    have : ((D1 : Nat) : Rat) = ((0 : Nat) : Rat) := e
    have := Rat.natCast_inj.mp this
    omega
  have n2 : (D2 : Rat) ≠ 0 := by
    intro e
    have : ((D2 : Nat) : Rat) = ((0 : Nat) : Rat) := e
    have := Rat.natCast_inj.mp this
    omega
  have i1 : P.cst (1 / (D1 : Rat)) * P.cst (D1 : Rat) = 1 := by rw [scst_mul, Rat.div_mul_cancel n1, cst_one]
  have i2 : P.cst (1 / (D2 : Rat)) * P.cst (D2 : Rat) = 1 := by rw [scst_mul, Rat.div_mul_cancel n2, cst_one]
  have eR : ((((List.range' 0 (g.len + 1 - L.len)).map fun i => (rowX (P.cst (D1 : Rat) * f) i, A)) ++ ((List.range' 0 (f.len + 1 - L.len)).map fun i => (rowX (P.cst (D2 : Rat) * g) i, C))).map Prod.fst) = (List.range' 0 (g.len + 1 - L.len)).map (rowX (P.cst (D1 : Rat) * f)) ++ (List.range' 0 (f.len + 1 - L.len)).map (rowX (P.cst (D2 : Rat) * g)) := by
    rw [List.map_append, List.map_map, List.map_map]; rfl
  obtain ⟨u1, w1, u2, w2, eL, eS, ⟨k, hk, ek⟩, l1, l2, l3, l4⟩ := h.ex
  have hSl : S.c (S.len - 1) = 1 := by
    rw [← hS]
    exact (lead_eq S.1).symm
  have key := elim_size (R := ((List.range' 0 (g.len + 1 - L.len)).map fun i => (rowX (P.cst (D1 : Rat) * f) i, A)) ++ ((List.range' 0 (f.len + 1 - L.len)).map fun i => (rowX (P.cst (D2 : Rat) * g) i, C)))
    (ks := List.range' (L.len - 1) 20) (r := S.c) (d := S.len - 1) (fun z hz => ?_) ?_ (fun hh hin hzero => ?_) ?_ (fun j hj => ?_) hSl
  · rw [rsum_app, rsum_rows, rsum_rows] at key
    obtain ⟨D, k1, k2, k3⟩ := key
    exact ⟨D, k1, k2, k3⟩
  · rcases List.mem_append.mp hz with e | e
    · rw [List.mem_map] at e
      obtain ⟨i, _, rfl⟩ := e
      exact rowX_qb (fun i => by obtain ⟨y, e, hy⟩ := hF i; exact ⟨y, by rw [cmul_c]; exact e, hy⟩) i
    · rw [List.mem_map] at e
      obtain ⟨i, _, rfl⟩ := e
      exact rowX_qb (fun i => by obtain ⟨y, e, hy⟩ := hG i; exact ⟨y, by rw [cmul_c]; exact e, hy⟩) i
  · rw [List.length_append, List.length_map, List.length_map, List.length_range', List.length_range']; omega
  · rw [eR] at hin
    obtain ⟨ha, hb, p1, p2, p3⟩ := InS.parts _ hin
    obtain ⟨u, hu, eu⟩ := in_span _ _ _ _ p1
    obtain ⟨w, hw, ew⟩ := in_span _ _ _ _ p2
    have hul : (P.cst (D1 : Rat) * u).len ≤ g.len + 1 - L.len := by have := len_cmul (D1 : Rat) u; omega
    have hwl : (P.cst (D2 : Rat) * w).len ≤ f.len + 1 - L.len := by have := len_cmul (D2 : Rat) w; omega
    have e : ∀ x, hh x = ((P.cst (D1 : Rat) * u) * f + (P.cst (D2 : Rat) * w) * g).c x := fun x => by
      rw [p3 x, eu x, ew x, P.c_add]
      congr 2
      · grind
      · grind
    generalize P.cst (D1 : Rat) * u = u' at *
    generalize P.cst (D2 : Rat) * w = w' at *
    have hlen : (u' * f + w' * g).len < L.len := by
      have : (u' * f + w' * g).len ≤ L.len - 1 := len_of_c fun i hi => by
        by_cases hi2 : i < L.len - 1 + 20
        · rw [← e i]
          exact hzero i (List.mem_range'_1.mpr ⟨hi, hi2⟩)
        · refine c_of_len (Nat.le_refl _) ?_
          have a1 := P.len_add (u' * f) (w' * g)
          have a2 := len_mul_up u' f
          have a3 := len_mul_up w' g
          omega
      omega
    obtain ⟨c, hc⟩ := ch_unique h hf hS0 hlt (u := u') (w := w') (by omega) hlen
    exact ⟨c, fun x => by rw [e x, hc, cmul_c]⟩
  · rw [eR]
    have e1 : S = (P.cst (1 / (D1 : Rat)) * u2) * (P.cst (D1 : Rat) * f) + (P.cst (1 / (D2 : Rat)) * w2) * (P.cst (D2 : Rat) * g) := by
      have a1 : (P.cst (1 / (D1 : Rat)) * u2) * (P.cst (D1 : Rat) * f) = (P.cst (1 / (D1 : Rat)) * P.cst (D1 : Rat)) * (u2 * f) := by grind
      have a2 : (P.cst (1 / (D2 : Rat)) * w2) * (P.cst (D2 : Rat) * g) = (P.cst (1 / (D2 : Rat)) * P.cst (D2 : Rat)) * (w2 * g) := by grind
      rw [a1, a2, i1, i2, eS]; grind
    have a1 := span_in (P.cst (D1 : Rat) * f) (g.len + 1 - L.len) 0 (P.cst (1 / (D1 : Rat)) * u2) (fun i hi => by omega) (by have := len_cmul (1 / (D1 : Rat)) u2; omega)
    have a2 := span_in (P.cst (D2 : Rat) * g) (f.len + 1 - L.len) 0 (P.cst (1 / (D2 : Rat)) * w2) (fun i hi => by omega) (by have := len_cmul (1 / (D2 : Rat)) w2; omega)
    refine (InS.lin 1 1 (InS.left (h := S.c) _ a1) (InS.right _ a2)).congr fun x => ?_
    conv => rhs; rw [e1, P.c_add]
    grind
  · exact c_of_len (Nat.le_refl _) (by rw [List.mem_range'_1] at hj; omega)
/-- the first two -/
theorem ch_first {f g q R : P} (hg : g ≠ 0) (hle : g.len ≤ f.len) (e : f = q * g + R) (hR : R.len < g.len) (hR0 : R ≠ 0) : Ch f g g (mon R) := by
  have hf0 : f ≠ 0 := fun z => by
    rw [z, P.len_zero] at hle
    have := P.len_pos hg
    omega
  have hq0 : q ≠ 0 := fun z => by
    rw [z] at e
    have : f = R := by rw [e]; grind
    rw [this] at hle
    omega
  have hql : q.len + g.len = f.len + 1 := by
    have h1 := P.len_mul hq0 hg
    have h2 := P.len_pos hq0
    have h3 := P.len_pos hg
    have h4 : f.len = (q * g).len := by
      rw [e]
      exact (add_short (by omega)).1
    omega
  have hc0 : (1 / R.ld) ≠ 0 := fun z => by
    have := Rat.div_mul_cancel (a := 1) (P.ld_ne hR0)
    rw [z] at this
    have h2 : (0 : Rat) = 1 := by rw [← this]; grind
    exact absurd h2 (by decide)
  have hnc : ∀ p : P, p ≠ 0 → (P.cst (1 / R.ld) * p).len = p.len := fun p hp => by
    have h1 : P.cst (1 / R.ld) ≠ 0 := fun z => hc0 (cst_inj (z.trans cst_zero.symm))
    have := P.len_mul h1 hp
    rw [P.len_cst hc0] at this
    omega
  refine ⟨0, 1, P.cst (1 / R.ld), - (P.cst (1 / R.ld) * q), by grind, ?_, ⟨- (1 / R.ld), fun z => hc0 (by grind), ?_⟩, ?_, ?_, ?_, ?_⟩
  · rw [mon_eq]
    have : R = f - q * g := by rw [e]; grind
    rw [show P.cst (1 / R.ld) * f + -(P.cst (1 / R.ld) * q) * g = P.cst (1 / R.ld) * (f - q * g) by grind, ← this]
  · have : P.cst (- (1 / R.ld)) = - P.cst (1 / R.ld) := P.ext' fun i => by rw [P.c_neg, P.c_cst, P.c_cst]; grind
    rw [this]; grind
  · rw [len_neg, hnc q hq0]; exact hql
  · rw [P.len_cst hc0]; omega
  · rw [len_neg, hnc q hq0, P.len_one]
    exact P.len_pos hq0
  · rw [P.len_zero]; omega
/-- and on -/
theorem ch_next {f g L S q R : P} (h : Ch f g L S) (hS0 : S ≠ 0) (hlt : S.len < L.len) (e : L = q * S + R) (hR : R.len < S.len) (hR0 : R ≠ 0) : Ch f g S (mon R) := by
  obtain ⟨u1, w1, u2, w2, eL, eS, ⟨k, hk, ek⟩, l1, l2, l3, l4⟩ := h.ex
  have hSp := P.len_pos hS0
  have hq0 : q ≠ 0 := fun z => by
    rw [z] at e
    have : L = R := by rw [e]; grind
    rw [this] at hlt
    omega
  have hql : q.len + S.len = L.len + 1 := by
    have h1 := P.len_mul hq0 hS0
    have h2 := P.len_pos hq0
    have h4 : L.len = (q * S).len := by
      rw [e]
      exact (add_short (by omega)).1
    omega
  have hc0 : (1 / R.ld) ≠ 0 := fun z => by
    have := Rat.div_mul_cancel (a := 1) (P.ld_ne hR0)
    rw [z] at this
    have h2 : (0 : Rat) = 1 := by rw [← this]; grind
    exact absurd h2 (by decide)
  have hnc : ∀ p : P, (P.cst (1 / R.ld) * p).len = p.len := fun p => by
    by_cases hp : p = 0
    · rw [hp, show P.cst (1 / R.ld) * (0 : P) = 0 by grind]
    · have h1 : P.cst (1 / R.ld) ≠ 0 := fun z => hc0 (cst_inj (z.trans cst_zero.symm))
      have := P.len_mul h1 hp
      rw [P.len_cst hc0] at this
      omega
  have grow : ∀ a b : P, a.len ≤ b.len → (a - q * b).len = if b.len = 0 then 0 else q.len + b.len - 1 := fun a b hab => by
    by_cases hb : b = 0
    · rw [hb, P.len_zero] at hab
      have : a = 0 := zero_of_len hab
      rw [hb, this, P.len_zero, if_pos rfl, show (0 : P) - q * 0 = 0 by grind, P.len_zero]
    · have hbp := P.len_pos hb
      rw [if_neg (by omega)]
      have h1 := P.len_mul hq0 hb
      have e2 : a - q * b = -(q * b) + a := by grind
      rw [e2, (add_short (p := -(q * b)) (q := a) (by rw [len_neg, h1]; omega)).1, len_neg, h1]
  refine ⟨u2, w2, P.cst (1 / R.ld) * (u1 - q * u2), P.cst (1 / R.ld) * (w1 - q * w2), eS, ?_, ⟨- (1 / R.ld) * k, fun z => ?_, ?_⟩, ?_, ?_, ?_, ?_⟩
  · rw [mon_eq]
    have : R = L - q * S := by rw [e]; grind
    have h2 : P.cst (1 / R.ld) * (u1 - q * u2) * f + P.cst (1 / R.ld) * (w1 - q * w2) * g = P.cst (1 / R.ld) * ((u1 * f + w1 * g) - q * (u2 * f + w2 * g)) := by grind
    rw [h2, ← eL, ← eS, ← this]
  · rcases Rat.mul_eq_zero.mp z with h1 | h1
    · exact hc0 (by grind)
    · exact hk h1
  · have e3 : P.cst (- (1 / R.ld) * k) = - (P.cst (1 / R.ld) * P.cst k) := P.ext' fun i => by rw [P.c_neg, scst_mul, P.c_cst, P.c_cst]; grind
    rw [e3, ← ek]; grind
  · rw [hnc, grow w1 w2 l3]
    split
    · rename_i h0
      exfalso
      have hw2 : w2 = 0 := zero_of_len (by omega)
      have hw1 : w1 = 0 := zero_of_len (by omega)
      rw [hw2, hw1] at ek
      exact hk (cst_inj ((show P.cst k = 0 by rw [← ek]; grind).trans cst_zero.symm))
    · omega
  · rw [hnc, grow u1 u2 l4]
    split
    · rename_i h0
      exfalso
      have hu2 : u2 = 0 := zero_of_len (by omega)
      have hu1 : u1 = 0 := zero_of_len (by omega)
      rw [hu2, hu1] at ek
      exact hk (cst_inj ((show P.cst k = 0 by rw [← ek]; grind).trans cst_zero.symm))
    · omega
  · rw [hnc, grow w1 w2 l3]
    have := P.len_pos hq0
    split <;> omega
  · rw [hnc, grow u1 u2 l4]
    have := P.len_pos hq0
    split <;> omega
end Ma
/-! Between turning points a polynomial only rises or only falls; whole numbers next to its roots. -/
namespace Ma
open AlOne (value)
theorem mono_steps {p : List Rat} {R h a b : Rat} (hh : 0 ≤ h) (hR : ∀ z, a ≤ z → z ≤ b → Ab z R) (hd : ∀ z, a ≤ z → z ≤ b → 0 ≤ dv z p) : ∀ k : Nat, a + ((k : Nat) : Rat) * h ≤ b → value a p - ((k : Nat) : Rat) * (h * h * der R p) ≤ value (a + ((k : Nat) : Rat) * h) p
  | 0, _ => by
    have e0 : ((0 : Nat) : Rat) = 0 := rfl
    rw [e0, show a + 0 * h = a by grind]; grind
  | k + 1, hk => by
    have e : ((k + 1 : Nat) : Rat) = ((k : Nat) : Rat) + 1 := by rw [Rat.natCast_add]; rfl
    rw [e] at hk ⊢
    have hk0 : (0 : Rat) ≤ ((k : Nat) : Rat) := by exact_mod_cast Nat.zero_le k
    have hkh : 0 ≤ ((k : Nat) : Rat) * h := Rat.mul_nonneg hk0 hh
    have ih := mono_steps hh hR hd k (by grind)
    have hx1 : a ≤ a + ((k : Nat) : Rat) * h := by grind
    have hx2 : a + ((k : Nat) : Rat) * h ≤ b := by grind
    have hy1 : a ≤ a + (((k : Nat) : Rat) + 1) * h := by grind
    have h1 := val_gq (a + ((k : Nat) : Rat) * h) (a + (((k : Nat) : Rat) + 1) * h) p
    have hdiff : a + (((k : Nat) : Rat) + 1) * h - (a + ((k : Nat) : Rat) * h) = h := by grind
    have h2 := gq_dv (hR _ hx1 hx2) (hR _ hy1 hk) (d := h) (by rw [hdiff]; constructor <;> grind) p
    have h3 := hd _ hx1 hx2
    rw [hdiff] at h1
    have h4 : - (h * der R p) ≤ gq (a + ((k : Nat) : Rat) * h) (a + (((k : Nat) : Rat) + 1) * h) p := by
      have := h2.1
      grind
    have h5 := Rat.mul_le_mul_of_nonneg_left h4 hh
    grind
theorem mono_of {p : List Rat} {a b : Rat} (hab : a ≤ b) (hd : ∀ z, a ≤ z → z ≤ b → 0 ≤ dv z p) : value a p ≤ value b p := by
  refine Classical.byContradiction fun hlt => ?_
  have heps : 0 < value a p - value b p := by grind
  have hR : ∀ z, a ≤ z → z ≤ b → Ab z (ab a + ab b) := fun z h1 h2 => by
    have := ab_ab a
    have := ab_ab b
    unfold Ab ab at *
    constructor <;> grind
  have hR0 : 0 ≤ ab a + ab b := (hR a (by grind) hab).nonneg
  have hM := der_nonneg hR0 p
  have hL : 0 < b - a := by
    refine Classical.byContradiction fun h => ?_
    have e : a = b := by grind
    rw [e] at heps
    grind
  obtain ⟨N, hN⟩ := arch (a := (b - a) * (b - a) * der (ab a + ab b) p + (value a p - value b p)) heps
  have hLM : 0 ≤ (b - a) * (b - a) * der (ab a + ab b) p := Rat.mul_nonneg (Rat.mul_nonneg (by grind) (by grind)) hM
  have hN0 : N ≠ 0 := fun e => by
    rw [e] at hN
    have e0 : ((0 : Nat) : Rat) = 0 := rfl
    rw [e0] at hN
    grind
  have hNp : (0 : Rat) < ((N : Nat) : Rat) := by
    have : 0 < N := Nat.pos_of_ne_zero hN0
    exact_mod_cast this
  have hNn : ((N : Nat) : Rat) ≠ 0 := by grind
  have eL : (b - a) / ((N : Nat) : Rat) * ((N : Nat) : Rat) = b - a := Rat.div_mul_cancel hNn
  have hh : 0 ≤ (b - a) / ((N : Nat) : Rat) := by
    have := div_posQ hL hNp
    grind
  generalize (b - a) / ((N : Nat) : Rat) = h at *
  have eb : a + ((N : Nat) : Rat) * h = b := by grind
  have key := mono_steps (p := p) hh hR hd N (by rw [eb]; grind)
  rw [eb] at key
  generalize der (ab a + ab b) p = M at *
  generalize ((N : Nat) : Rat) = n at *
  have e2 : n * (h * h * M) * n = (b - a) * (b - a) * M := by
    have : n * (h * h * M) * n = (h * n) * (h * n) * M := by grind
    rw [this, eL]
  have e3 : (value a p - value b p) ≤ n * (h * h * M) := by grind
  have e4 := Rat.mul_le_mul_of_nonneg_right e3 (show 0 ≤ n by grind)
  grind
def negL (p : List Rat) : List Rat := p.map fun c => -c
theorem val_negL (x : Rat) : ∀ p : List Rat, value x (negL p) = - value x p
  | [] => by show (0 : Rat) = -0; grind
  | c :: p => by
    show -c + x * value x (negL p) = -(c + x * value x p)
    rw [val_negL x p]; grind
theorem dv_negL (x : Rat) : ∀ p : List Rat, dv x (negL p) = - dv x p
  | [] => by show (0 : Rat) = -0; grind
  | c :: p => by
    show value x (negL p) + x * dv x (negL p) = -(value x p + x * dv x p)
    rw [val_negL, dv_negL x p]; grind
/-- on one side of 0 -/
def OneS (p : List Rat) (x y : Rat) : Prop := (∀ z, x ≤ z → z ≤ y → 0 ≤ value z p) ∨ (∀ z, x ≤ z → z ≤ y → value z p ≤ 0)
/-- rising only, or falling only -/
def OneW (p : List Rat) (x y : Rat) : Prop := (∀ s t, x ≤ s → s ≤ t → t ≤ y → value s p ≤ value t p) ∨ (∀ s t, x ≤ s → s ≤ t → t ≤ y → value t p ≤ value s p)
theorem oneW_of {p g : List Rat} (hg : ∀ z, value z g = dv z p) {x y : Rat} (h : OneS g x y) : OneW p x y := by
  rcases h with h | h
  · left
    intro s t h1 h2 h3
    exact mono_of h2 fun z h4 h5 => by rw [← hg z]; exact h z (by grind) (by grind)
  · right
    intro s t h1 h2 h3
    have := mono_of (p := negL p) h2 fun z h4 h5 => by
      rw [dv_negL, ← hg z]
      have := h z (by grind) (by grind)
      grind
    rw [val_negL, val_negL] at this
    grind
theorem lead_cons2 (c d : Rat) (l : List Rat) : AlOne.lead (c :: d :: l) = AlOne.lead (d :: l) := by
  show (c :: d :: l).getLastD 0 = (d :: l).getLastD 0
  simp
/-- far out it keeps its sign -/
theorem ray_up {B : Rat} (hB : 1 ≤ B) : ∀ l : List Rat, l ≠ [] → (1 ≤ AlOne.lead l ∨ AlOne.lead l ≤ -1) → (∀ c ∈ l, Ab c (B - 1)) → ∃ s : Rat, (s = 1 ∨ s = -1) ∧ ∀ x, B ≤ x → 1 ≤ s * value x l
  | [], h, _, _ => absurd rfl h
  | [c], _, hl, _ => by
    have e : AlOne.lead [c] = c := rfl
    rw [e] at hl
    have ev : ∀ x, value x [c] = c := fun x => by show c + x * 0 = c; grind
    rcases hl with h | h
    · exact ⟨1, .inl rfl, fun x _ => by rw [ev]; grind⟩
    · exact ⟨-1, .inr rfl, fun x _ => by rw [ev]; grind⟩
  | c :: d :: l, _, hl, hc => by
    rw [lead_cons2] at hl
    obtain ⟨s, hs, h⟩ := ray_up hB (d :: l) (by simp) hl fun a ha => hc a (List.mem_cons_of_mem _ ha)
    refine ⟨s, hs, fun x hx => ?_⟩
    have h1 := h x hx
    have h2 := hc c List.mem_cons_self
    show 1 ≤ s * (c + x * value x (d :: l))
    generalize value x (d :: l) = v at *
    have h3 : x * 1 ≤ x * (s * v) := Rat.mul_le_mul_of_nonneg_left h1 (by grind)
    obtain ⟨h4, h5⟩ := h2
    rcases hs with e | e <;> subst e <;> grind
theorem ray_down {B : Rat} (hB : 1 ≤ B) : ∀ l : List Rat, l ≠ [] → (1 ≤ AlOne.lead l ∨ AlOne.lead l ≤ -1) → (∀ c ∈ l, Ab c (B - 1)) → ∃ s : Rat, (s = 1 ∨ s = -1) ∧ ∀ x, x ≤ -B → 1 ≤ s * value x l
  | [], h, _, _ => absurd rfl h
  | [c], _, hl, _ => by
    have e : AlOne.lead [c] = c := rfl
    rw [e] at hl
    have ev : ∀ x, value x [c] = c := fun x => by show c + x * 0 = c; grind
    rcases hl with h | h
    · exact ⟨1, .inl rfl, fun x _ => by rw [ev]; grind⟩
    · exact ⟨-1, .inr rfl, fun x _ => by rw [ev]; grind⟩
  | c :: d :: l, _, hl, hc => by
    rw [lead_cons2] at hl
    obtain ⟨s, hs, h⟩ := ray_down hB (d :: l) (by simp) hl fun a ha => hc a (List.mem_cons_of_mem _ ha)
    refine ⟨-s, by rcases hs with e | e <;> subst e <;> grind, fun x hx => ?_⟩
    have h1 := h x hx
    have h2 := hc c List.mem_cons_self
    show 1 ≤ -s * (c + x * value x (d :: l))
    generalize value x (d :: l) = v at *
    have h3 : (-x) * 1 ≤ (-x) * (s * v) := Rat.mul_le_mul_of_nonneg_left h1 (by grind)
    obtain ⟨h4, h5⟩ := h2
    rcases hs with e | e <;> subst e <;> grind
/-- what lies beside all of them -/
def Avoid (ns : List Int) (x y : Rat) : Prop := ∀ t ∈ ns, y ≤ (t : Rat) ∨ (t : Rat) + 1 ≤ x
def Tells (p : List Rat) (ns : List Int) : Prop := ∀ x y : Rat, x < y → Avoid ns x y → OneS p x y
/-- from each one's next to the following one -/
def gaps (lo hi : Int) : List Int → List (Int × Int)
  | [] => [(lo, hi)]
  | t :: ts => (lo, t) :: gaps (t + 1) hi ts
theorem gaps_zip (hi : Int) : ∀ (ts : List Int) (lo : Int), (lo :: (ts.map fun t => t + 1)).zip (ts ++ [hi]) = gaps lo hi ts
  | [], lo => rfl
  | t :: ts, lo => by
    show (lo, t) :: (((t + 1) :: (ts.map fun t => t + 1)).zip (ts ++ [hi])) = _
    rw [gaps_zip hi ts (t + 1)]; rfl
theorem int_succ (t : Int) : ((t + 1 : Int) : Rat) = (t : Rat) + 1 := by rw [Rat.intCast_add]; rfl
theorem gap_from {hi : Int} {x y : Rat} (hy : y ≤ (hi : Rat)) : ∀ (ts : List Int) (lo : Int), ts.Pairwise (· ≤ ·) → Avoid ts x y → (lo : Rat) ≤ x → (∀ t ∈ ts, lo ≤ t + 1) → ∃ g ∈ gaps lo hi ts, (g.1 : Rat) ≤ x ∧ y ≤ (g.2 : Rat) ∧ lo ≤ g.1 ∧ ∀ t ∈ ts, g.2 ≤ t ∨ t + 1 ≤ g.1
  | [], lo, _, _, hlo, _ => ⟨(lo, hi), by simp [gaps], hlo, hy, Int.le_refl _, fun t ht => by cases ht⟩
  | t :: ts, lo, hs, ha, hlo, hl => by
    rw [List.pairwise_cons] at hs
    rcases ha t List.mem_cons_self with h | h
    · refine ⟨(lo, t), List.mem_cons_self, hlo, h, Int.le_refl _, fun t' ht' => .inl ?_⟩
      rcases List.mem_cons.mp ht' with e | e
      · rw [e]; exact Int.le_refl _
      · exact hs.1 t' e
    · obtain ⟨g, hg, h1, h2, h3, h4⟩ := gap_from hy ts (t + 1) hs.2 (fun t' ht' => ha t' (List.mem_cons_of_mem _ ht')) (by rw [int_succ]; exact h) fun t' ht' => by have := hs.1 t' ht'; omega
      have := hl t List.mem_cons_self
      refine ⟨g, List.mem_cons_of_mem _ hg, h1, h2, by omega, fun t' ht' => ?_⟩
      rcases List.mem_cons.mp ht' with e | e
      · right; rw [e]; exact h3
      · exact h4 t' e
theorem gap_in {hi lo : Int} {x y : Rat} (hy : y ≤ (hi : Rat)) {ts : List Int} (hs : ts.Pairwise (· ≤ ·)) (ha : Avoid ts x y) (hlo : (lo : Rat) ≤ x) : ∃ g ∈ gaps lo hi ts, (g.1 : Rat) ≤ x ∧ y ≤ (g.2 : Rat) ∧ ∀ t ∈ ts, g.2 ≤ t ∨ t + 1 ≤ g.1 := by
  cases ts with
  | nil => exact ⟨(lo, hi), by simp [gaps], hlo, hy, fun t ht => by cases ht⟩
  | cons t ts =>
    rw [List.pairwise_cons] at hs
    rcases ha t List.mem_cons_self with h | h
    · refine ⟨(lo, t), List.mem_cons_self, hlo, h, fun t' ht' => .inl ?_⟩
      rcases List.mem_cons.mp ht' with e | e
      · rw [e]; exact Int.le_refl _
      · exact hs.1 t' e
    · obtain ⟨g, hg, h1, h2, h3, h4⟩ := gap_from hy ts (t + 1) hs.2 (fun t' ht' => ha t' (List.mem_cons_of_mem _ ht')) (by rw [int_succ]; exact h) fun t' ht' => by have := hs.1 t' ht'; omega
      refine ⟨g, List.mem_cons_of_mem _ hg, h1, h2, fun t' ht' => ?_⟩
      rcases List.mem_cons.mp ht' with e | e
      · right; rw [e]; exact h3
      · exact h4 t' e
/-- where it changes its sign in a gap, a whole number next to that is told -/
structure NearOk (p : List Rat) (B : Int) (turns ns : List Int) : Prop where
  sub : ∀ t ∈ turns, t ∈ ns
  cr : ∀ g ∈ gaps (-B) B turns, g.1 < g.2 → value (g.1 : Rat) p * value (g.2 : Rat) p < 0 → ∃ c ∈ ns, g.1 ≤ c ∧ c + 1 ≤ g.2 ∧ ((value (g.1 : Rat) p < 0 ∧ value (c : Rat) p ≤ 0 ∧ 0 < value ((c + 1 : Int) : Rat) p) ∨ (0 < value (g.1 : Rat) p ∧ 0 < value (c : Rat) p ∧ value ((c + 1 : Int) : Rat) p ≤ 0))
theorem Avoid.sub {ns ms : List Int} {x y : Rat} (h : Avoid ns x y) (hs : ∀ t ∈ ms, t ∈ ns) : Avoid ms x y := fun t ht => h t (hs t ht)
theorem Avoid.inner {ns : List Int} {x y s e : Rat} (h : Avoid ns x y) (h1 : x ≤ s) (h2 : e ≤ y) : Avoid ns s e := fun t ht => by
  rcases h t ht with a | a
  · left; grind
  · right; grind
theorem sqQ (a : Rat) : 0 ≤ a * a := by
  rcases Classical.em (0 ≤ a) with h | h
  · exact Rat.mul_nonneg h h
  · have := Rat.mul_nonneg (show 0 ≤ -a by grind) (show 0 ≤ -a by grind)
    grind
/-- no change of sign, beside them -/
theorem no_change {p g : List Rat} {B : Int} {turns ns : List Int} (hne : p ≠ []) (hl : 1 ≤ AlOne.lead p ∨ AlOne.lead p ≤ -1) (hB : 1 ≤ B) (hc : ∀ c ∈ p, Ab c ((B : Rat) - 1)) (hs : turns.Pairwise (· ≤ ·)) (hg : ∀ z, value z g = dv z p) (hI : Tells g turns) (hN : NearOk p B turns ns)
    {s e : Rat} (hse : s < e) (ha : Avoid ns s e) (hv : value s p * value e p < 0) : False := by
  have hB1 : (1 : Rat) ≤ (B : Rat) := by exact_mod_cast hB
  obtain ⟨u, hu, ru⟩ := ray_up hB1 p hne hl hc
  obtain ⟨d, hd, rd⟩ := ray_down hB1 p hne hl hc
  -- within the bounds
  have key : ∀ s e : Rat, s < e → Avoid ns s e → value s p * value e p < 0 → (-B : Rat) ≤ s → e ≤ (B : Rat) → False := by
    intro s e hse ha hv h1 h2
    have hnB : ((-B : Int) : Rat) = -(B : Rat) := Rat.intCast_neg B
    obtain ⟨gp, hgp, g1, g2, g3⟩ := gap_in (lo := -B) (hi := B) h2 hs (ha.sub hN.sub) (by rw [hnB]; exact h1)
    have hlt : (gp.1 : Rat) < (gp.2 : Rat) := by grind
    have hlt' : gp.1 < gp.2 := by exact_mod_cast hlt
    have hav : Avoid turns (gp.1 : Rat) (gp.2 : Rat) := fun t ht => by
      rcases g3 t ht with a | a
      · left; exact_mod_cast a
      · right
        rw [← int_succ]
        exact_mod_cast a
    have hW := oneW_of hg (hI _ _ hlt hav)
    have hsl : ∀ a b : Rat, a * b < 0 → (a < 0 ∧ 0 < b) ∨ (0 < a ∧ b < 0) := fun a b hab => by
      rcases Classical.em (a < 0) with h | h
      · left
        refine ⟨h, Classical.byContradiction fun hb => ?_⟩
        have := Rat.mul_nonneg (show 0 ≤ -a by grind) (show 0 ≤ -b by grind)
        grind
      · right
        have ha0 : a ≠ 0 := fun e => by rw [e] at hab; grind
        refine ⟨by grind, Classical.byContradiction fun hb => ?_⟩
        have := Rat.mul_nonneg (show 0 ≤ a by grind) (show 0 ≤ b by grind)
        grind
    rcases hsl _ _ hv with ⟨v1, v2⟩ | ⟨v1, v2⟩
    · rcases hW with hW | hW
      · have w1 := hW gp.1 s (by grind) g1 (by grind)
        have w2 := hW e gp.2 (by grind) g2 (by grind)
        have hneg : value (gp.1 : Rat) p * value (gp.2 : Rat) p < 0 := by
          have := Rat.mul_pos (show 0 < - value (gp.1 : Rat) p by grind) (show 0 < value (gp.2 : Rat) p by grind)
          grind
        obtain ⟨c, hcn, c1, c2, c3⟩ := hN.cr gp hgp hlt' hneg
        have c1' : (gp.1 : Rat) ≤ (c : Rat) := by exact_mod_cast c1
        have c2' : (c : Rat) + 1 ≤ (gp.2 : Rat) := by rw [← int_succ]; exact_mod_cast c2
        rw [int_succ] at c3
        rcases c3 with ⟨_, c4, c5⟩ | ⟨c4, _, _⟩
        · rcases ha c hcn with a | a
          · have := hW e c (by grind) a (by grind)
            grind
          · have := hW ((c : Rat) + 1) s (by grind) a (by grind)
            grind
        · grind
      · have := hW s e g1 (by grind) g2
        grind
    · rcases hW with hW | hW
      · have := hW s e g1 (by grind) g2
        grind
      · have w1 := hW gp.1 s (by grind) g1 (by grind)
        have w2 := hW e gp.2 (by grind) g2 (by grind)
        have hneg : value (gp.1 : Rat) p * value (gp.2 : Rat) p < 0 := by
          have := Rat.mul_pos (show 0 < value (gp.1 : Rat) p by grind) (show 0 < - value (gp.2 : Rat) p by grind)
          grind
        obtain ⟨c, hcn, c1, c2, c3⟩ := hN.cr gp hgp hlt' hneg
        have c1' : (gp.1 : Rat) ≤ (c : Rat) := by exact_mod_cast c1
        have c2' : (c : Rat) + 1 ≤ (gp.2 : Rat) := by rw [← int_succ]; exact_mod_cast c2
        rw [int_succ] at c3
        rcases c3 with ⟨c4, _, _⟩ | ⟨_, c4, c5⟩
        · grind
        · rcases ha c hcn with a | a
          · have := hW e c (by grind) a (by grind)
            grind
          · have := hW ((c : Rat) + 1) s (by grind) a (by grind)
            grind
  -- beyond them the sign stays
  have same : ∀ (w a b : Rat), (w = 1 ∨ w = -1) → 1 ≤ w * a → 1 ≤ w * b → ∀ c : Rat, (a * c < 0 ↔ b * c < 0) := fun w a b hw h1 h2 c => by
    have h3 : 0 < a * b := by
      have := Rat.mul_pos (show 0 < w * a by grind) (show 0 < w * b by grind)
      rcases hw with e | e <;> subst e <;> grind
    constructor
    · intro h
      refine Classical.byContradiction fun hn => ?_
      have h4 : 0 < - (a * c) := by grind
      have := Rat.mul_pos h3 h4
      have h5 : 0 ≤ (a * a) * (b * c) := Rat.mul_nonneg (sqQ a) (by grind)
      grind
    · intro h
      refine Classical.byContradiction fun hn => ?_
      have h4 : 0 < - (b * c) := by grind
      have := Rat.mul_pos h3 h4
      have h5 : 0 ≤ (b * b) * (a * c) := Rat.mul_nonneg (sqQ b) (by grind)
      grind
  have nosame : ∀ (w a b : Rat), (w = 1 ∨ w = -1) → 1 ≤ w * a → 1 ≤ w * b → ¬ a * b < 0 := fun w a b hw h1 h2 h => by
    have := Rat.mul_pos (show 0 < w * a by grind) (show 0 < w * b by grind)
    rcases hw with e | e <;> subst e <;> grind
  by_cases e1 : e ≤ -(B : Rat)
  · exact nosame d _ _ hd (rd s (by grind)) (rd e e1) hv
  · by_cases e2 : (B : Rat) ≤ s
    · exact nosame u _ _ hu (ru s e2) (ru e (by grind)) hv
    · -- cut off
      have step : ∀ s' : Rat, s' < e → Avoid ns s' e → value s' p * value e p < 0 → (-B : Rat) ≤ s' → s' < (B : Rat) → False := by
        intro s' h1 h2 h3 h4 h5
        by_cases e3 : e ≤ (B : Rat)
        · exact key s' e h1 h2 h3 h4 e3
        · refine key s' (B : Rat) h5 (h2.inner (by grind) (by grind)) ?_ h4 (by grind)
          have := same u (value e p) (value (B : Rat) p) hu (ru e (by grind)) (ru B (by grind)) (value s' p)
          have h6 := this.mp (by grind)
          grind
      by_cases e4 : (-B : Rat) ≤ s
      · exact step s hse ha hv e4 (by grind)
      · refine step (-B : Rat) (by grind) (ha.inner (by grind) (by grind)) ?_ (by grind) (by grind)
        exact (same d (value s p) (value (-(B : Rat)) p) hd (rd s (by grind)) (rd _ (by grind)) (value e p)).mp hv
theorem near_tells {p g : List Rat} {B : Int} {turns ns : List Int} (hne : p ≠ []) (hl : 1 ≤ AlOne.lead p ∨ AlOne.lead p ≤ -1) (hB : 1 ≤ B) (hc : ∀ c ∈ p, Ab c ((B : Rat) - 1)) (hs : turns.Pairwise (· ≤ ·)) (hg : ∀ z, value z g = dv z p) (hI : Tells g turns) (hN : NearOk p B turns ns) : Tells p ns := by
  intro x y hxy ha
  refine Classical.byContradiction fun hno => ?_
  have h1 : ∃ z, x ≤ z ∧ z ≤ y ∧ value z p < 0 := Classical.byContradiction fun h => hno (.inl fun z a b => Classical.byContradiction fun c => h ⟨z, a, b, by grind⟩)
  have h2 : ∃ z, x ≤ z ∧ z ≤ y ∧ 0 < value z p := Classical.byContradiction fun h => hno (.inr fun z a b => Classical.byContradiction fun c => h ⟨z, a, b, by grind⟩)
  obtain ⟨z, z1, z2, z3⟩ := h1
  obtain ⟨w, w1, w2, w3⟩ := h2
  have hm : value z p * value w p < 0 := by
    have := Rat.mul_pos (show 0 < - value z p by grind) w3
    grind
  rcases Classical.em (z < w) with h | h
  · exact no_change hne hl hB hc hs hg hI hN h (ha.inner z1 w2) hm
  · have hzw : z ≠ w := fun e => by rw [e] at z3; grind
    exact no_change hne hl hB hc hs hg hI hN (s := w) (e := z) (by grind) (ha.inner w1 z2) (by grind)
theorem no_flat {p : P} (hp : p ≠ 0) (u : Rat) : ¬ ∀ w, u ≤ w → w ≤ u + 1 → value w p.1 = 0 := fun h => by
  have hlp := P.len_pos hp
  have hn : (0 : Rat) < ((p.len : Nat) : Rat) := by exact_mod_cast hlp
  have hi : 0 < 1 / ((p.len : Nat) : Rat) := div_posQ (by decide) hn
  have e1 : 1 / ((p.len : Nat) : Rat) * ((p.len : Nat) : Rat) = 1 := Rat.div_mul_cancel (by grind)
  generalize 1 / ((p.len : Nat) : Rat) = d at hi e1
  have := roots_le ((List.range p.len).map fun i => u + ((i : Nat) : Rat) * d) p hp ?_ ?_
  · rw [List.length_map, List.length_range] at this; omega
  · rw [List.pairwise_map]
    refine List.Pairwise.imp ?_ List.pairwise_lt_range
    intro a b hab
    have : ((a : Nat) : Rat) < ((b : Nat) : Rat) := by exact_mod_cast hab
    have := Rat.mul_lt_mul_of_pos_right this hi
    grind
  · intro r hr
    rw [List.mem_map] at hr
    obtain ⟨i, hi', rfl⟩ := hr
    rw [List.mem_range] at hi'
    have h0 : (0 : Rat) ≤ ((i : Nat) : Rat) := by exact_mod_cast Nat.zero_le i
    have h1 : ((i : Nat) : Rat) ≤ ((p.len : Nat) : Rat) := by exact_mod_cast Nat.le_of_lt hi'
    have h2 := Rat.mul_nonneg h0 (show 0 ≤ d by grind)
    have h3 := Rat.mul_le_mul_of_nonneg_right h1 (show 0 ≤ d by grind)
    exact h _ (by grind) (by grind)
/-- **a whole root is one of them, or next to one** -/
theorem near_root {p : P} {g : List Rat} {B : Int} {turns ns : List Int} (hp : p ≠ 0) (hl : 1 ≤ AlOne.lead p.1 ∨ AlOne.lead p.1 ≤ -1) (hB : 1 ≤ B) (hc : ∀ c ∈ p.1, Ab c ((B : Rat) - 1)) (hs : turns.Pairwise (· ≤ ·)) (hg : ∀ z, value z g = dv z p.1) (hI : Tells g turns) (hN : NearOk p.1 B turns ns) {z : Int} (hz : value (z : Rat) p.1 = 0) : z ∈ ns ∨ z - 1 ∈ ns := by
  refine Classical.byContradiction fun hno => ?_
  have hne : p.1 ≠ [] := fun e => hp (P.eq_zero_iff.mpr e)
  have ha : Avoid ns ((z : Rat) - 1) ((z : Rat) + 1) := fun t ht => by
    have h1 : t ≠ z := fun e => hno (.inl (by rw [← e]; exact ht))
    have h2 : t ≠ z - 1 := fun e => hno (.inr (by rw [← e]; exact ht))
    rcases Classical.em (z + 1 ≤ t) with h | h
    · left
      rw [← int_succ]
      exact_mod_cast h
    · right
      have h3 : t + 2 ≤ z := by omega
      have h4 : ((t + 2 : Int) : Rat) ≤ (z : Rat) := by exact_mod_cast h3
      rw [Rat.intCast_add] at h4
      have h5 : ((2 : Int) : Rat) = 2 := rfl
      rw [h5] at h4
      grind
  have hlt : (z : Rat) - 1 < (z : Rat) + 1 := by grind
  have hS := near_tells hne hl hB hc hs hg hI hN _ _ hlt ha
  have hW := oneW_of hg (hI _ _ hlt (ha.sub hN.sub))
  rcases hS with hS | hS <;> rcases hW with hW | hW
  · refine no_flat hp ((z : Rat) - 1) fun w h1 h2 => ?_
    have a := hS w h1 (by grind)
    have b := hW w z h1 (by grind) (by grind)
    grind
  · refine no_flat hp (z : Rat) fun w h1 h2 => ?_
    have a := hS w (by grind) h2
    have b := hW z w (by grind) h1 h2
    grind
  · refine no_flat hp (z : Rat) fun w h1 h2 => ?_
    have a := hS w (by grind) h2
    have b := hW z w (by grind) h1 h2
    grind
  · refine no_flat hp ((z : Rat) - 1) fun w h1 h2 => ?_
    have a := hS w h1 (by grind)
    have b := hW w z h1 (by grind) (by grind)
    grind
theorem tells_const {g : List Rat} (h : g.length ≤ 1) : Tells g [] := fun x y _ _ => by
  match g, h with
  | [], _ => exact .inl fun z _ _ => by show (0 : Rat) ≤ 0; grind
  | [c], _ =>
    have ev : ∀ z, value z [c] = c := fun z => by show c + z * 0 = c; grind
    by_cases hc : 0 ≤ c
    · exact .inl fun z _ _ => by rw [ev]; exact hc
    · exact .inr fun z _ _ => by rw [ev]; grind
end Ma
/-! Whole numbers at which a polynomial of whole numbers is 0; fractions at which one with 1 on top is. -/
namespace Ma
open AlOne (value)
/-- at a whole number -/
def zv : List Rat → Int → Int
  | [], _ => 0
  | c :: l, z => zv l z * z + c.num
/-- whole, and of so many bits -/
def Wh (A : Nat) (p : List Rat) : Prop := ∀ c ∈ p, c.den = 1 ∧ c.num.natAbs ≤ 2 ^ A
theorem Wh.tail {A : Nat} {c : Rat} {p : List Rat} (h : Wh A (c :: p)) : Wh A p := fun d hd => h d (List.mem_cons_of_mem _ hd)
theorem Wh.mono {A B : Nat} {p : List Rat} (h : Wh A p) (hb : A ≤ B) : Wh B p := fun c hc => ⟨(h c hc).1, Nat.le_trans (h c hc).2 (Nat.pow_le_pow_right (by omega) hb)⟩
theorem whole_num {c : Rat} (h : c.den = 1) : c = ((c.num : Int) : Rat) := whole_of_den h
theorem zv_val {A : Nat} (z : Int) : ∀ {p : List Rat}, Wh A p → ((zv p z : Int) : Rat) = value (z : Rat) p
  | [], _ => rfl
  | c :: p, h => by
    show ((zv p z * z + c.num : Int) : Rat) = c + (z : Rat) * value (z : Rat) p
    rw [Rat.intCast_add, Rat.intCast_mul, zv_val z h.tail]
    have := whole_num (h c List.mem_cons_self).1
    grind
theorem zv_bits {A : Nat} {z : Int} (hz : z.natAbs ≤ 2 ^ A) : ∀ {p : List Rat}, Wh A p → (zv p z).natAbs ≤ 2 ^ ((A + 1) * p.length)
  | [], _ => Nat.zero_le _
  | c :: p, h => by
    have ih := zv_bits hz h.tail
    have hc := (h c List.mem_cons_self).2
    show (zv p z * z + c.num).natAbs ≤ 2 ^ ((A + 1) * (p.length + 1))
    have h1 := Int.natAbs_add_le (zv p z * z) c.num
    rw [Int.natAbs_mul] at h1
    have h2 := Nat.mul_le_mul ih hz
    rw [← Nat.pow_add] at h2
    have h3 : 2 ^ A ≤ 2 ^ ((A + 1) * p.length + A) := Nat.pow_le_pow_right (by omega) (by omega)
    have h4 : (A + 1) * (p.length + 1) = ((A + 1) * p.length + A) + 1 := by rw [Nat.mul_succ]; omega
    rw [h4, Nat.pow_succ]
    omega
theorem zv_zero {A : Nat} {z : Int} {p : List Rat} (h : Wh A p) : zv p z = 0 ↔ value (z : Rat) p = 0 := by
  rw [← zv_val z h]
  constructor
  · intro e; rw [e]; rfl
  · intro e
    have : ((zv p z : Int) : Rat) = ((0 : Int) : Rat) := e
    exact Rat.intCast_inj.mp this
theorem zv_neg {A : Nat} {z : Int} {p : List Rat} (h : Wh A p) : zv p z < 0 ↔ value (z : Rat) p < 0 := by
  rw [← zv_val z h]
  constructor
  · intro e
    have : ((zv p z : Int) : Rat) < ((0 : Int) : Rat) := by exact_mod_cast e
    exact this
  · intro e
    have : ((zv p z : Int) : Rat) < ((0 : Int) : Rat) := e
    exact_mod_cast this
theorem zv_pos {A : Nat} {z : Int} {p : List Rat} (h : Wh A p) : 0 < zv p z ↔ 0 < value (z : Rat) p := by
  rw [← zv_val z h]
  constructor
  · intro e
    have : ((0 : Int) : Rat) < ((zv p z : Int) : Rat) := by exact_mod_cast e
    exact this
  · intro e
    have : ((0 : Int) : Rat) < ((zv p z : Int) : Rat) := e
    exact_mod_cast this
/-- where the sign changes, found by halving -/
def CrP (p : List Rat) (lo hi c : Int) : Prop := (lo < hi → lo ≤ c ∧ c + 1 ≤ hi ∧ ((zv p lo < 0 ∧ zv p c ≤ 0 ∧ 0 < zv p (c + 1)) ∨ (0 < zv p lo ∧ 0 < zv p c ∧ zv p (c + 1) ≤ 0))) ∧ (¬ lo < hi → c = lo)
/-- what's told of the places next to the roots -/
structure NearZ (p : List Rat) (B : Int) (turns ns : List Int) : Prop where
  sub : ∀ t ∈ turns, t ∈ ns
  cr : ∀ g ∈ gaps (-B) B turns, zv p g.1 * zv p g.2 < 0 → ∃ c ∈ ns, CrP p g.1 g.2 c
theorem NearZ.ok {A : Nat} {p : List Rat} {B : Int} {turns ns : List Int} (hp : Wh A p) (h : NearZ p B turns ns) : NearOk p B turns ns := by
  refine ⟨h.sub, fun g hg hlt hv => ?_⟩
  have hm : zv p g.1 * zv p g.2 < 0 := by
    rw [← zv_val g.1 hp, ← zv_val g.2 hp, ← Rat.intCast_mul] at hv
    have : ((zv p g.1 * zv p g.2 : Int) : Rat) < ((0 : Int) : Rat) := hv
    exact_mod_cast this
  obtain ⟨c, hc, hcr⟩ := h.cr g hg hm
  obtain ⟨h1, h2, h3⟩ := hcr.1 hlt
  refine ⟨c, hc, h1, h2, ?_⟩
  have le0 : ∀ z : Int, zv p z ≤ 0 → value (z : Rat) p ≤ 0 := fun z hz => Classical.byContradiction fun hn => by
    have := (zv_pos (z := z) hp).mpr (by grind)
    omega
  rcases h3 with ⟨a, b, d⟩ | ⟨a, b, d⟩
  · exact .inl ⟨(zv_neg hp).mp a, le0 c b, (zv_pos hp).mp d⟩
  · exact .inr ⟨(zv_pos hp).mp a, (zv_pos hp).mp b, le0 _ d⟩
/-- the slope, number by number -/
def slL (p : List Rat) : List Rat := AlOne.slopeFrom 1 p.tail
theorem slopeFrom_len : ∀ (l : List Rat) (n : Nat), (AlOne.slopeFrom n l).length = l.length
  | [], _ => rfl
  | c :: l, n => by show (AlOne.slopeFrom (n + 1) l).length + 1 = _; rw [slopeFrom_len l (n + 1)]; rfl
theorem slL_len (p : List Rat) : (slL p).length = p.length - 1 := by unfold slL; rw [slopeFrom_len, List.length_tail]
theorem co_slL (p : List Rat) (i : Nat) : co (slL p) i = ((i + 1 : Nat) : Rat) * co p (i + 1) := by
  unfold slL
  rw [co_slopeFrom]
  cases p with
  | nil => show _ * co [] i = _ * co [] (i + 1); rw [co_nil, co_nil]; grind
  | cons c p => show _ * co p i = _ * co (c :: p) (i + 1); rw [co_succ, Nat.add_comm]
theorem slL_tr {p : List Rat} (h : Tr p) : Tr (slL p) := by
  refine tr_of_lead fun hne => ?_
  have hl := slL_len p
  have hpos := pos_len hne
  rw [lead_eq, hl, co_slL]
  have hpne : p ≠ [] := fun e => by
    have h0 : p.length = 0 := by rw [e]; rfl
    omega
  have e : p.length - 1 - 1 + 1 = p.length - 1 := by omega
  rw [e, ← lead_eq]
  intro hz
  rcases Rat.mul_eq_zero.mp hz with h1 | h1
  · have h2 : ((p.length - 1 : Nat) : Rat) = ((0 : Nat) : Rat) := h1
    have := Rat.natCast_inj.mp h2
    omega
  · exact lead_ne h hpne h1
theorem slL_slope {p : List Rat} (h : Tr p) : AlOne.slope p = slL p := by
  show AlOne.trim (slL p) = slL p
  exact slL_tr h
theorem slL_dv (p : List Rat) (z : Rat) : value z (slL p) = dv z p := by
  rw [← val_slope]
  unfold AlOne.slope
  rw [sval_trim]; rfl
theorem mem_slopeFrom : ∀ (l : List Rat) (n : Nat) (c : Rat), c ∈ AlOne.slopeFrom n l → ∃ (k : Nat) (d : Rat), d ∈ l ∧ k < n + l.length ∧ c = ((k : Nat) : Rat) * d
  | [], _, _, h => by cases h
  | d :: l, n, c, h => by
    rcases List.mem_cons.mp h with e | e
    · exact ⟨n, d, List.mem_cons_self, by rw [List.length_cons]; omega, e⟩
    · obtain ⟨k, d', h1, h2, h3⟩ := mem_slopeFrom l (n + 1) c e
      exact ⟨k, d', List.mem_cons_of_mem _ h1, by rw [List.length_cons]; omega, h3⟩
theorem Wh.slope {A : Nat} {p : List Rat} (h : Wh A p) (hl : p.length ≤ 8) : Wh (A + 3) (slL p) := fun c hc => by
  obtain ⟨k, d, hd, hk, rfl⟩ := mem_slopeFrom _ _ _ hc
  have hdm := h d (List.mem_of_mem_tail hd)
  have hk8 : k ≤ 8 := by rw [List.length_tail] at hk; omega
  have e : ((k : Nat) : Rat) * d = (((k : Int) * d.num : Int) : Rat) := by
    rw [Rat.intCast_mul]
    have := whole_num hdm.1
    rw [← this]; rfl
  rw [e]
  refine ⟨rfl, ?_⟩
  show ((k : Int) * d.num).natAbs ≤ _
  rw [Int.natAbs_mul, Int.natAbs_natCast, Nat.pow_add, Nat.mul_comm]
  exact Nat.mul_le_mul hdm.2 hk8
/-- slopes of slopes -/
def slK (p : List Rat) : Nat → List Rat
  | 0 => p
  | k + 1 => slL (slK p k)
theorem slK_len (p : List Rat) : ∀ k, (slK p k).length = p.length - k
  | 0 => rfl
  | k + 1 => by show (slL (slK p k)).length = _; rw [slL_len, slK_len p k]; omega
theorem slK_tr {p : List Rat} (h : Tr p) : ∀ k, Tr (slK p k)
  | 0 => h
  | k + 1 => slL_tr (slK_tr h k)
theorem slK_wh {A : Nat} {p : List Rat} (h : Wh A p) (hl : p.length ≤ 8) : ∀ k, Wh (A + 3 * k) (slK p k)
  | 0 => h
  | k + 1 => by
    have := (slK_wh h hl k).slope (by rw [slK_len]; omega)
    exact this.mono (by omega)
theorem lead_whole {A : Nat} {p : List Rat} (h : Wh A p) (ht : Tr p) (hne : p ≠ []) : 1 ≤ AlOne.lead p ∨ AlOne.lead p ≤ -1 := by
  have hl := lead_ne ht hne
  have hm : AlOne.lead p ∈ p := by
    unfold AlOne.lead
    rw [List.getLastD_eq_getLast?, List.getLast?_eq_some_getLast hne]
    exact List.getLast_mem hne
  have hw := whole_num (h _ hm).1
  rw [hw] at hl ⊢
  have hn : (AlOne.lead p).num ≠ 0 := fun e => hl (by rw [e]; rfl)
  rcases Int.lt_or_gt_of_ne hn with h1 | h1
  · right
    have : ((AlOne.lead p).num : Rat) ≤ ((-1 : Int) : Rat) := by
      have : (AlOne.lead p).num ≤ -1 := by omega
      exact_mod_cast this
    exact this
  · left
    have : ((1 : Int) : Rat) ≤ ((AlOne.lead p).num : Rat) := by
      have : 1 ≤ (AlOne.lead p).num := by omega
      exact_mod_cast this
    exact this
theorem ab_whole {A : Nat} {p : List Rat} {B : Int} (h : Wh A p) (hB : ∀ c ∈ p, (c.num.natAbs : Int) ≤ B - 1) : ∀ c ∈ p, Ab c ((B : Rat) - 1) := fun c hc => by
  have h1 := hB c hc
  have hw := whole_num (h c hc).1
  have e : ((B - 1 : Int) : Rat) = (B : Rat) - 1 := by rw [Rat.intCast_sub]; rfl
  rw [← e, hw]
  constructor
  · have : ((-(B - 1) : Int) : Rat) ≤ ((c.num : Int) : Rat) := by
      have : -(B - 1) ≤ c.num := by omega
      exact_mod_cast this
    rw [Rat.intCast_neg] at this
    exact this
  · have : c.num ≤ B - 1 := by omega
    exact_mod_cast this
/-- how far we are: t slopes looked at -/
structure Upto (p : List Rat) (N t : Nat) (ns : List Int) : Prop where
  rise : ns.Pairwise (· ≤ ·)
  tells : Tells (slK p (N + 1 - t)) ns
  all : t = N + 1 → ∀ z : Int, zv p z = 0 → z ∈ ns ∨ z - 1 ∈ ns
theorem Upto.start {p : List Rat} {N : Nat} (h : p.length = N + 2) : Upto p N 0 [] := by
  refine ⟨List.Pairwise.nil, tells_const ?_, fun e => by omega⟩
  rw [slK_len]; omega
theorem Upto.next {A : Nat} {p : List Rat} {N t : Nat} {turns ns : List Int} {B : Int} (hp : Tr p) (hw : Wh A p) (h : p.length = N + 2) (hN : N ≤ 6) (ht : t < N + 1) (hu : Upto p N t turns) (hB : 1 ≤ B) (hc : ∀ c ∈ slK p (N - t), (c.num.natAbs : Int) ≤ B - 1) (hn : NearZ (slK p (N - t)) B turns ns) (hs : ns.Pairwise (· ≤ ·)) : Upto p N (t + 1) ns := by
  have hW := slK_wh hw (by omega) (N - t)
  have hT := slK_tr hp (N - t)
  have hne : slK p (N - t) ≠ [] := fun e => by
    have := slK_len p (N - t)
    rw [e] at this
    simp at this
    omega
  have e1 : N + 1 - t = (N - t) + 1 := by omega
  have hg : ∀ z, value z (slK p (N + 1 - t)) = dv z (slK p (N - t)) := fun z => by rw [e1]; exact slL_dv _ z
  have hl := lead_whole hW hT hne
  have hab := ab_whole hW hc
  refine ⟨hs, ?_, fun e z hz => ?_⟩
  · rw [show N + 1 - (t + 1) = N - t by omega]
    exact near_tells hne hl hB hab hu.rise hg hu.tells (hn.ok hW)
  · have e0 : N - t = 0 := by omega
    rw [e0] at hn hW hT hne hl hab hg
    have hz' : value (z : Rat) p = 0 := (zv_zero hw).mp hz
    exact near_root (p := ⟨p, hp⟩) (fun e => hne (P.eq_zero_iff.mp e)) hl hB hab hu.rise hg hu.tells (hn.ok hW) hz'
/-! stretched -/
def stL (F : Nat) : List Rat → List Rat
  | [] => []
  | c :: l => c * ((F ^ l.length : Nat) : Rat) :: stL F l
theorem stL_len (F : Nat) : ∀ l, (stL F l).length = l.length
  | [] => rfl
  | c :: l => by show (stL F l).length + 1 = _; rw [stL_len F l]; rfl
theorem stL_val (F : Nat) (r : Rat) : ∀ l : List Rat, l ≠ [] → value ((F : Rat) * r) (stL F l) = ((F ^ (l.length - 1) : Nat) : Rat) * value r l
  | [], h => absurd rfl h
  | [c], _ => by
    show c * ((F ^ 0 : Nat) : Rat) + (F : Rat) * r * 0 = ((F ^ 0 : Nat) : Rat) * (c + r * 0)
    grind
  | c :: d :: l, _ => by
    have ih := stL_val F r (d :: l) (by simp)
    show c * ((F ^ (d :: l).length : Nat) : Rat) + (F : Rat) * r * value ((F : Rat) * r) (stL F (d :: l)) = ((F ^ ((c :: d :: l).length - 1) : Nat) : Rat) * (c + r * value r (d :: l))
    rw [ih]
    have e : (c :: d :: l).length - 1 = (d :: l).length := rfl
    have e2 : ((F ^ (d :: l).length : Nat) : Rat) = ((F ^ ((d :: l).length - 1) : Nat) : Rat) * (F : Rat) := by
      rw [← Rat.natCast_mul, ← Nat.pow_succ]; rfl
    rw [e, e2]; grind
theorem stL_lead (F : Nat) : ∀ l : List Rat, AlOne.lead (stL F l) = AlOne.lead l
  | [] => rfl
  | [c] => by show c * ((F ^ 0 : Nat) : Rat) = c; have : ((F ^ 0 : Nat) : Rat) = 1 := rfl; rw [this]; grind
  | c :: d :: l => by
    have ih := stL_lead F (d :: l)
    rw [lead_cons2]
    rw [← ih]
    exact lead_cons2 _ _ _
theorem stL_mo (F : Nat) : ∀ l : List Rat, l ≠ [] → AlOne.lead l = 1 → Mo (stL F l)
  | [], h, _ => absurd rfl h
  | [c], _, h => by
    have h : c = 1 := h
    show c * ((F ^ 0 : Nat) : Rat) = 1
    have e : ((F ^ 0 : Nat) : Rat) = 1 := rfl
    rw [e, h]; grind
  | c :: d :: l, _, h => by
    rw [lead_cons2] at h
    exact stL_mo F (d :: l) (by simp) h
/-- all bottoms go into F -/
theorem stL_wh {F a : Nat} (hF : 0 < F) (hFa : F ≤ 2 ^ a) : ∀ l : List Rat, (∀ c ∈ l, c.den ∣ F ∧ c.num.natAbs ≤ 2 ^ a) → AlOne.lead l = 1 → Wh (a + a * (l.length - 1)) (stL F l)
  | [], _, _ => fun c hc => by cases hc
  | [c], _, h => fun d hd => by
    have h : c = 1 := h
    have e : ((F ^ 0 : Nat) : Rat) = 1 := rfl
    have e2 : d = 1 := by
      have : d = c * ((F ^ 0 : Nat) : Rat) := by simpa [stL] using hd
      rw [this, e, h]; grind
    rw [e2]
    exact ⟨rfl, Nat.one_le_two_pow⟩
  | c :: d :: l, hc, h => by
    rw [lead_cons2] at h
    have ih := stL_wh hF hFa (d :: l) (fun x hx => hc x (List.mem_cons_of_mem _ hx)) h
    intro x hx
    have hlen : (c :: d :: l).length - 1 = (d :: l).length - 1 + 1 := by simp
    rcases List.mem_cons.mp hx with e | e
    · obtain ⟨⟨m, hm⟩, hn⟩ := hc c List.mem_cons_self
      have hmul : c * ((F ^ (d :: l).length : Nat) : Rat) = ((c.num * ((m * F ^ ((d :: l).length - 1) : Nat) : Int) : Int) : Rat) := by
        have e1 : F ^ (d :: l).length = c.den * (m * F ^ ((d :: l).length - 1)) := by
          have : (d :: l).length = ((d :: l).length - 1) + 1 := by simp
          rw [this, Nat.pow_succ, Nat.add_sub_cancel]
          conv => lhs; rhs; rw [hm]
          rw [Nat.mul_left_comm, Nat.mul_comm (F ^ _) m]
        rw [e1, Rat.natCast_mul, Rat.intCast_mul]
        have := mul_den c
        rw [← this]
        have e3 : (((m * F ^ ((d :: l).length - 1) : Nat) : Int) : Rat) = ((m * F ^ ((d :: l).length - 1) : Nat) : Rat) := rfl
        rw [e3]; grind
      rw [e, hmul]
      refine ⟨rfl, ?_⟩
      show (c.num * ((m * F ^ ((d :: l).length - 1) : Nat) : Int)).natAbs ≤ _
      rw [Int.natAbs_mul, Int.natAbs_natCast]
      have hmF : m ≤ F := by
        rw [hm]
        exact Nat.le_mul_of_pos_left m c.den_pos
      have h1 : m * F ^ ((d :: l).length - 1) ≤ 2 ^ (a * ((c :: d :: l).length - 1)) := by
        have h2 := Nat.mul_le_mul (Nat.le_trans hmF hFa) (Nat.pow_le_pow_left hFa ((d :: l).length - 1))
        rw [← Nat.pow_mul, ← Nat.pow_add] at h2
        have h3 : a + a * ((d :: l).length - 1) = a * ((c :: d :: l).length - 1) := by rw [hlen, Nat.mul_succ]; omega
        rw [h3] at h2
        exact h2
      rw [Nat.pow_add]
      exact Nat.mul_le_mul hn h1
    · have := ih x e
      refine ⟨this.1, Nat.le_trans this.2 (Nat.pow_le_pow_right (by omega) ?_)⟩
      rw [hlen, Nat.mul_succ]; omega
/-- **the fractions, by the whole numbers** -/
theorem roots_by {p : P} {F : Nat} (hp : p ≠ 0) (h1 : p.ld = 1) (hF : 0 < F) {A : Nat} (hw : Wh A (stL F p.1)) {zs : List Int} (hz : zs.Pairwise (· < ·)) (hm : ∀ z : Int, z ∈ zs ↔ zv (stL F p.1) z = 0) : Al03.ratRoots p.1 = zs.map fun (z : Int) => (z : Rat) / (F : Rat) := by
  have hne : p.1 ≠ [] := fun e => hp (P.eq_zero_iff.mpr e)
  have hFq : (F : Rat) ≠ 0 := natCast_ne hF
  have hFp : (0 : Rat) < (F : Rat) := by exact_mod_cast hF
  have hmul : ∀ z : Int, (F : Rat) * ((z : Rat) / (F : Rat)) = (z : Rat) := fun z => by
    have := Rat.div_mul_cancel (a := (z : Rat)) hFq
    grind
  have hpow : ((F ^ (p.1.length - 1) : Nat) : Rat) ≠ 0 := natCast_ne (Nat.pow_pos hF)
  refine ratRoots_eq hp ?_ fun r => ?_
  · rw [List.pairwise_map]
    refine hz.imp fun {a b} hab => ?_
    have h2 : (a : Rat) < (b : Rat) := by exact_mod_cast hab
    have ha := hmul a
    have hb := hmul b
    refine Classical.byContradiction fun hn => ?_
    have h3 := Rat.mul_le_mul_of_nonneg_left (show (b : Rat) / (F : Rat) ≤ (a : Rat) / (F : Rat) by grind) (show 0 ≤ (F : Rat) by grind)
    grind
  · rw [List.mem_map]
    constructor
    · rintro ⟨z, hz', rfl⟩
      have h3 := (zv_zero hw).mp ((hm z).mp hz')
      have h4 := stL_val F ((z : Rat) / (F : Rat)) p.1 hne
      rw [hmul, h3] at h4
      rcases Rat.mul_eq_zero.mp h4.symm with e | e
      · exact absurd e hpow
      · exact e
    · intro hr
      have h4 := stL_val F r p.1 hne
      rw [hr] at h4
      have h5 : value ((F : Rat) * r) (stL F p.1) = 0 := by rw [h4]; grind
      obtain ⟨z, hz'⟩ := mo_whole (stL_mo F p.1 hne h1) (fun c hc => ⟨c.num, whole_num (hw c hc).1⟩) h5
      refine ⟨z, (hm z).mpr ((zv_zero hw).mpr (by rw [← hz']; exact h5)), ?_⟩
      have h6 := hmul z
      rw [← hz'] at h6 ⊢
      have h7 : (F : Rat) * ((F : Rat) * r / (F : Rat) - r) = 0 := by grind
      rcases Rat.mul_eq_zero.mp h7 with e | e
      · exact absurd e hFq
      · grind
end Ma
/-! How the program reads a number, and that it reads just what the specification reads. -/
namespace Ma

def isDig (b : Nat) : Bool := decide (48 ≤ b) && decide (b ≤ 57)
def wholeM (w : List Nat) : Option Nat := if w = [] then none else if w.headD 0 = 48 ∧ 1 < w.length then none else if w.all isDig = true then some (dval 0 w) else none

theorem wholeM_dig {w : List Nat} {n : Nat} (h : wholeM w = some n) : w = dg n := by
  unfold wholeM at h
  split at h
  · simp at h
  · rename_i h1
    split at h
    · simp at h
    · rename_i h2
      split at h
      · rename_i h3
        have hd : Dig w := by
          refine ⟨h1, fun b hb => ?_, fun hh => ?_⟩
          · have := List.all_eq_true.mp h3 b hb
            unfold isDig at this
            simpa using this
          · have hl : 0 < w.length := by cases w with
              | nil => exact absurd rfl h1
              | cons a l => simp
            apply Classical.byContradiction
            intro hn
            exact h2 ⟨hh, by omega⟩
        have := dg_dval w.length w rfl hd
        have e := Option.some.inj h
        rw [← e, this]
      · simp at h
theorem wholeM_dg (n : Nat) : wholeM (dg n) = some n := by
  have hd := dig_dg n
  unfold wholeM
  rw [if_neg hd.ne, if_neg, if_pos, dval_dg]
  · rw [List.all_eq_true]
    intro b hb
    have := hd.mem b hb
    unfold isDig; simp [this.1, this.2]
  · rintro ⟨h1, h2⟩
    have := hd.lead h1
    omega

/-- a fraction of two whole numbers with nothing in common -/
def fracM (t b : Nat) : Option Rat := if h : 2 ≤ b ∧ Nat.gcd t b = 1 then some ⟨(t : Int), b, by omega, by rw [Int.natAbs_natCast]; exact h.2⟩ else none
def unsignedM (w : List Nat) : Option Rat := if 47 ∈ w then (wholeM (w.take (w.idxOf 47))).bind fun t => (wholeM (w.drop (w.idxOf 47 + 1))).bind fun b => fracM t b else (wholeM w).map fun (n : Nat) => ((n : Nat) : Rat)

theorem idx_app {u v : List Nat} (h : 47 ∉ u) : (u ++ 47 :: v).idxOf 47 = u.length := by
  induction u with
  | nil => simp
  | cons a u ih =>
    have h1 : a ≠ 47 := fun e => h (by simp [e])
    have h2 : 47 ∉ u := fun e => h (by simp [e])
    rw [List.cons_append, List.idxOf_cons]
    have h3 : (a == 47) = false := by simp [h1]
    rw [h3, ih h2]; rfl
theorem split_idx {w : List Nat} (h : 47 ∈ w) : w = w.take (w.idxOf 47) ++ 47 :: w.drop (w.idxOf 47 + 1) := by
  have hlt := List.idxOf_lt_length_of_mem h
  have e : w.drop (w.idxOf 47) = 47 :: w.drop (w.idxOf 47 + 1) := by
    rw [List.drop_eq_getElem_cons hlt]
    congr 1
    exact List.getElem_idxOf hlt
  rw [← e, List.take_append_drop]

theorem natCast_num (n : Nat) : ((n : Rat)).num = (n : Int) ∧ ((n : Rat)).den = 1 := ⟨rfl, rfl⟩

theorem unsignedM_iff {w : List Nat} {c : Rat} : unsignedM w = some c ↔ (0 ≤ c.num ∧ w = numT c) := by
  constructor
  · intro h
    unfold unsignedM at h
    split at h
    · rename_i h47
      rw [Option.bind_eq_some_iff] at h
      obtain ⟨t, ht, h⟩ := h
      rw [Option.bind_eq_some_iff] at h
      obtain ⟨b, hb, h⟩ := h
      unfold fracM at h
      split at h
      · rename_i hg
        have e := Option.some.inj h
        subst e
        refine ⟨Int.natCast_nonneg t, ?_⟩
        have h1 := wholeM_dig ht
        have h2 := wholeM_dig hb
        have := split_idx h47
        rw [h1, h2] at this
        rw [this]
        unfold numT
        simp only [Int.natAbs_natCast]
        rw [if_neg (by omega)]
      · simp at h
    · rw [Option.map_eq_some_iff] at h
      obtain ⟨n, hn, e⟩ := h
      subst e
      refine ⟨by rw [(natCast_num n).1]; omega, ?_⟩
      unfold numT
      rw [(natCast_num n).1, (natCast_num n).2, if_pos rfl, List.append_nil, Int.natAbs_natCast]
      exact wholeM_dig hn
  · rintro ⟨h0, rfl⟩
    unfold unsignedM
    by_cases hd : c.den = 1
    · have e : numT c = dg c.num.natAbs := by unfold numT; rw [if_pos hd, List.append_nil]
      rw [e, if_neg (dg_notin (by omega)), wholeM_dg]
      show some ((c.num.natAbs : Nat) : Rat) = some c
      congr 1
      apply Rat.ext
      · rw [(natCast_num _).1]; omega
      · rw [(natCast_num _).2, hd]
    · have e : numT c = dg c.num.natAbs ++ 47 :: dg c.den := by unfold numT; rw [if_neg hd]
      have hi := idx_app (u := dg c.num.natAbs) (v := dg c.den) (dg_notin (by omega))
      rw [e, if_pos (by simp), hi]
      rw [List.take_left, wholeM_dg]
      have : (dg c.num.natAbs ++ 47 :: dg c.den).drop ((dg c.num.natAbs).length + 1) = dg c.den := by
        rw [← List.drop_drop, List.drop_left]; rfl
      rw [this]
      show (wholeM (dg c.den)).bind _ = _
      rw [wholeM_dg]
      show fracM c.num.natAbs c.den = some c
      unfold fracM
      have hnz := c.den_nz
      rw [dif_pos ⟨by omega, c.reduced⟩]
      congr 1
      apply Rat.ext
      · show ((c.num.natAbs : Nat) : Int) = c.num; omega
      · rfl

def numberM (w : List Nat) : Option Rat := if w.take 1 = [45] then (unsignedM (w.drop 1)).bind fun c => if c.num = 0 then none else some (-c) else unsignedM w

theorem numberM_iff {w : List Nat} {c : Rat} : numberM w = some c ↔ w = sgnT c := by
  unfold numberM
  constructor
  · intro h
    split at h
    · rename_i h45
      rw [Option.bind_eq_some_iff] at h
      obtain ⟨d, hd, h⟩ := h
      obtain ⟨h0, hw⟩ := unsignedM_iff.mp hd
      split at h
      · simp at h
      · rename_i hn0
        have e := Option.some.inj h
        subst e
        unfold sgnT
        rw [Rat.neg_num, if_pos (by omega)]
        have e2 : numT (-d) = numT d := by unfold numT; rw [Rat.neg_num, Rat.neg_den, Int.natAbs_neg]
        rw [e2, ← hw]
        have := List.take_append_drop 1 w
        rw [h45] at this
        exact this.symm
    · obtain ⟨h0, hw⟩ := unsignedM_iff.mp h
      unfold sgnT
      rw [if_neg (by omega), hw]; rfl
  · rintro rfl
    unfold sgnT
    by_cases hn : c.num < 0
    · rw [if_pos hn]
      show (if ([45] ++ numT c).take 1 = [45] then _ else _) = _
      have et : List.take 1 ([45] ++ numT c) = [45] := rfl
      rw [et, if_pos rfl]
      have e2 : numT (-c) = numT c := by unfold numT; rw [Rat.neg_num, Rat.neg_den, Int.natAbs_neg]
      have : unsignedM (([45] ++ numT c).drop 1) = some (-c) := unsignedM_iff.mpr ⟨by rw [Rat.neg_num]; omega, by rw [e2]; rfl⟩
      rw [this]
      show (if (-c).num = 0 then none else some (- -c)) = _
      rw [if_neg (by rw [Rat.neg_num]; omega), Rat.neg_neg]
    · rw [if_neg hn, List.nil_append]
      obtain ⟨b, l, e, h1, h2⟩ := numT_head c
      rw [if_neg]
      · exact unsignedM_iff.mpr ⟨by omega, rfl⟩
      · rw [e]
        intro h
        have : b = 45 := by simpa using h
        omega

/-- **the program reads what the specification reads** -/
theorem numberM_read (w : List Nat) : numberM w = AlOne.readNum w := by
  cases h : AlOne.readNum w with
  | some c => exact numberM_iff.mpr (readNum_iff.mp h)
  | none =>
    cases h2 : numberM w with
    | none => rfl
    | some c =>
      have := readNum_iff.mpr (numberM_iff.mp h2)
      rw [h] at this; cases this
end Ma
set_option maxRecDepth 100000
namespace W
open PySem PySem.Spec PyProof.Rows L2
def topS (i : Nat) : Stmt := PySem.Challenge.pw_tablesalike_s10_simple.main.body.getD i (.Pass ⟨0, 0, 0, 0⟩)
abbrev s_whole_common : Stmt := topS 3
abbrev s_lowest : Stmt := topS 4
abbrev s_ratio_sum : Stmt := topS 5
abbrev s_ratio_minus : Stmt := topS 6
abbrev s_ratio_product : Stmt := topS 7
abbrev s_ratio_quotient : Stmt := topS 8
abbrev s_trimmed : Stmt := topS 10
abbrev s_number_at : Stmt := topS 11
abbrev s_poly_sum : Stmt := topS 12
abbrev s_poly_minus : Stmt := topS 13
abbrev s_poly_product : Stmt := topS 14
abbrev s_poly_slope : Stmt := topS 15
abbrev s_poly_divided : Stmt := topS 16
abbrev s_with_one_on_top : Stmt := topS 17
abbrev s_poly_common : Stmt := topS 18
abbrev s_common_of_all : Stmt := topS 19
abbrev s_x_less : Stmt := topS 21
abbrev s_without_column : Stmt := topS 22
abbrev s_determinant : Stmt := topS 23
abbrev s_choices : Stmt := topS 24
abbrev s_part_of : Stmt := topS 25
abbrev s_minors : Stmt := topS 26
abbrev s_forms_of : Stmt := topS 27
abbrev s_whole_of : Stmt := topS 38
abbrev s_unsigned_of : Stmt := topS 39
abbrev s_number_of : Stmt := topS 40
abbrev s_numbers_of : Stmt := topS 41
abbrev s_is_long : Stmt := topS 42
abbrev s_numbers_refusal : Stmt := topS 43
abbrev s_table_refusal : Stmt := topS 44
abbrev s_table_of : Stmt := topS 45
abbrev s_common_bottom : Stmt := topS 47
abbrev s_stretched : Stmt := topS 48
abbrev s_whole_at : Stmt := topS 49
abbrev s_crossing : Stmt := topS 50
abbrev s_near_roots : Stmt := topS 51
abbrev s_whole_roots : Stmt := topS 52
abbrev s_roots_of : Stmt := topS 53
abbrev s_simple_of : Stmt := topS 55
abbrev s_simple : Stmt := topS 57
abbrev n_whole_common : List Str := ["first", "second", "larger", "smaller", "rest"]
theorem sc_whole_common : FnScope ["first", "second", "larger", "smaller", "rest"] ["first", "second"] (defScope s_whole_common) := ⟨rfl, rfl, rfl, by decide +kernel, rfl, by decide +kernel, by decide +kernel⟩
abbrev n_lowest : List Str := ["top", "bottom", "shared"]
theorem sc_lowest : FnScope ["top", "bottom", "shared"] ["top", "bottom"] (defScope s_lowest) := ⟨rfl, rfl, rfl, by decide +kernel, rfl, by decide +kernel, by decide +kernel⟩
abbrev n_ratio_sum : List Str := ["first", "second"]
theorem sc_ratio_sum : FnScope ["first", "second"] ["first", "second"] (defScope s_ratio_sum) := ⟨rfl, rfl, rfl, by decide +kernel, rfl, by decide +kernel, by decide +kernel⟩
abbrev n_ratio_minus : List Str := ["number"]
theorem sc_ratio_minus : FnScope ["number"] ["number"] (defScope s_ratio_minus) := ⟨rfl, rfl, rfl, by decide +kernel, rfl, by decide +kernel, by decide +kernel⟩
abbrev n_ratio_product : List Str := ["first", "second"]
theorem sc_ratio_product : FnScope ["first", "second"] ["first", "second"] (defScope s_ratio_product) := ⟨rfl, rfl, rfl, by decide +kernel, rfl, by decide +kernel, by decide +kernel⟩
abbrev n_ratio_quotient : List Str := ["first", "second"]
theorem sc_ratio_quotient : FnScope ["first", "second"] ["first", "second"] (defScope s_ratio_quotient) := ⟨rfl, rfl, rfl, by decide +kernel, rfl, by decide +kernel, by decide +kernel⟩
abbrev n_trimmed : List Str := ["numbers", "kept"]
theorem sc_trimmed : FnScope ["numbers", "kept"] ["numbers"] (defScope s_trimmed) := ⟨rfl, rfl, rfl, by decide +kernel, rfl, by decide +kernel, by decide +kernel⟩
abbrev n_number_at : List Str := ["p", "power"]
theorem sc_number_at : FnScope ["p", "power"] ["p", "power"] (defScope s_number_at) := ⟨rfl, rfl, rfl, by decide +kernel, rfl, by decide +kernel, by decide +kernel⟩
abbrev n_poly_sum : List Str := ["p", "q", "size", "power"]
theorem sc_poly_sum : FnScope ["p", "q", "size", "power"] ["p", "q"] (defScope s_poly_sum) := ⟨rfl, rfl, rfl, by decide +kernel, rfl, by decide +kernel, by decide +kernel⟩
abbrev n_poly_minus : List Str := ["p", "number"]
theorem sc_poly_minus : FnScope ["p", "number"] ["p"] (defScope s_poly_minus) := ⟨rfl, rfl, rfl, by decide +kernel, rfl, by decide +kernel, by decide +kernel⟩
abbrev n_poly_product : List Str := ["p", "q", "result", "low", "left", "high", "right"]
theorem sc_poly_product : FnScope ["p", "q", "result", "low", "left", "high", "right"] ["p", "q"] (defScope s_poly_product) := ⟨rfl, rfl, rfl, by decide +kernel, rfl, by decide +kernel, by decide +kernel⟩
abbrev n_poly_slope : List Str := ["p", "power", "number"]
theorem sc_poly_slope : FnScope ["p", "power", "number"] ["p"] (defScope s_poly_slope) := ⟨rfl, rfl, rfl, by decide +kernel, rfl, by decide +kernel, by decide +kernel⟩
abbrev n_poly_divided : List Str := ["p", "q", "rest", "quotient", "shift", "factor", "power", "number", "taken"]
theorem sc_poly_divided : FnScope ["p", "q", "rest", "quotient", "shift", "factor", "power", "number", "taken"] ["p", "q"] (defScope s_poly_divided) := ⟨rfl, rfl, rfl, by decide +kernel, rfl, by decide +kernel, by decide +kernel⟩
abbrev n_with_one_on_top : List Str := ["p", "number"]
theorem sc_with_one_on_top : FnScope ["p", "number"] ["p"] (defScope s_with_one_on_top) := ⟨rfl, rfl, rfl, by decide +kernel, rfl, by decide +kernel, by decide +kernel⟩
abbrev n_poly_common : List Str := ["p", "q", "larger", "smaller", "rest"]
theorem sc_poly_common : FnScope ["p", "q", "larger", "smaller", "rest"] ["p", "q"] (defScope s_poly_common) := ⟨rfl, rfl, rfl, by decide +kernel, rfl, by decide +kernel, by decide +kernel⟩
abbrev n_common_of_all : List Str := ["polys", "shared", "p"]
theorem sc_common_of_all : FnScope ["polys", "shared", "p"] ["polys"] (defScope s_common_of_all) := ⟨rfl, rfl, rfl, by decide +kernel, rfl, by decide +kernel, by decide +kernel⟩
abbrev n_x_less : List Str := ["table", "rows", "at", "row", "line", "number"]
theorem sc_x_less : FnScope ["table", "rows", "at", "row", "line", "number"] ["table"] (defScope s_x_less) := ⟨rfl, rfl, rfl, by decide +kernel, rfl, by decide +kernel, by decide +kernel⟩
abbrev n_without_column : List Str := ["rows", "column", "row"]
theorem sc_without_column : FnScope ["rows", "column", "row"] ["rows", "column"] (defScope s_without_column) := ⟨rfl, rfl, rfl, by decide +kernel, rfl, by decide +kernel, by decide +kernel⟩
abbrev n_determinant : List Str := ["rows", "total", "column", "entry", "part"]
theorem sc_determinant : FnScope ["rows", "total", "column", "entry", "part"] ["rows"] (defScope s_determinant) := ⟨rfl, rfl, rfl, by decide +kernel, rfl, by decide +kernel, by decide +kernel⟩
abbrev n_choices : List Str := ["count", "size", "found", "taken", "longer", "chosen", "start", "place"]
theorem sc_choices : FnScope ["count", "size", "found", "taken", "longer", "chosen", "start", "place"] ["count", "size"] (defScope s_choices) := ⟨rfl, rfl, rfl, by decide +kernel, rfl, by decide +kernel, by decide +kernel⟩
abbrev n_part_of : List Str := ["rows", "chosen_rows", "chosen_columns", "part", "place", "row", "column"]
theorem sc_part_of : FnScope ["rows", "chosen_rows", "chosen_columns", "part", "place", "row", "column"] ["rows", "chosen_rows", "chosen_columns"] (defScope s_part_of) := ⟨rfl, rfl, rfl, by decide +kernel, rfl, by decide +kernel, by decide +kernel⟩
abbrev n_minors : List Str := ["rows", "size", "chosen", "found", "chosen_rows", "columns"]
theorem sc_minors : FnScope ["rows", "size", "chosen", "found", "chosen_rows", "columns"] ["rows", "size"] (defScope s_minors) := ⟨rfl, rfl, rfl, by decide +kernel, rfl, by decide +kernel, by decide +kernel⟩
abbrev n_forms_of : List Str := ["table", "rows", "found", "before", "size", "shared", "form"]
theorem sc_forms_of : FnScope ["table", "rows", "found", "before", "size", "shared", "form"] ["table"] (defScope s_forms_of) := ⟨rfl, rfl, rfl, by decide +kernel, rfl, by decide +kernel, by decide +kernel⟩
abbrev n_whole_of : List Str := ["digits", "value", "digit"]
theorem sc_whole_of : FnScope ["digits", "value", "digit"] ["digits"] (defScope s_whole_of) := ⟨rfl, rfl, rfl, by decide +kernel, rfl, by decide +kernel, by decide +kernel⟩
abbrev n_unsigned_of : List Str := ["text", "value", "at", "top", "bottom"]
theorem sc_unsigned_of : FnScope ["text", "value", "at", "top", "bottom"] ["text"] (defScope s_unsigned_of) := ⟨rfl, rfl, rfl, by decide +kernel, rfl, by decide +kernel, by decide +kernel⟩
abbrev n_number_of : List Str := ["text", "size"]
theorem sc_number_of : FnScope ["text", "size"] ["text"] (defScope s_number_of) := ⟨rfl, rfl, rfl, by decide +kernel, rfl, by decide +kernel, by decide +kernel⟩
abbrev n_numbers_of : List Str := ["texts", "text"]
theorem sc_numbers_of : FnScope ["texts", "text"] ["texts"] (defScope s_numbers_of) := ⟨rfl, rfl, rfl, by decide +kernel, rfl, by decide +kernel, by decide +kernel⟩
abbrev n_is_long : List Str := ["number"]
theorem sc_is_long : FnScope ["number"] ["number"] (defScope s_is_long) := ⟨rfl, rfl, rfl, by decide +kernel, rfl, by decide +kernel, by decide +kernel⟩
abbrev n_numbers_refusal : List Str := ["texts", "numbers", "number"]
theorem sc_numbers_refusal : FnScope ["texts", "numbers", "number"] ["texts"] (defScope s_numbers_refusal) := ⟨rfl, rfl, rfl, by decide +kernel, rfl, by decide +kernel, by decide +kernel⟩
abbrev n_table_refusal : List Str := ["texts"]
theorem sc_table_refusal : FnScope ["texts"] ["texts"] (defScope s_table_refusal) := ⟨rfl, rfl, rfl, by decide +kernel, rfl, by decide +kernel, by decide +kernel⟩
abbrev n_table_of : List Str := ["texts", "size", "numbers", "at"]
theorem sc_table_of : FnScope ["texts", "size", "numbers", "at"] ["texts"] (defScope s_table_of) := ⟨rfl, rfl, rfl, by decide +kernel, rfl, by decide +kernel, by decide +kernel⟩
abbrev n_common_bottom : List Str := ["p", "least", "number"]
theorem sc_common_bottom : FnScope ["p", "least", "number"] ["p"] (defScope s_common_bottom) := ⟨rfl, rfl, rfl, by decide +kernel, rfl, by decide +kernel, by decide +kernel⟩
abbrev n_stretched : List Str := ["p", "factor", "numbers", "power_of_factor", "number"]
theorem sc_stretched : FnScope ["p", "factor", "numbers", "power_of_factor", "number"] ["p", "factor"] (defScope s_stretched) := ⟨rfl, rfl, rfl, by decide +kernel, rfl, by decide +kernel, by decide +kernel⟩
abbrev n_whole_at : List Str := ["p", "place", "total", "number"]
theorem sc_whole_at : FnScope ["p", "place", "total", "number"] ["p", "place"] (defScope s_whole_at) := ⟨rfl, rfl, rfl, by decide +kernel, rfl, by decide +kernel, by decide +kernel⟩
abbrev n_crossing : List Str := ["p", "low", "high", "rises", "left", "right", "middle"]
theorem sc_crossing : FnScope ["p", "low", "high", "rises", "left", "right", "middle"] ["p", "low", "high"] (defScope s_crossing) := ⟨rfl, rfl, rfl, by decide +kernel, rfl, by decide +kernel, by decide +kernel⟩
abbrev n_near_roots : List Str := ["p", "turns", "bound", "number", "starts", "turn", "ends", "found", "low", "high"]
theorem sc_near_roots : FnScope ["p", "turns", "bound", "number", "starts", "turn", "ends", "found", "low", "high"] ["p", "turns"] (defScope s_near_roots) := ⟨rfl, rfl, rfl, by decide +kernel, rfl, by decide +kernel, by decide +kernel⟩
abbrev n_whole_roots : List Str := ["p", "slopes", "near", "slope", "places", "place"]
theorem sc_whole_roots : FnScope ["p", "slopes", "near", "slope", "places", "place"] ["p"] (defScope s_whole_roots) := ⟨rfl, rfl, rfl, by decide +kernel, rfl, by decide +kernel, by decide +kernel⟩
abbrev n_roots_of : List Str := ["p", "factor", "place"]
theorem sc_roots_of : FnScope ["p", "factor", "place"] ["p"] (defScope s_roots_of) := ⟨rfl, rfl, rfl, by decide +kernel, rfl, by decide +kernel, by decide +kernel⟩
abbrev n_simple_of : List Str := ["least"]
theorem sc_simple_of : FnScope ["least"] ["least"] (defScope s_simple_of) := ⟨rfl, rfl, rfl, by decide +kernel, rfl, by decide +kernel, by decide +kernel⟩
abbrev n_simple : List Str := ["a", "refusal"]
theorem sc_simple : FnScope ["a", "refusal"] ["a"] (defScope s_simple) := ⟨rfl, rfl, rfl, by decide +kernel, rfl, by decide +kernel, by decide +kernel⟩
/-- a def of the text, where it stands, how it is called -/
structure D (K : PySem.W.Frag) (mg : Str → Option Value) (x : Str) (st : Stmt) (ps : List Str) (f : Addr) (fd : FuncData) : Prop where
  F : Fun K x x st f fd
  b : Binds K fd ps []
  g : mg x = some (.ref f)
/-- a written dict of whole numbers -/
def dictRow (e : DictEntry) : Option (Int × Int) := match e.key, e.val with
  | .int i _, .int j _ => if e.hash = hashInt i then some (i, j) else none
  | _, _ => none
def dictRows (es : Array DictEntry) : Option (List (Int × Int)) := es.toList.mapM dictRow
/-- what the top has written -/
structure Txt (K : PySem.W.Frag) (mg : Str → Option Value) where
  f_whole_common : Addr
  e_whole_common : FuncData
  d_whole_common : D K mg "whole_common" s_whole_common ["first", "second"] f_whole_common e_whole_common
  f_lowest : Addr
  e_lowest : FuncData
  d_lowest : D K mg "lowest" s_lowest ["top", "bottom"] f_lowest e_lowest
  f_ratio_sum : Addr
  e_ratio_sum : FuncData
  d_ratio_sum : D K mg "ratio_sum" s_ratio_sum ["first", "second"] f_ratio_sum e_ratio_sum
  f_ratio_minus : Addr
  e_ratio_minus : FuncData
  d_ratio_minus : D K mg "ratio_minus" s_ratio_minus ["number"] f_ratio_minus e_ratio_minus
  f_ratio_product : Addr
  e_ratio_product : FuncData
  d_ratio_product : D K mg "ratio_product" s_ratio_product ["first", "second"] f_ratio_product e_ratio_product
  f_ratio_quotient : Addr
  e_ratio_quotient : FuncData
  d_ratio_quotient : D K mg "ratio_quotient" s_ratio_quotient ["first", "second"] f_ratio_quotient e_ratio_quotient
  f_trimmed : Addr
  e_trimmed : FuncData
  d_trimmed : D K mg "trimmed" s_trimmed ["numbers"] f_trimmed e_trimmed
  f_number_at : Addr
  e_number_at : FuncData
  d_number_at : D K mg "number_at" s_number_at ["p", "power"] f_number_at e_number_at
  f_poly_sum : Addr
  e_poly_sum : FuncData
  d_poly_sum : D K mg "poly_sum" s_poly_sum ["p", "q"] f_poly_sum e_poly_sum
  f_poly_minus : Addr
  e_poly_minus : FuncData
  d_poly_minus : D K mg "poly_minus" s_poly_minus ["p"] f_poly_minus e_poly_minus
  f_poly_product : Addr
  e_poly_product : FuncData
  d_poly_product : D K mg "poly_product" s_poly_product ["p", "q"] f_poly_product e_poly_product
  f_poly_slope : Addr
  e_poly_slope : FuncData
  d_poly_slope : D K mg "poly_slope" s_poly_slope ["p"] f_poly_slope e_poly_slope
  f_poly_divided : Addr
  e_poly_divided : FuncData
  d_poly_divided : D K mg "poly_divided" s_poly_divided ["p", "q"] f_poly_divided e_poly_divided
  f_with_one_on_top : Addr
  e_with_one_on_top : FuncData
  d_with_one_on_top : D K mg "with_one_on_top" s_with_one_on_top ["p"] f_with_one_on_top e_with_one_on_top
  f_poly_common : Addr
  e_poly_common : FuncData
  d_poly_common : D K mg "poly_common" s_poly_common ["p", "q"] f_poly_common e_poly_common
  f_common_of_all : Addr
  e_common_of_all : FuncData
  d_common_of_all : D K mg "common_of_all" s_common_of_all ["polys"] f_common_of_all e_common_of_all
  f_x_less : Addr
  e_x_less : FuncData
  d_x_less : D K mg "x_less" s_x_less ["table"] f_x_less e_x_less
  f_without_column : Addr
  e_without_column : FuncData
  d_without_column : D K mg "without_column" s_without_column ["rows", "column"] f_without_column e_without_column
  f_determinant : Addr
  e_determinant : FuncData
  d_determinant : D K mg "determinant" s_determinant ["rows"] f_determinant e_determinant
  f_choices : Addr
  e_choices : FuncData
  d_choices : D K mg "choices" s_choices ["count", "size"] f_choices e_choices
  f_part_of : Addr
  e_part_of : FuncData
  d_part_of : D K mg "part_of" s_part_of ["rows", "chosen_rows", "chosen_columns"] f_part_of e_part_of
  f_minors : Addr
  e_minors : FuncData
  d_minors : D K mg "minors" s_minors ["rows", "size"] f_minors e_minors
  f_forms_of : Addr
  e_forms_of : FuncData
  d_forms_of : D K mg "forms_of" s_forms_of ["table"] f_forms_of e_forms_of
  f_whole_of : Addr
  e_whole_of : FuncData
  d_whole_of : D K mg "whole_of" s_whole_of ["digits"] f_whole_of e_whole_of
  f_unsigned_of : Addr
  e_unsigned_of : FuncData
  d_unsigned_of : D K mg "unsigned_of" s_unsigned_of ["text"] f_unsigned_of e_unsigned_of
  f_number_of : Addr
  e_number_of : FuncData
  d_number_of : D K mg "number_of" s_number_of ["text"] f_number_of e_number_of
  f_numbers_of : Addr
  e_numbers_of : FuncData
  d_numbers_of : D K mg "numbers_of" s_numbers_of ["texts"] f_numbers_of e_numbers_of
  f_is_long : Addr
  e_is_long : FuncData
  d_is_long : D K mg "is_long" s_is_long ["number"] f_is_long e_is_long
  f_numbers_refusal : Addr
  e_numbers_refusal : FuncData
  d_numbers_refusal : D K mg "numbers_refusal" s_numbers_refusal ["texts"] f_numbers_refusal e_numbers_refusal
  f_table_refusal : Addr
  e_table_refusal : FuncData
  d_table_refusal : D K mg "table_refusal" s_table_refusal ["texts"] f_table_refusal e_table_refusal
  f_table_of : Addr
  e_table_of : FuncData
  d_table_of : D K mg "table_of" s_table_of ["texts"] f_table_of e_table_of
  f_common_bottom : Addr
  e_common_bottom : FuncData
  d_common_bottom : D K mg "common_bottom" s_common_bottom ["p"] f_common_bottom e_common_bottom
  f_stretched : Addr
  e_stretched : FuncData
  d_stretched : D K mg "stretched" s_stretched ["p", "factor"] f_stretched e_stretched
  f_whole_at : Addr
  e_whole_at : FuncData
  d_whole_at : D K mg "whole_at" s_whole_at ["p", "place"] f_whole_at e_whole_at
  f_crossing : Addr
  e_crossing : FuncData
  d_crossing : D K mg "crossing" s_crossing ["p", "low", "high"] f_crossing e_crossing
  f_near_roots : Addr
  e_near_roots : FuncData
  d_near_roots : D K mg "near_roots" s_near_roots ["p", "turns"] f_near_roots e_near_roots
  f_whole_roots : Addr
  e_whole_roots : FuncData
  d_whole_roots : D K mg "whole_roots" s_whole_roots ["p"] f_whole_roots e_whole_roots
  f_roots_of : Addr
  e_roots_of : FuncData
  d_roots_of : D K mg "roots_of" s_roots_of ["p"] f_roots_of e_roots_of
  f_simple_of : Addr
  e_simple_of : FuncData
  d_simple_of : D K mg "simple_of" s_simple_of ["least"] f_simple_of e_simple_of
  f_simple : Addr
  e_simple : FuncData
  d_simple : D K mg "simple" s_simple ["a"] f_simple e_simple
  z_abs : mg "abs" = none
  z_any : mg "any" = none
  z_enumerate : mg "enumerate" = none
  z_len : mg "len" = none
  z_list : mg "list" = none
  z_max : mg "max" = none
  z_range : mg "range" = none
  z_reversed : mg "reversed" = none
  z_set : mg "set" = none
  z_sorted : mg "sorted" = none
  z_zip : mg "zip" = none
  a_ZERO : Addr
  g_ZERO : mg "ZERO" = some (.ref a_ZERO)
  t_ZERO : ∀ H : Hp, SqT K H a_ZERO [.int 0, .int 1]
  a_ONE : Addr
  g_ONE : mg "ONE" = some (.ref a_ONE)
  t_ONE : ∀ H : Hp, SqT K H a_ONE [.int 1, .int 1]
  g_MINUS : ∃ t, mg "MINUS" = some (.int (45) t)
  g_SLASH : ∃ t, mg "SLASH" = some (.int (47) t)
  g_DIGIT_0 : ∃ t, mg "DIGIT_0" = some (.int (48) t)
  g_DIGIT_9 : ∃ t, mg "DIGIT_9" = some (.int (57) t)
  g_MOST : ∃ t, mg "MOST" = some (.int (999999) t)
  a_ROWS : Addr
  g_ROWS : mg "ROWS" = some (.ref a_ROWS)
  e_ROWS : Array DictEntry
  m_ROWS : Nat
  l_ROWS : K.lookup a_ROWS = some ⟨.type "dict", none, .dict e_ROWS m_ROWS, #[]⟩
  o_ROWS : (a_ROWS == sysModules) = false
  v_ROWS : dictRows e_ROWS = some [(1, 1), (4, 2), (9, 3), (16, 4)]
  g_NOT_SO_MANY : ∃ t, mg "NOT_SO_MANY" = some (.int (-6) t)
  g_WRONG_TEXT : ∃ t, mg "WRONG_TEXT" = some (.int (-1) t)
  g_TOO_LARGE : ∃ t, mg "TOO_LARGE" = some (.int (-2) t)
/-- a call of a def of the text -/
theorem pe_D {X : Cx} {x : Str} {st : Stmt} {ps : List Str} {f : Addr} {fd : FuncData} {k n : Nat} {sp : Sp} {p pos : Pos} {e : Expr} {es : List Expr} {t : TA} (d : D X.K X.mg x st ps f fd)
    (G : FnOk X.prog X.w X.K X.mg X.base CX0 k f fd ps sp) (hr : Room n X.A) (ha : PA X (e :: es) t) (hkn : k ≤ n := by decide) (hg : Gl X x := by rfl) (hdb : (x == ("__debug__" : Str)) = false := by decide)
    (he : starEach (e :: es) X.env = (false, eval e X.env) :: starEach es X.env := by rfl) (hpl : (backTo pos (starEach es X.env)).any (·.1) = false := by rfl) : PE X (.Call (.Name x p) (e :: es) [] pos) (tCall sp [] E0 t) :=
  pe_call G (hr.mono hkn) hg d.g d.F.kp d.b .nil pass0 ha hdb he hpl
end W
set_option maxRecDepth 100000
namespace W
open PySem PySem.Spec PyProof.Rows L2
section
variable {P : Program} {w : World} {K : PySem.W.Frag} {mg : Str → Option Value} {base : Heap}
/-- the greatest number that goes into both -/
def spGcd : Sp := fun vs H Q _ => ∃ a b : Nat, vs = [.int a, .int b] ∧ Q (.int (Nat.gcd a b : Nat)) H
def mu3 (σ : L2.St) (_ : Hp) : Nat := match σ with
  | [_, _, _, some (.int y), _] => y.toNat
  | _ => 0
theorem ok_whole_common (T : Txt K mg) : FnOk P w K mg base CX0 1 T.f_whole_common T.e_whole_common ["first", "second"] spGcd := by
  refine T.d_whole_common.F.ok sc_whole_common (fun vs H Q E h => ?_) (fun cdv A outer s H vs Q E hr h => ?_)
  · obtain ⟨a, b, rfl, _⟩ := h
    rfl
  · obtain ⟨a, b, rfl, q⟩ := h
    refine ⟨_, pss_cons (ps_set (i := 2) sc_whole_common.nd rfl (.inl rfl) (pv 0)) (pss_cons (ps_set (i := 3) sc_whole_common.nd rfl (.inl rfl) (pv 1))
      (pss_cons (ps_while PassesOwn.never (pt_cmpR op_ne (pv 3) pe_int (nomark _))
        (pss_cons (ps_set (i := 4) sc_whole_common.nd rfl (.inl rfl) (pe_op op_mod (pv 2) (pv 3)))
        (pss_cons (ps_set (i := 2) sc_whole_common.nd rfl (.inl rfl) (pv 3))
        (pss_one (ps_set (i := 3) sc_whole_common.nd rfl (.inl rfl) (pv 4))))))
      (pss_one (ps_ret (pv 2))))), ?_⟩
    refine ⟨_, rfl, _, rfl, ?_⟩
    refine while_by (fun σ H' => ∃ (x y : Nat) (z : Option V), σ = [some (.int a), some (.int b), some (.int x), some (.int y), z] ∧ Nat.gcd x y = Nat.gcd a b ∧ H' = H) mu3 ⟨a, b, none, rfl, rfl, rfl⟩ ?_ ?_
    · rintro σ H' ⟨x, y, z, rfl, hg, rfl⟩
      refine ⟨_, rfl, rfl, _, rfl, ?_⟩
      by_cases hy : y = 0
      · subst hy
        rw [show (decide (V.int ((0 : Nat) : Int) = V.int 0)) = true from rfl]
        refine iteF ?_
        refine ⟨_, rfl, ?_⟩
        rw [Nat.gcd_zero_right] at hg
        rw [← hg] at q
        exact q
      · have hne : (decide (V.int ((y : Nat) : Int) = V.int 0)) = false := by
          rw [decide_eq_false]
          intro e
          have := V.int.inj e
          omega
        rw [hne]
        refine iteT ?_
        refine ⟨_, rfl, _, rfl, _, _, rfl, rfl, (by show (0 : Int) < (y : Int); omega), _, rfl, _, rfl, ⟨y, x % y, _, rfl, ?_, rfl⟩, ?_⟩
        · rw [← hg, Nat.gcd_comm x y, Nat.gcd_rec y x, Nat.gcd_comm]
        · show (((x : Int) % (y : Int))).toNat < ((y : Nat) : Int).toNat
          have := Nat.mod_lt x (show 0 < y by omega)
          omega
    · intro σ H' Q1 Q2 hq h
      obtain ⟨v, e, h1, k', e2, h2⟩ := h
      exact ⟨v, e, h1, k', e2, hq _ _ h2⟩
end
end W
set_option maxRecDepth 100000
namespace W
open PySem PySem.Spec PyProof.Rows L2
/-! numbers in the heap -/
def RatV (K : PySem.W.Frag) (H : Hp) (v : V) (c : Rat) : Prop := ∃ p, v = .ref p ∧ SqT K H p [.int c.num, .int (c.den : Int)]
theorem Same.seqT {K : PySem.W.Frag} {H H' : Hp} {a : Addr} {xs : List V} (e : Same H H') (h : SqT K H a xs) : SqT K H' a xs := by
  rcases h with (h | ⟨o, h⟩) | h
  · exact .inl (.inl (e _ _ h))
  · exact .inl (.inr ⟨o, e _ _ h⟩)
  · exact .inr h
theorem RatV.same {K : PySem.W.Frag} {H H' : Hp} {v : V} {c : Rat} (h : RatV K H v c) (e : Same H H') : RatV K H' v c := by
  obtain ⟨p, h1, h2⟩ := h
  exact ⟨p, h1, Same.seqT e h2⟩
theorem same_upd {H : Hp} {p : Addr} {o : HO} (h : H p = none) : Same H (upd H p o) := fun b x e => by
  rw [upd_ne (ne_of_none e h)]
  exact e
theorem SqT.of {K : PySem.W.Frag} {H : Hp} {a : Addr} {xs : List V} (h : H a = some (.tup xs)) : SqT K H a xs := .inl (.inl h)
/-- numbers whose parts have at most so many bits -/
def Fits (n : Nat) (c : Rat) : Prop := c.num.natAbs ≤ 2 ^ n ∧ c.den ≤ 2 ^ n
theorem Fits.mono {m n : Nat} {c : Rat} (h : Fits m c) (hn : m ≤ n) : Fits n c :=
  ⟨Nat.le_trans h.1 (Nat.pow_le_pow_right (by omega) hn), Nat.le_trans h.2 (Nat.pow_le_pow_right (by omega) hn)⟩
/-- as large as the program's own steps may be -/
abbrev LIM : Nat := 4400

theorem log2_le {n k : Nat} (h : n ≤ 2 ^ k) : n.log2 ≤ k := by
  by_cases h0 : n = 0
  · subst h0; simp
  · have : n.log2 < k + 1 := (Nat.log2_lt h0).mpr (Nat.lt_of_le_of_lt h (Nat.pow_lt_pow_right (by omega) (by omega)))
    omega
theorem mulW {i j : Int} {a b : Nat} (ha : i.natAbs ≤ 2 ^ a) (hb : j.natAbs ≤ 2 ^ b) (h : a + b < 1000000) : CMulW i j := by
  have := log2_le ha
  have := log2_le hb
  unfold CMulW; omega
section
variable {X : Cx}
/-- // by any number but 0, not too large -/
def CDivX (i j : Int) : Prop := j ≠ 0 ∧ Builtin.divisionGoesByPylong i j = false
theorem op_fdivX : OpR X (binaryOp .FloorDiv) (rI CDivX fun i j => .int (i.fdiv j)) := opI fun i j _ _ _ _ _ hc q => floordiv_int hc.1 q (.inl hc.2)
end
theorem log2_mul_le {a b : Nat} {k : Nat} (hb : b ≤ 2 ^ k) : (a * b).log2 ≤ a.log2 + k + 1 := by
  by_cases h0 : a * b = 0
  · rw [h0]; simp
  · have ha : a ≠ 0 := fun e => h0 (by rw [e, Nat.zero_mul])
    have h1 : a < 2 ^ (a.log2 + 1) := (Nat.log2_lt ha).mp (by omega)
    have h2 : a * b < 2 ^ (a.log2 + 1 + k + 1) := by
      have h3 : a * b ≤ 2 ^ (a.log2 + 1) * 2 ^ k := Nat.mul_le_mul (Nat.le_of_lt h1) hb
      rw [← Nat.pow_add] at h3
      exact Nat.lt_of_le_of_lt h3 (Nat.pow_lt_pow_right (by omega) (by omega))
    have := (Nat.log2_lt h0).mpr h2
    omega
/-- a quotient that isn't long -/
theorem noPylong_quot {x y q : Int} (h : x = y * q) (hq : q.natAbs ≤ 2 ^ LIM) : Builtin.divisionGoesByPylong x y = false := by
  have key : (if x == 0 then 0 else x.natAbs.log2 / 30 + 1) ≤ (if y == 0 then 0 else y.natAbs.log2 / 30 + 1) + 150 := by
    by_cases hx : (x == 0) = true
    · rw [if_pos hx]; omega
    · rw [if_neg hx]
      have hx' : x ≠ 0 := fun e => hx (by rw [e]; rfl)
      have hy' : y ≠ 0 := fun e => hx' (by rw [h, e, Int.zero_mul])
      have hy : ¬ (y == 0) = true := fun e => hy' (beq_iff_eq.mp e)
      rw [if_neg hy]
      have := log2_mul_le (a := y.natAbs) (b := q.natAbs) hq
      rw [← Int.natAbs_mul, ← h] at this
      have : LIM = 4400 := rfl
      omega
  show (decide (_ > 300) && decide ((if x == 0 then 0 else x.natAbs.log2 / 30 + 1) > (if y == 0 then 0 else y.natAbs.log2 / 30 + 1) + 150)) = false
  rw [decide_eq_false (p := (if x == 0 then 0 else x.natAbs.log2 / 30 + 1) > (if y == 0 then 0 else y.natAbs.log2 / 30 + 1) + 150) (by omega), Bool.and_false]
theorem lowS_dvd {t b : Int} : Ma.lowS t b ∣ t ∧ Ma.lowS t b ∣ b := by
  have h1 : ((Nat.gcd t.natAbs b.natAbs : Nat) : Int) ∣ t := Int.ofNat_dvd_left.mpr (Nat.gcd_dvd_left _ _)
  have h2 : ((Nat.gcd t.natAbs b.natAbs : Nat) : Int) ∣ b := Int.ofNat_dvd_left.mpr (Nat.gcd_dvd_right _ _)
  unfold Ma.lowS
  split
  · exact ⟨Int.neg_dvd.mpr h1, Int.neg_dvd.mpr h2⟩
  · exact ⟨h1, h2⟩
theorem low_parts {t b : Int} (h : b ≠ 0) : t = Ma.lowS t b * (Rat.divInt t b).num ∧ b = Ma.lowS t b * ((Rat.divInt t b).den : Int) := by
  have hne := Ma.lowS_ne (t := t) h
  rw [← Ma.low_num h, ← Ma.low_den h]
  obtain ⟨⟨q, hq⟩, ⟨r, hr⟩⟩ := lowS_dvd (t := t) (b := b)
  refine ⟨?_, ?_⟩
  · conv => rhs; rhs; lhs; rw [hq]
    rw [Int.mul_fdiv_cancel_left _ hne]; exact hq
  · conv => rhs; rhs; lhs; rw [hr]
    rw [Int.mul_fdiv_cancel_left _ hne]; exact hr
theorem low_div {t b : Int} (hb : b ≠ 0) (h : b.natAbs ≤ 2 ^ 8800 ∨ Fits LIM (Rat.divInt t b)) : CDivX t (Ma.lowS t b) ∧ CDivX b (Ma.lowS t b) := by
  have hne := Ma.lowS_ne (t := t) hb
  rcases h with h | h
  · have hlg : (Ma.lowS t b).natAbs.log2 < 9000 := by
      have := log2_le (Nat.le_trans (Ma.lowS_le (t := t) hb) h)
      omega
    exact ⟨⟨hne, PyProof.noPylong_of_log2 hlg⟩, hne, PyProof.noPylong_of_log2 hlg⟩
  · obtain ⟨h1, h2⟩ := low_parts (t := t) hb
    exact ⟨⟨hne, noPylong_quot h1 h.1⟩, hne, noPylong_quot h2 (by rw [Int.natAbs_natCast]; exact h.2)⟩

section
variable {P : Program} {w : World} {K : PySem.W.Frag} {mg : Str → Option Value} {base : Heap}
def spLow (K : PySem.W.Frag) : Sp := fun vs H Q _ => ∃ t b : Int, vs = [.int t, .int b] ∧ b ≠ 0 ∧ (b.natAbs ≤ 2 ^ 8800 ∨ Fits LIM (Rat.divInt t b)) ∧
  ∀ H' v, Same H H' → RatV K H' v (Rat.divInt t b) → Q v H'
theorem abs_nat (i : Int) : (if i < 0 then -i else i) = (i.natAbs : Int) := by split <;> omega
theorem ok_lowest (T : Txt K mg) : FnOk P w K mg base CX0 2 T.f_lowest T.e_lowest ["top", "bottom"] (spLow K) := by
  refine T.d_lowest.F.ok sc_lowest (fun vs H Q E h => ?_) (fun cdv A outer s H vs Q E hr h => ?_)
  · obtain ⟨a, b, rfl, _⟩ := h
    rfl
  · obtain ⟨t, b, rfl, hb, hbs, q⟩ := h
    refine ⟨_, pss_cons (ps_set (i := 2) sc_lowest.nd rfl (.inl rfl) (pe_D T.d_whole_common (ok_whole_common T) hr
        (pa_cons (pe_callB call_abs (by rfl) T.z_abs (by decide +kernel) (pa_cons (pv 0) pa_nil)) (pa_cons (pe_callB call_abs (by rfl) T.z_abs (by decide +kernel) (pa_cons (pv 1) pa_nil)) pa_nil))))
      (pss_cons (ps_if (pt_cmpR op_lt (pv 1) pe_int (nomark _)) (pss_one (ps_set (i := 2) sc_lowest.nd rfl (.inl rfl) (pe_un un_neg (pv 2)))) pss_nil)
      (pss_one (ps_ret (pe_tup (pa_cons (pe_op op_fdivX (pv 0) (pv 2)) (pa_cons (pe_op op_fdivX (pv 1) (pv 2)) pa_nil)))))), ?_⟩
    have last : ∀ σ, σ = [some (.int t), some (.int b), some (.int (Ma.lowS t b))] → tRet (tTup (tCons (tOp (rI CDivX fun i j => .int (i.fdiv j)) (tVar 0) (tVar 2)) (tCons (tOp (rI CDivX fun i j => .int (i.fdiv j)) (tVar 1) (tVar 2)) tNil))) { nx := fun _ H' => Q .non H', rt := Q } σ H := by
      intro σ e
      subst e
      have hne := Ma.lowS_ne (t := t) hb
      obtain ⟨hd1, hd2⟩ := low_div hb hbs
      refine ⟨_, rfl, _, rfl, _, _, rfl, rfl, hd1, _, rfl, _, rfl, _, _, rfl, rfl, hd2, (by show 2 ≤ sizeLine; decide), fun p hp => ?_⟩
      refine q _ _ (same_upd hp) ⟨p, rfl, SqT.of ?_⟩
      rw [upd_same]
      show some (HO.tup [V.int (t.fdiv (Ma.lowS t b)), V.int (b.fdiv (Ma.lowS t b))]) = _
      rw [Ma.low_num hb, Ma.low_den hb]
    refine ⟨_, rfl, t, rfl, _, rfl, b, rfl, t.natAbs, b.natAbs, ?_, ?_⟩
    · rw [abs_nat, abs_nat]; rfl
    · refine ⟨_, rfl, _, _, rfl, rfl, _, rfl, ite2 (fun e => ?_) (fun e => ?_)⟩
      · have e1 : b < 0 := of_decide_eq_true e
        refine ⟨_, rfl, _, rfl, ?_⟩
        refine last _ ?_
        show [some (V.int t), some (V.int b), some (V.int _)] = _
        unfold Ma.lowS
        rw [if_pos e1]
      · have e1 : ¬ b < 0 := fun h => e (decide_eq_true h)
        refine last _ ?_
        show [some (V.int t), some (V.int b), some (V.int _)] = _
        unfold Ma.lowS
        rw [if_neg e1]
end
end W
set_option maxRecDepth 100000
namespace W
open PySem PySem.Spec PyProof.Rows L2
section
variable {P : Program} {w : World} {K : PySem.W.Frag} {mg : Str → Option Value} {base : Heap}
/-- of two numbers: the number g of them -/
def spR2 (K : PySem.W.Frag) (C : Rat → Rat → Prop) (g : Rat → Rat → Rat) : Sp := fun vs H Q _ => ∃ (x y : V) (a b : Rat), vs = [x, y] ∧ RatV K H x a ∧ RatV K H y b ∧ C a b ∧
  ∀ H' v, Same H H' → RatV K H' v (g a b) → Q v H'
def Fit2 (a b : Rat) : Prop := Fits LIM a ∧ Fits LIM b
theorem den_mul_le {a b : Nat} (ha : a ≤ 2 ^ LIM) (hb : b ≤ 2 ^ LIM) : a * b ≤ 2 ^ 8800 := by
  have := Nat.mul_le_mul ha hb
  rw [← Nat.pow_add] at this
  exact this
/-- what the steps ask: not too large, and either what it's divided by isn't long or what comes out isn't -/
abbrev BIG : Nat := 100000
def SumC (a b : Rat) : Prop := Fits BIG a ∧ Fits BIG b ∧ (a.den * b.den ≤ 2 ^ 8800 ∨ Fits LIM (a + b))
def MulC (a b : Rat) : Prop := Fits BIG a ∧ Fits BIG b ∧ (a.den * b.den ≤ 2 ^ 8800 ∨ Fits LIM (a * b))
def DivC (a b : Rat) : Prop := Fits BIG a ∧ Fits BIG b ∧ b ≠ 0 ∧ (a.den * b.num.natAbs ≤ 2 ^ 8800 ∨ Fits LIM (a / b))
theorem mulB {i j : Int} (ha : i.natAbs ≤ 2 ^ BIG) (hb : j.natAbs ≤ 2 ^ BIG) : CMulW i j := mulW ha hb (by decide)
theorem big_of {a : Rat} (h : Fits LIM a) : Fits BIG a := h.mono (by decide)
theorem Fit2.sum {a b : Rat} (h : Fit2 a b) : SumC a b := ⟨big_of h.1, big_of h.2, .inl (den_mul_le h.1.2 h.2.2)⟩
theorem Fit2.mul {a b : Rat} (h : Fit2 a b) : MulC a b := ⟨big_of h.1, big_of h.2, .inl (den_mul_le h.1.2 h.2.2)⟩
theorem Fit2.div {a b : Rat} (h : Fit2 a b) (hb : b ≠ 0) : DivC a b := ⟨big_of h.1, big_of h.2, hb, .inl (den_mul_le h.1.2 h.2.1)⟩
theorem spR2.imp {K : PySem.W.Frag} {C C' : Rat → Rat → Prop} {g : Rat → Rat → Rat} (hC : ∀ a b, C' a b → C a b) (vs : List V) (H : Hp) (Q : VK) (E : XK) (h : spR2 K C' g vs H Q E) : spR2 K C g vs H Q E := by
  obtain ⟨x, y, a, b, h1, h2, h3, h4, h5⟩ := h
  exact ⟨x, y, a, b, h1, h2, h3, hC _ _ h4, h5⟩
theorem mulL {i j : Int} (ha : i.natAbs ≤ 2 ^ LIM) (hb : j.natAbs ≤ 2 ^ LIM) : CMulW i j := mulW ha hb (by decide)
theorem natc {n k : Nat} (h : n ≤ 2 ^ k) : ((n : Int)).natAbs ≤ 2 ^ k := by rw [Int.natAbs_natCast]; exact h
theorem den_ne {a b : Rat} : ((a.den : Int) * (b.den : Int)) ≠ 0 := by
  have h1 := a.den_nz
  have h2 := b.den_nz
  intro h
  rcases Int.mul_eq_zero.mp h with e | e <;> omega
theorem ok_ratio_sumG (T : Txt K mg) : FnOk P w K mg base CX0 3 T.f_ratio_sum T.e_ratio_sum ["first", "second"] (spR2 K SumC (· + ·)) := by
  refine T.d_ratio_sum.F.ok sc_ratio_sum (fun vs H Q E h => ?_) (fun cdv A outer s H vs Q E hr h => ?_)
  · obtain ⟨x, y, a, b, rfl, _⟩ := h
    rfl
  · obtain ⟨x, y, a, b, rfl, ⟨p, rfl, hp⟩, ⟨r, rfl, hr'⟩, ⟨fa, fb, fc⟩, q⟩ := h
    refine ⟨_, pss_one (ps_ret (pe_D T.d_lowest (ok_lowest T) hr (pa_cons (pe_op op_add
      (pe_op op_mulW (pe_ix ix_tup (pv 0) pe_int (fun _ _ => rfl)) (pe_ix ix_tup (pv 1) pe_int (fun _ _ => rfl)))
      (pe_op op_mulW (pe_ix ix_tup (pv 1) pe_int (fun _ _ => rfl)) (pe_ix ix_tup (pv 0) pe_int (fun _ _ => rfl))))
      (pa_cons (pe_op op_mulW (pe_ix ix_tup (pv 0) pe_int (fun _ _ => rfl)) (pe_ix ix_tup (pv 1) pe_int (fun _ _ => rfl))) pa_nil)))), ?_⟩
    refine ⟨_, rfl, p, _, 0, _, rfl, rfl, hp, atI_nat (j := 0) rfl, _, rfl, r, _, 1, _, rfl, rfl, hr', atI_nat (j := 1) rfl, _, _, rfl, rfl, mulB fa.1 (natc fb.2), ?_⟩
    refine ⟨_, rfl, r, _, 0, _, rfl, rfl, hr', atI_nat (j := 0) rfl, _, rfl, p, _, 1, _, rfl, rfl, hp, atI_nat (j := 1) rfl, _, _, rfl, rfl, mulB fb.1 (natc fa.2), _, _, rfl, rfl, ?_⟩
    refine ⟨_, rfl, p, _, 1, _, rfl, rfl, hp, atI_nat (j := 1) rfl, _, rfl, r, _, 1, _, rfl, rfl, hr', atI_nat (j := 1) rfl, _, _, rfl, rfl, mulB (natc fa.2) (natc fb.2), ?_⟩
    refine ⟨_, _, rfl, den_ne, ?_, fun H' v sm hv => q H' v sm ?_⟩
    · rw [← Int.natCast_mul, Int.natAbs_natCast]
      rw [Int.natCast_mul, Ma.add_divInt]; exact fc
    · rw [Ma.add_divInt] at hv; exact hv
theorem ok_ratio_sum (T : Txt K mg) : FnOk P w K mg base CX0 3 T.f_ratio_sum T.e_ratio_sum ["first", "second"] (spR2 K Fit2 (· + ·)) := (ok_ratio_sumG T).imp (spR2.imp fun _ _ h => h.sum)
theorem ok_ratio_productG (T : Txt K mg) : FnOk P w K mg base CX0 3 T.f_ratio_product T.e_ratio_product ["first", "second"] (spR2 K MulC (· * ·)) := by
  refine T.d_ratio_product.F.ok sc_ratio_product (fun vs H Q E h => ?_) (fun cdv A outer s H vs Q E hr h => ?_)
  · obtain ⟨x, y, a, b, rfl, _⟩ := h
    rfl
  · obtain ⟨x, y, a, b, rfl, ⟨p, rfl, hp⟩, ⟨r, rfl, hr'⟩, ⟨fa, fb, fc⟩, q⟩ := h
    refine ⟨_, pss_one (ps_ret (pe_D T.d_lowest (ok_lowest T) hr (pa_cons
      (pe_op op_mulW (pe_ix ix_tup (pv 0) pe_int (fun _ _ => rfl)) (pe_ix ix_tup (pv 1) pe_int (fun _ _ => rfl)))
      (pa_cons (pe_op op_mulW (pe_ix ix_tup (pv 0) pe_int (fun _ _ => rfl)) (pe_ix ix_tup (pv 1) pe_int (fun _ _ => rfl))) pa_nil)))), ?_⟩
    refine ⟨_, rfl, p, _, 0, _, rfl, rfl, hp, atI_nat (j := 0) rfl, _, rfl, r, _, 0, _, rfl, rfl, hr', atI_nat (j := 0) rfl, _, _, rfl, rfl, mulB fa.1 fb.1, ?_⟩
    refine ⟨_, rfl, p, _, 1, _, rfl, rfl, hp, atI_nat (j := 1) rfl, _, rfl, r, _, 1, _, rfl, rfl, hr', atI_nat (j := 1) rfl, _, _, rfl, rfl, mulB (natc fa.2) (natc fb.2), ?_⟩
    refine ⟨_, _, rfl, den_ne, ?_, fun H' v sm hv => q H' v sm ?_⟩
    · rw [← Int.natCast_mul, Int.natAbs_natCast]
      rw [Int.natCast_mul, Ma.mul_divInt]; exact fc
    · rw [Ma.mul_divInt] at hv; exact hv
theorem ok_ratio_product (T : Txt K mg) : FnOk P w K mg base CX0 3 T.f_ratio_product T.e_ratio_product ["first", "second"] (spR2 K Fit2 (· * ·)) := (ok_ratio_productG T).imp (spR2.imp fun _ _ h => h.mul)
theorem ok_ratio_quotientG (T : Txt K mg) : FnOk P w K mg base CX0 3 T.f_ratio_quotient T.e_ratio_quotient ["first", "second"] (spR2 K DivC (· / ·)) := by
  refine T.d_ratio_quotient.F.ok sc_ratio_quotient (fun vs H Q E h => ?_) (fun cdv A outer s H vs Q E hr h => ?_)
  · obtain ⟨x, y, a, b, rfl, _⟩ := h
    rfl
  · obtain ⟨x, y, a, b, rfl, ⟨p, rfl, hp⟩, ⟨r, rfl, hr'⟩, ⟨fa, fb, hb0, fc⟩, q⟩ := h
    refine ⟨_, pss_one (ps_ret (pe_D T.d_lowest (ok_lowest T) hr (pa_cons
      (pe_op op_mulW (pe_ix ix_tup (pv 0) pe_int (fun _ _ => rfl)) (pe_ix ix_tup (pv 1) pe_int (fun _ _ => rfl)))
      (pa_cons (pe_op op_mulW (pe_ix ix_tup (pv 0) pe_int (fun _ _ => rfl)) (pe_ix ix_tup (pv 1) pe_int (fun _ _ => rfl))) pa_nil)))), ?_⟩
    refine ⟨_, rfl, p, _, 0, _, rfl, rfl, hp, atI_nat (j := 0) rfl, _, rfl, r, _, 1, _, rfl, rfl, hr', atI_nat (j := 1) rfl, _, _, rfl, rfl, mulB fa.1 (natc fb.2), ?_⟩
    refine ⟨_, rfl, p, _, 1, _, rfl, rfl, hp, atI_nat (j := 1) rfl, _, rfl, r, _, 0, _, rfl, rfl, hr', atI_nat (j := 0) rfl, _, _, rfl, rfl, mulB (natc fa.2) fb.1, ?_⟩
    refine ⟨_, _, rfl, ?_, ?_, fun H' v sm hv => q H' v sm ?_⟩
    · intro h
      rcases Int.mul_eq_zero.mp h with e | e
      · have := a.den_nz; omega
      · exact hb0 (Rat.num_eq_zero.mp e)
    · rw [Int.natAbs_mul, Int.natAbs_natCast, Ma.div_divInt]; exact fc
    · rw [Ma.div_divInt] at hv; exact hv
theorem ok_ratio_quotient (T : Txt K mg) : FnOk P w K mg base CX0 3 T.f_ratio_quotient T.e_ratio_quotient ["first", "second"] (spR2 K (fun a b => Fit2 a b ∧ b ≠ 0) (· / ·)) := (ok_ratio_quotientG T).imp (spR2.imp fun _ _ h => h.1.div h.2)
def spMinus (K : PySem.W.Frag) : Sp := fun vs H Q _ => ∃ (x : V) (a : Rat), vs = [x] ∧ RatV K H x a ∧ ∀ H' v, Same H H' → RatV K H' v (-a) → Q v H'
theorem ok_ratio_minus (T : Txt K mg) : FnOk P w K mg base CX0 1 T.f_ratio_minus T.e_ratio_minus ["number"] (spMinus K) := by
  refine T.d_ratio_minus.F.ok sc_ratio_minus (fun vs H Q E h => ?_) (fun cdv A outer s H vs Q E hr h => ?_)
  · obtain ⟨x, a, rfl, _⟩ := h
    rfl
  · obtain ⟨x, a, rfl, ⟨p, rfl, hp⟩, q⟩ := h
    refine ⟨_, pss_one (ps_ret (pe_tup (pa_cons (pe_un un_neg (pe_ix ix_tup (pv 0) pe_int (fun _ _ => rfl))) (pa_cons (pe_ix ix_tup (pv 0) pe_int (fun _ _ => rfl)) pa_nil)))), ?_⟩
    refine ⟨_, rfl, p, _, 0, _, rfl, rfl, hp, atI_nat (j := 0) rfl, _, rfl, _, rfl, p, _, 1, _, rfl, rfl, hp, atI_nat (j := 1) rfl, (by show 2 ≤ sizeLine; decide), fun t ht => ?_⟩
    refine q _ _ (same_upd ht) ⟨t, rfl, SqT.of ?_⟩
    rw [upd_same]; rfl
end
end W
set_option maxRecDepth 100000
namespace W
open PySem PySem.Spec PyProof.Rows L2
/-! lists of numbers in the heap -/
def Rats (K : PySem.W.Frag) (H : Hp) : List V → List Rat → Prop
  | [], [] => True
  | v :: vs, c :: l => RatV K H v c ∧ Rats K H vs l
  | _, _ => False
theorem Rats.same {K : PySem.W.Frag} {H H' : Hp} (e : Same H H') : ∀ {vs : List V} {l : List Rat}, Rats K H vs l → Rats K H' vs l
  | [], [], _ => trivial
  | _ :: _, _ :: _, h => ⟨h.1.same e, Rats.same e h.2⟩
  | [], _ :: _, h => h.elim
  | _ :: _, [], h => h.elim
theorem Rats.len {K : PySem.W.Frag} {H : Hp} : ∀ {vs : List V} {l : List Rat}, Rats K H vs l → vs.length = l.length
  | [], [], _ => rfl
  | _ :: _, _ :: _, h => by rw [List.length_cons, List.length_cons, Rats.len h.2]
  | [], _ :: _, h => h.elim
  | _ :: _, [], h => h.elim
theorem Rats.get {K : PySem.W.Frag} {H : Hp} : ∀ {vs : List V} {l : List Rat} {i : Nat} {v : V}, Rats K H vs l → vs[i]? = some v → ∃ c, l[i]? = some c ∧ RatV K H v c
  | _ :: _, c :: _, 0, v, h, e => by
    have e' := Option.some.inj e
    subst e'
    exact ⟨c, rfl, h.1⟩
  | _ :: vs, _ :: l, i + 1, v, h, e => Rats.get (vs := vs) (l := l) (i := i) h.2 e
  | [], [], _, _, _, e => by simp at e
  | [], _ :: _, _, _, h, _ => h.elim
  | _ :: _, [], _, _, h, _ => h.elim
theorem Rats.at {K : PySem.W.Frag} {H : Hp} {vs : List V} {l : List Rat} (h : Rats K H vs l) {i : Nat} {c : Rat} (e : l[i]? = some c) : ∃ v, vs[i]? = some v ∧ RatV K H v c := by
  have hi : i < vs.length := by
    rw [h.len]; exact (List.getElem?_eq_some_iff.mp e).1
  obtain ⟨c', e1, e2⟩ := h.get (List.getElem?_eq_getElem hi)
  rw [e] at e1
  have := Option.some.inj e1
  subst this
  exact ⟨_, List.getElem?_eq_getElem hi, e2⟩
theorem Rats.append {K : PySem.W.Frag} {H : Hp} : ∀ {vs : List V} {l : List Rat} {ws : List V} {m : List Rat}, Rats K H vs l → Rats K H ws m → Rats K H (vs ++ ws) (l ++ m)
  | [], [], _, _, _, h2 => h2
  | _ :: _, _ :: _, _, _, h, h2 => ⟨h.1, Rats.append h.2 h2⟩
  | [], _ :: _, _, _, h, _ => h.elim
  | _ :: _, [], _, _, h, _ => h.elim
theorem Rats.snoc {K : PySem.W.Frag} {H : Hp} {vs : List V} {l : List Rat} {v : V} {c : Rat} (h : Rats K H vs l) (h2 : RatV K H v c) : Rats K H (vs ++ [v]) (l ++ [c]) := h.append ⟨h2, trivial⟩
theorem Rats.set {K : PySem.W.Frag} {H : Hp} : ∀ {vs : List V} {l : List Rat} {i : Nat} {v : V} {c : Rat}, Rats K H vs l → RatV K H v c → Rats K H (vs.set i v) (l.set i c)
  | [], [], _, _, _, _, _ => by simp only [List.set_nil]; exact trivial
  | _ :: _, _ :: _, 0, _, _, h, h2 => ⟨h2, h.2⟩
  | _ :: _, _ :: _, i + 1, _, _, h, h2 => ⟨h.1, Rats.set (i := i) h.2 h2⟩
  | [], _ :: _, _, _, _, h, _ => h.elim
  | _ :: _, [], _, _, _, h, _ => h.elim
theorem Rats.dropLast {K : PySem.W.Frag} {H : Hp} : ∀ {vs : List V} {l : List Rat}, Rats K H vs l → Rats K H vs.dropLast l.dropLast
  | [], [], _ => trivial
  | [_], [_], _ => trivial
  | _ :: b :: vs, _ :: d :: l, h => ⟨h.1, Rats.dropLast (vs := b :: vs) (l := d :: l) h.2⟩
  | [_], _ :: _ :: _, h => h.2.elim
  | _ :: _ :: _, [_], h => h.2.elim
  | [], _ :: _, h => h.elim
  | _ :: _, [], h => h.elim
theorem Rats.replicate {K : PySem.W.Frag} {H : Hp} {v : V} {c : Rat} (h : RatV K H v c) : ∀ n : Nat, Rats K H (List.replicate n v) (List.replicate n c)
  | 0 => trivial
  | n + 1 => ⟨h, Rats.replicate h n⟩
theorem SqT.updL {K : PySem.W.Frag} {H : Hp} {k p : Addr} {us ws xs : List V} (hk : H k = some (.lst us)) (h : SqT K H p xs) : SqT K (upd H k (.lst ws)) p xs := by
  rcases h with (h | ⟨o, h⟩) | h
  · exact .inl (.inl (by rw [upd_ne (ne_of h hk (by intro z; cases z))]; exact h))
  · exact .inl (.inr ⟨o, by rw [upd_ne (ne_of h hk (by intro z; cases z))]; exact h⟩)
  · exact .inr h
theorem RatV.updL {K : PySem.W.Frag} {H : Hp} {k : Addr} {us ws : List V} {v : V} {c : Rat} (hk : H k = some (.lst us)) (h : RatV K H v c) : RatV K (upd H k (.lst ws)) v c := by
  obtain ⟨p, h1, h2⟩ := h
  exact ⟨p, h1, SqT.updL hk h2⟩
theorem Rats.updL {K : PySem.W.Frag} {H : Hp} {k : Addr} {us ws : List V} (hk : H k = some (.lst us)) : ∀ {vs : List V} {l : List Rat}, Rats K H vs l → Rats K (upd H k (.lst ws)) vs l
  | [], [], _ => trivial
  | _ :: _, _ :: _, h => ⟨h.1.updL hk, Rats.updL hk h.2⟩
  | [], _ :: _, h => h.elim
  | _ :: _, [], h => h.elim
/-- a list of numbers, tracked -/
def PolV (K : PySem.W.Frag) (H : Hp) (a : Addr) (l : List Rat) : Prop := ∃ ws, H a = some (.lst ws) ∧ Rats K H ws l
theorem PolV.same {K : PySem.W.Frag} {H H' : Hp} {a : Addr} {l : List Rat} (h : PolV K H a l) (e : Same H H') : PolV K H' a l := by
  obtain ⟨ws, h1, h2⟩ := h
  exact ⟨ws, e _ _ h1, h2.same e⟩

/-! as data, for == -/
def datR (c : Rat) : PyData := .tuple [.int c.num, .int (c.den : Int)]
theorem RatV.dp {K : PySem.W.Frag} {H : Hp} {v : V} {c : Rat} (h : RatV K H v c) : Dp K H v (datR c) := by
  obtain ⟨p, rfl, hp⟩ := h
  exact .tup hp (.cons (.int _) (.cons (.int _) .nil))
theorem shaped_datR (c : Rat) : SeqAt.shaped (datR c) = true := rfl
theorem eqv_datR (a b : Rat) : PyData.eqv (datR a) (datR b) = decide (a = b) := by
  show (a.num == b.num && ((a.den : Int) == (b.den : Int) && true)) = _
  by_cases h : a = b
  · subst h; simp
  · rw [decide_eq_false h]
    by_cases h1 : a.num = b.num
    · have h2 : (a.den : Int) ≠ (b.den : Int) := fun e => h (Rat.ext h1 (by omega))
      simp [h1, h2]
    · simp [h1]
theorem Rats.dp {K : PySem.W.Frag} {H : Hp} : ∀ {vs : List V} {l : List Rat}, Rats K H vs l → DpAll K H vs (l.map datR)
  | [], [], _ => .nil
  | _ :: _, _ :: _, h => .cons h.1.dp (Rats.dp h.2)
  | [], _ :: _, h => h.elim
  | _ :: _, [], h => h.elim
theorem PolV.dp {K : PySem.W.Frag} {H : Hp} {a : Addr} {l : List Rat} (h : PolV K H a l) : Dp K H (.ref a) (.list (l.map datR)) := by
  obtain ⟨ws, h1, h2⟩ := h
  exact .lst (SqL.of h1) h2.dp
theorem lay_dat (l : List Rat) : PyData.canLayAll0 (l.map datR) = true ∧ PyData.depthAll (l.map datR) ≤ 1 := by
  induction l with
  | nil => exact ⟨rfl, by decide⟩
  | cons c l ih =>
    refine ⟨?_, ?_⟩
    · show (PyData.canLay0 (datR c) && PyData.canLayAll0 (l.map datR)) = true
      rw [ih.1]; rfl
    · show max (PyData.depth (datR c)) (PyData.depthAll (l.map datR)) ≤ 1
      have : PyData.depth (datR c) = 1 := rfl
      omega
theorem shaped_dat (l : List Rat) : SeqAt.shaped (.list (l.map datR)) = true := by
  have h := lay_dat l
  show (PyData.canLayAll0 (l.map datR) && decide (PyData.depthAll (l.map datR) + 1 ≤ 64)) = true
  rw [h.1, decide_eq_true (by omega)]; rfl
theorem eqvAll_dat : ∀ (l m : List Rat), PyData.eqvAll (l.map datR) (m.map datR) = decide (l = m)
  | [], [] => rfl
  | [], _ :: _ => rfl
  | _ :: _, [] => rfl
  | a :: l, b :: m => by
    show (PyData.eqv (datR a) (datR b) && PyData.eqvAll (l.map datR) (m.map datR)) = _
    rw [eqv_datR, eqvAll_dat l m]
    by_cases h1 : a = b
    · by_cases h2 : l = m
      · simp [h1, h2]
      · simp [h1, h2]
    · simp [h1]
theorem eqv_dat (l m : List Rat) : PyData.eqv (.list (l.map datR)) (.list (m.map datR)) = decide (l = m) := eqvAll_dat l m
theorem hu64 {A : Around} {k : Nat} (hr : Room k A) : A.units + 64 < cLine := by have := hr.un; omega

/-! the mathematics of trimming -/
theorem trim_snoc_zero : ∀ (l : List Rat), AlOne.trim (l ++ [0]) = AlOne.trim l
  | [] => by rw [List.nil_append, Ma.trim_cons]; simp [AlOne.trim]
  | c :: l => by
    rw [List.cons_append, Ma.trim_cons, Ma.trim_cons, trim_snoc_zero l]
theorem trim_snoc {l : List Rat} {c : Rat} (h : c ≠ 0) : AlOne.trim (l ++ [c]) = l ++ [c] := by
  refine Ma.tr_of_lead fun _ => ?_
  have : AlOne.lead (l ++ [c]) = c := by unfold AlOne.lead; simp
  rw [this]; exact h

section
variable {P : Program} {w : World} {K : PySem.W.Frag} {mg : Str → Option Value} {base : Heap}
theorem Txt.zero (T : Txt K mg) (H : Hp) : RatV K H (.ref T.a_ZERO) 0 := ⟨_, rfl, T.t_ZERO H⟩
theorem Txt.one (T : Txt K mg) (H : Hp) : RatV K H (.ref T.a_ONE) 1 := ⟨_, rfl, T.t_ONE H⟩

/-- of a list of numbers: a new one, without zeros at the end -/
def spTrim (K : PySem.W.Frag) : Sp := fun vs H Q _ => ∃ (a : Addr) (l : List Rat), vs = [.ref a] ∧ PolV K H a l ∧
  ∀ H' p, Same H H' → H p = none → PolV K H' p (AlOne.trim l) → Q (.ref p) H'
def muL (k : Addr) (_ : L2.St) (H : Hp) : Nat := match H k with
  | some (.lst ws) => ws.length
  | _ => 0
theorem ok_trimmed (T : Txt K mg) : FnOk P w K mg base CX0 1 T.f_trimmed T.e_trimmed ["numbers"] (spTrim K) := by
  refine T.d_trimmed.F.ok sc_trimmed (fun vs H Q E h => ?_) (fun cdv A outer s H vs Q E hr h => ?_)
  · obtain ⟨a, l, rfl, _⟩ := h
    rfl
  · obtain ⟨a, l, rfl, ⟨ws, hws, hR⟩, q⟩ := h
    refine ⟨_, pss_cons (ps_set (i := 1) sc_trimmed.nd rfl (.inl rfl) (pe_callTy call_list_of (by rfl) T.z_list boot_list (pa_cons (pv 0) pa_nil)))
      (pss_cons (ps_while PassesOwn.never ((pw_and (pt_cmpR op_gt (pe_callB call_len_seq (by rfl) T.z_len PySem.boot_len (pa_cons (pv 1) pa_nil)) pe_int (nomark _))
          (pw_and1 (pt_cmpR (op_eqD (hu64 hr)) (pe_ix ix_list (pv 1) (pe_un un_neg pe_int) (fun _ _ => rfl)) (pe_glob (v := .ref T.a_ZERO) (by rfl) T.g_ZERO rfl) (nomark _)))).pt)
        (pss_one (ps_expr (pe_bm0 PySem.F.plainAttrs_list PySem.F.slot_list_pop PySem.F.type_list_pop mt_pop (pv 1)))))
      (pss_one (ps_ret (pv 1)))), ?_⟩
    refine ⟨_, rfl, a, ws, rfl, .inl (SqL.of hws), fun k hk => ?_⟩
    have s0 : Same H (upd H k (.lst ws)) := same_upd hk
    refine while_by (fun σ H' => ∃ (us : List V) (m : List Rat), σ = [some (.ref a), some (.ref k)] ∧ Same H H' ∧ H' k = some (.lst us) ∧ Rats K H' us m ∧ AlOne.trim m = AlOne.trim l) (muL k) ⟨ws, l, rfl, s0, upd_same, hR.same s0, rfl⟩ ?_ ?_
    · rintro σ H' ⟨us, m, rfl, sm, hk', hm, ht⟩
      have done : AlOne.trim m = m → (tRet (tVar 1)) { nx := fun _ H' => Q .non H', rt := Q } [some (.ref a), some (.ref k)] H' := by
        intro e
        refine ⟨_, rfl, q H' k sm hk ⟨us, hk', ?_⟩⟩
        rw [← ht, e]; exact hm
      refine ⟨_, rfl, k, us, rfl, .inl (SqL.of hk'), _, _, rfl, rfl, _, rfl, ite2 (fun e => ?_) (fun e => ?_)⟩
      · have hpos : (0 : Int) < (us.length : Int) := of_decide_eq_true e
        have hml := hm.len
        rcases List.eq_nil_or_concat m with h0 | ⟨m', c, h0⟩
        · rw [h0] at hml; simp at hml; rw [hml] at hpos; simp at hpos
        · rw [List.concat_eq_append] at h0
          obtain ⟨u, hu1, hu2⟩ := hm.at (i := m'.length) (c := c) (by rw [h0]; simp)
          have hlen : us.length = m'.length + 1 := by rw [hml, h0]; simp
          have hlast : us = us.dropLast ++ [u] := by
            have hne : us ≠ [] := by intro e0; rw [e0] at hlen; simp at hlen
            have e1 := (List.dropLast_concat_getLast hne).symm
            rw [List.getLast_eq_getElem] at e1
            have e2 : us[us.length - 1]'(by omega) = u := by
              have := List.getElem?_eq_some_iff.mp hu1
              obtain ⟨h1, h2⟩ := this
              rw [← h2]; congr 1; omega
            rw [e2] at e1; exact e1
          have hat : atI us (-1) = some u := by rw [hlast]; exact atI_last _ _
          refine ⟨_, rfl, 1, rfl, k, us, -1, u, rfl, rfl, SqL.of hk', hat, ?_⟩
          refine ⟨datR c, datR 0, hu2.dp, (T.zero H').dp, shaped_datR _, shaped_datR _, _, rfl, ?_⟩
          rw [eqv_datR]
          by_cases hc : c = 0
          · rw [decide_eq_true hc]
            refine iteT ?_
            have hu1' : us[us.length - 1]? = some u := by rw [hlen]; exact hu1
            refine ⟨_, rfl, .inl ⟨rfl, _, SqL.of hk'⟩, k, us, u, rfl, rfl, hk', hu1', ?_, ?_⟩
            · refine ⟨us.dropLast, m', rfl, fun b o eb => ?_, upd_same, ?_, ?_⟩
              · rw [upd_ne (ne_of_none eb hk)]; exact sm _ _ eb
              · have hd : Rats K H' us.dropLast m' := by
                  have := hm.dropLast
                  rw [h0] at this
                  simpa using this
                exact hd.updL hk'
              · rw [← ht, h0, hc, trim_snoc_zero]
            · show muL k _ _ < muL k _ _
              unfold muL
              rw [upd_same, hk']
              show us.dropLast.length < us.length
              rw [List.length_dropLast]; omega
          · rw [decide_eq_false hc]
            refine iteF ?_
            refine done ?_
            rw [h0]; exact trim_snoc hc
      · have h0 : us.length = 0 := by
          have : ¬ (0 : Int) < (us.length : Int) := fun h => e (decide_eq_true h)
          omega
        have hm0 : m = [] := List.eq_nil_of_length_eq_zero (by rw [← hm.len]; exact h0)
        refine iteF ?_
        exact done (by rw [hm0]; rfl)
    · intro σ H' Q1 Q2 hq h
      obtain ⟨v, e1, p, ys, e2, e3, i, j, e4, e5, c, e6, h⟩ := h
      refine ⟨v, e1, p, ys, e2, e3, i, j, e4, e5, c, e6, ?_⟩
      by_cases hc : c = true
      · rw [if_pos hc] at h ⊢
        obtain ⟨v2, f1, i2, f2, p2, ys2, i3, v3, f3, f4, f5, f6, d, e, f7, f8, f9, f10, c2, f11, h⟩ := h
        exact ⟨v2, f1, i2, f2, p2, ys2, i3, v3, f3, f4, f5, f6, d, e, f7, f8, f9, f10, c2, f11, hq _ _ h⟩
      · rw [if_neg hc] at h ⊢
        exact hq _ _ h
end
end W
set_option maxRecDepth 100000
namespace W
open PySem PySem.Spec PyProof.Rows L2
def AllFit (l : List Rat) : Prop := ∀ c ∈ l, Fits LIM c
theorem fits_zero (n : Nat) : Fits n 0 := ⟨Nat.zero_le _, Nat.one_le_two_pow⟩
theorem AllFit.co {l : List Rat} (h : AllFit l) (i : Nat) : Fits LIM (Ma.co l i) := by
  unfold Ma.co
  rw [List.getD_eq_getElem?_getD]
  cases e : l[i]? with
  | none => exact fits_zero _
  | some c => exact h c (List.mem_of_getElem? e)
theorem co_of {l : List Rat} {i : Nat} {c : Rat} (h : l[i]? = some c) : Ma.co l i = c := by
  unfold Ma.co; rw [List.getD_eq_getElem?_getD, h]; rfl
theorem co_out {l : List Rat} {i : Nat} (h : l.length ≤ i) : Ma.co l i = 0 := Ma.co_ge h
/-- a sum, power by power -/
theorem add_map (p q : List Rat) {n : Nat} (h : n = max p.length q.length) : AlOne.trim ((List.range n).map fun i => Ma.co p i + Ma.co q i) = AlOne.add p q := by
  refine Ma.ext (Ma.tr_trim _) (Ma.tr_add _ _) fun i => ?_
  rw [Ma.co_trim, Ma.co_add]
  unfold Ma.co
  rw [List.getD_eq_getElem?_getD, List.getElem?_map]
  by_cases hi : i < n
  · simp [hi]
  · have e1 : p[i]? = none := List.getElem?_eq_none (by omega)
    have e2 : q[i]? = none := List.getElem?_eq_none (by omega)
    simp [hi, List.getD_eq_getElem?_getD, e1, e2]
    grind
section
variable {P : Program} {w : World} {K : PySem.W.Frag} {mg : Str → Option Value} {base : Heap}
def spAt (K : PySem.W.Frag) : Sp := fun vs H Q _ => ∃ (a : Addr) (l : List Rat) (i : Nat), vs = [.ref a, .int i] ∧ PolV K H a l ∧ ∀ v, RatV K H v (Ma.co l i) → Q v H
theorem ok_number_at (T : Txt K mg) : FnOk P w K mg base CX0 1 T.f_number_at T.e_number_at ["p", "power"] (spAt K) := by
  refine T.d_number_at.F.ok sc_number_at (fun vs H Q E h => ?_) (fun cdv A outer s H vs Q E hr h => ?_)
  · obtain ⟨a, l, i, rfl, _⟩ := h
    rfl
  · obtain ⟨a, l, i, rfl, ⟨ws, hws, hR⟩, q⟩ := h
    refine ⟨_, pss_one (ps_ret (pe_ifExp (pt_cmpR op_lt (pv 1) (pe_callB call_len_seq (by rfl) T.z_len PySem.boot_len (pa_cons (pv 0) pa_nil)) (nomark _))
      (pe_ix ix_list (pv 0) (pv 1) (fun _ _ => rfl)) (pe_glob (v := .ref T.a_ZERO) (by rfl) T.g_ZERO rfl))), ?_⟩
    refine ⟨_, rfl, _, rfl, a, ws, rfl, .inl (SqL.of hws), _, _, rfl, rfl, _, rfl, ite2 (fun e => ?_) (fun e => ?_)⟩
    · have hi : (i : Int) < (ws.length : Int) := of_decide_eq_true e
      have hi' : i < ws.length := by omega
      obtain ⟨c, e1, e2⟩ := hR.get (List.getElem?_eq_getElem hi')
      refine ⟨_, rfl, _, rfl, a, ws, i, ws[i], rfl, rfl, SqL.of hws, atI_nat (List.getElem?_eq_getElem hi'), q _ ?_⟩
      rw [co_of e1]; exact e2
    · have hi : ¬ (i : Int) < (ws.length : Int) := fun h => e (decide_eq_true h)
      refine q _ ?_
      rw [co_out (by rw [← hR.len]; omega)]
      exact T.zero H
/-- of two lists of numbers: a new one -/
def spP2 (K : PySem.W.Frag) (C : List Rat → List Rat → Prop) (g : List Rat → List Rat → List Rat) : Sp := fun vs H Q _ => ∃ (a b : Addr) (p q : List Rat), vs = [.ref a, .ref b] ∧ PolV K H a p ∧ PolV K H b q ∧ C p q ∧
  ∀ H' r, Same H H' → H r = none → PolV K H' r (g p q) → Q (.ref r) H'
def SumOk (p q : List Rat) : Prop := AllFit p ∧ AllFit q ∧ p.length ≤ 1000 ∧ q.length ≤ 1000
def SumOkG (p q : List Rat) : Prop := (∀ i, SumC (Ma.co p i) (Ma.co q i)) ∧ p.length ≤ 1000 ∧ q.length ≤ 1000
theorem spP2.imp {K : PySem.W.Frag} {C C' : List Rat → List Rat → Prop} {g : List Rat → List Rat → List Rat} (hC : ∀ a b, C' a b → C a b) (vs : List V) (H : Hp) (Q : VK) (E : XK) (h : spP2 K C' g vs H Q E) : spP2 K C g vs H Q E := by
  obtain ⟨x, y, a, b, h1, h2, h3, h4, h5⟩ := h
  exact ⟨x, y, a, b, h1, h2, h3, hC _ _ h4, h5⟩
theorem ok_poly_sumG (T : Txt K mg) : FnOk P w K mg base CX0 4 T.f_poly_sum T.e_poly_sum ["p", "q"] (spP2 K SumOkG AlOne.add) := by
  refine T.d_poly_sum.F.ok sc_poly_sum (fun vs H Q E h => ?_) (fun cdv A outer s H vs Q E hr h => ?_)
  · obtain ⟨a, b, p, q, rfl, _⟩ := h
    rfl
  · obtain ⟨a, b, p, q, rfl, hp, hq, ⟨fp, lp, lq⟩, k⟩ := h
    obtain ⟨ws, hws, hwR⟩ := id hp
    obtain ⟨us, hus, huR⟩ := id hq
    refine ⟨_, pss_cons (ps_set (i := 2) sc_poly_sum.nd rfl (.inl rfl) (pe_callB (call_max2 rfl) (by rfl) T.z_max boot_max (pa_cons (pe_callB call_len_seq (by rfl) T.z_len PySem.boot_len (pa_cons (pv 0) pa_nil)) (pa_cons (pe_callB call_len_seq (by rfl) T.z_len PySem.boot_len (pa_cons (pv 1) pa_nil)) pa_nil))))
      (pss_one (ps_ret (pe_D T.d_trimmed (ok_trimmed T) hr (pa_cons
        (pe_lc (own := [("power", 3)]) (g := gName 3) (tt := tYes) rfl sc_poly_sum.nd (pi_range1 (by rfl) T.z_range (pa_cons (pv 2) pa_nil)) (blkOk_by (N := n_poly_sum) (sc := defScope s_poly_sum) (by decide +kernel)) (fun _ _ _ _ _ => pg_name (i := 3) sc_poly_sum.nd rfl (Or.inl rfl)) (fun _ _ _ _ _ => pts_nil)
          (fun _ _ _ _ _ => pe_D T.d_ratio_sum (ok_ratio_sumG T) hr (pa_cons (pe_D T.d_number_at (ok_number_at T) hr (pa_cons (pv 0) (pa_cons (pv 3) pa_nil))) (pa_cons (pe_D T.d_number_at (ok_number_at T) hr (pa_cons (pv 1) (pa_cons (pv 3) pa_nil))) pa_nil)))) pa_nil)))), ?_⟩
    refine ⟨_, rfl, a, ws, rfl, .inl (SqL.of hws), _, rfl, b, us, rfl, .inl (SqL.of hus), _, _, rfl, ?_⟩
    have hn : (if (us.length : Int) > (ws.length : Int) then (us.length : Int) else (ws.length : Int)) = ((max p.length q.length : Nat) : Int) := by
      rw [hwR.len, huR.len]; split <;> omega
    rw [hn]
    refine ⟨_, rfl, _, rfl, (by omega), (by omega), fun D nD => ?_⟩
    refine lc_range (lo := 0) (n := ((max p.length q.length : Nat) : Int).toNat) (fun i H' => Same H H' ∧ PolV K H' D ((List.range i).map fun j => Ma.co p j + Ma.co q j) ) ?_ ?_ ?_
    · exact ⟨same_upd nD, [], upd_same, trivial⟩
    · rintro i H' hi ⟨sm, acc, hD, hacc⟩
      refine ⟨rfl, _, rfl, _, rfl, a, p, i, ?_, hp.same sm, fun x hx => ?_⟩
      · show [V.ref a, V.int (0 + (i : Int))] = _
        rw [Int.zero_add]
      · refine ⟨_, rfl, _, rfl, b, q, i, ?_, hq.same sm, fun y hy => ?_⟩
        · show [V.ref b, V.int (0 + (i : Int))] = _
          rw [Int.zero_add]
        · refine ⟨x, y, _, _, rfl, hx, hy, fp i, fun H2 v sm2 hv => ?_⟩
          refine ⟨acc, sm2 _ _ hD, ?_, ?_, ?_⟩
          · rw [hacc.len, List.length_map, List.length_range]
            exact small1000 (by omega)
          · intro b' o e
            rw [upd_ne (ne_of_none e nD)]
            exact sm2 _ _ (sm _ _ e)
          · refine ⟨_, upd_same, ?_⟩
            rw [List.range_succ, List.map_append]
            exact ((hacc.same sm2).snoc hv).updL (sm2 _ _ hD)
    · rintro H' ⟨sm, hD⟩
      refine ⟨D, _, rfl, hD, fun H2 r sm2 nr hr' => k H2 r (sm.trans sm2) (sm.free nr) ?_⟩
      rw [add_map p q (by omega)] at hr'
      exact hr'
theorem ok_poly_sum (T : Txt K mg) : FnOk P w K mg base CX0 4 T.f_poly_sum T.e_poly_sum ["p", "q"] (spP2 K SumOk AlOne.add) := (ok_poly_sumG T).imp (spP2.imp fun _ _ h => ⟨fun i => Fit2.sum ⟨h.1.co i, h.2.1.co i⟩, h.2.2.1, h.2.2.2⟩)
end
end W
set_option maxRecDepth 100000
namespace W
open PySem PySem.Spec PyProof.Rows L2
/-- for i, x in enumerate(xs) -/
theorem for_enum {K : PySem.W.Frag} {a : Addr} {xs : List V} {g : TG} {tb : TS} {D : Ends} {σ : L2.St} {H : Hp} (Pv : Nat → L2.St → Hp → Prop) (h0 : Pv 0 σ H) (hl : ∀ i σ H, i ≤ xs.length → Pv i σ H → SqL K H a xs)
    (hs : ∀ i x σ H t, xs[i]? = some x → Pv i σ H → H t = none → g (.ref t) σ (upd H t (.tup [.int (i : Nat), x])) fun σ2 H2 => tb { D with nx := Pv (i + 1), ct := Pv (i + 1), bk := D.nx } σ2 H2) (hd : ∀ σ H, Pv xs.length σ H → D.nx σ H) :
    ∃ W : Nat → Nat → L2.St → Hp → Prop, (∃ m, W 0 m σ H) ∧ ∀ i m σ H, W i m σ H →
      ((Ite K a).stop i H ∧ D.nx σ H) ∨ ((Ite K a).go i H ∧ ∃ N : L2.St → Hp → Prop, (∀ σ' H', N σ' H' → ∃ m', m' < m ∧ W (i + 1) m' σ' H') ∧ ∀ x H', (Ite K a).yld i H x H' → g x σ H' fun σ2 H2 => tb { D with nx := N, ct := N, bk := D.nx } σ2 H2) := by
  refine ⟨fun i m σ H => m = xs.length - i ∧ i ≤ xs.length ∧ Pv i σ H, ⟨xs.length, by simp, Nat.zero_le _, h0⟩, ?_⟩
  rintro i m σ H ⟨rfl, hi, p⟩
  have q := hl i σ H hi p
  by_cases hlt : i < xs.length
  · refine .inr ⟨⟨xs, xs[i], q, by simp [hlt]⟩, Pv (i + 1), fun σ' H' p' => ⟨xs.length - (i + 1), by omega, rfl, hlt, p'⟩, fun x H' y => ?_⟩
    obtain ⟨t, z, rfl, nt, rfl, hz⟩ := y
    exact hs i z σ H t (hz xs q) p nt
  · have e : i = xs.length := by omega
    subst e
    exact .inl ⟨⟨xs, q, Nat.le_refl _⟩, hd σ H p⟩

theorem set_range_map {A : Type} (f : Nat → A) (n k : Nat) (v : A) : ((List.range n).map f).set k v = (List.range n).map fun x => if x = k then v else f x := by
  apply List.ext_getElem
  · simp
  · intro i h1 h2
    simp only [List.length_set, List.length_map, List.length_range] at h1
    rw [List.getElem_set]
    simp only [List.getElem_map, List.getElem_range]
    by_cases h : k = i
    · rw [if_pos h, if_pos h.symm]
    · rw [if_neg h, if_neg (fun e => h e.symm)]
theorem ixN_nat {n j : Nat} (h : j < n) : ixN n (j : Int) = some j := by
  unfold ixN
  rw [if_pos (by omega), if_pos (by omega)]; simp
section
variable {P : Program} {w : World} {K : PySem.W.Frag} {mg : Str → Option Value} {base : Heap}
/-- of a list of numbers: a new one -/
def spP1 (K : PySem.W.Frag) (C : List Rat → Prop) (g : List Rat → List Rat) : Sp := fun vs H Q _ => ∃ (a : Addr) (p : List Rat), vs = [.ref a] ∧ PolV K H a p ∧ C p ∧
  ∀ H' r, Same H H' → H r = none → PolV K H' r (g p) → Q (.ref r) H'
theorem ok_poly_minus (T : Txt K mg) : FnOk P w K mg base CX0 2 T.f_poly_minus T.e_poly_minus ["p"] (spP1 K (fun p => p.length ≤ 1000) (fun p => p.map fun c => -c)) := by
  refine T.d_poly_minus.F.ok sc_poly_minus (fun vs H Q E h => ?_) (fun cdv A outer s H vs Q E hr h => ?_)
  · obtain ⟨a, p, rfl, _⟩ := h
    rfl
  · obtain ⟨a, p, rfl, hp, lp, k⟩ := h
    obtain ⟨ws, hws, hwR⟩ := id hp
    refine ⟨_, pss_one (ps_ret (pe_lc (own := [("number", 1)]) (g := gName 1) (tt := tYes) rfl sc_poly_minus.nd (pi_list (pv 0)) (blkOk_by (N := n_poly_minus) (sc := defScope s_poly_minus) (by decide +kernel)) (fun _ _ _ _ _ => pg_name (i := 1) sc_poly_minus.nd rfl (Or.inl rfl)) (fun _ _ _ _ _ => pts_nil)
          (fun _ _ _ _ _ => pe_D T.d_ratio_minus (ok_ratio_minus T) hr (pa_cons (pv 1) pa_nil)))), ?_⟩
    refine ⟨_, rfl, a, rfl, ⟨ws, SqL.of hws⟩, fun D nD => ?_⟩
    refine lc_list (K := K) (a := a) (xs := ws) (fun i H' => Same H H' ∧ PolV K H' D ((p.take i).map fun c => -c)) ⟨same_upd nD, [], upd_same, trivial⟩ (fun i H' _ h => SqL.of (h.1 _ _ hws)) ?_ ?_
    · rintro i x H' hx ⟨sm, acc, hD, hacc⟩
      obtain ⟨c, hc, hv⟩ := hwR.get hx
      refine ⟨rfl, _, rfl, x, c, rfl, hv.same sm, fun H2 v sm2 hv2 => ⟨acc, sm2 _ _ hD, ?_, ?_, ?_⟩⟩
      · rw [hacc.len, List.length_map, List.length_take]
        exact small1000 (by omega)
      · intro b' o e
        rw [upd_ne (ne_of_none e nD)]
        exact sm2 _ _ (sm _ _ e)
      · refine ⟨_, upd_same, ?_⟩
        rw [List.take_add_one, hc, List.map_append]
        exact ((hacc.same sm2).snoc hv2).updL (sm2 _ _ hD)
    · rintro H' ⟨sm, hD⟩
      rw [hwR.len, List.take_length] at hD
      exact k H' D sm nD hD
def TopOk (p : List Rat) : Prop := AllFit p ∧ p.length ≤ 1000 ∧ (p ≠ [] → AlOne.lead p ≠ 0)
/-- each by the last one -/
def TopG (p : List Rat) : Prop := p.length ≤ 1000 ∧ ∀ c ∈ p, DivC c (AlOne.lead p)
theorem last_of {K : PySem.W.Frag} {H : Hp} {ws : List V} {p : List Rat} (h : Rats K H ws p) (hne : p ≠ []) : ∃ u, atI ws (-1) = some u ∧ RatV K H u (AlOne.lead p) := by
  rcases List.eq_nil_or_concat p with h0 | ⟨m, c, h0⟩
  · exact absurd h0 hne
  · rw [List.concat_eq_append] at h0
    obtain ⟨u, hu1, hu2⟩ := h.at (i := m.length) (c := c) (by rw [h0]; simp)
    have hlen : ws.length = m.length + 1 := by rw [h.len, h0]; simp
    have hlast : ws = ws.dropLast ++ [u] := by
      have hne : ws ≠ [] := by intro e0; rw [e0] at hlen; simp at hlen
      have e1 := (List.dropLast_concat_getLast hne).symm
      rw [List.getLast_eq_getElem] at e1
      have e2 : ws[ws.length - 1]'(by omega) = u := by
        obtain ⟨h1, h2⟩ := List.getElem?_eq_some_iff.mp hu1
        rw [← h2]; congr 1; omega
      rw [e2] at e1; exact e1
    refine ⟨u, by rw [hlast]; exact atI_last _ _, ?_⟩
    have : AlOne.lead p = c := by rw [h0]; unfold AlOne.lead; simp
    rw [this]; exact hu2
theorem lead_mem {p : List Rat} (h : p ≠ []) : AlOne.lead p ∈ p := by
  rcases List.eq_nil_or_concat p with h0 | ⟨m, c, h0⟩
  · exact absurd h0 h
  · rw [List.concat_eq_append] at h0
    have : AlOne.lead p = c := by rw [h0]; unfold AlOne.lead; simp
    rw [this, h0]; simp
theorem ok_with_one_on_topG (T : Txt K mg) : FnOk P w K mg base CX0 4 T.f_with_one_on_top T.e_with_one_on_top ["p"] (spP1 K TopG (fun p => p.map fun c => c / AlOne.lead p)) := by
  refine T.d_with_one_on_top.F.ok sc_with_one_on_top (fun vs H Q E h => ?_) (fun cdv A outer s H vs Q E hr h => ?_)
  · obtain ⟨a, p, rfl, _⟩ := h
    rfl
  · obtain ⟨a, p, rfl, hp, ⟨lp, tp⟩, k⟩ := h
    obtain ⟨ws, hws, hwR⟩ := id hp
    refine ⟨_, pss_one (ps_ret (pe_lc (own := [("number", 1)]) (g := gName 1) (tt := tYes) rfl sc_with_one_on_top.nd (pi_list (pv 0)) (blkOk_by (N := n_with_one_on_top) (sc := defScope s_with_one_on_top) (by decide +kernel)) (fun _ _ _ _ _ => pg_name (i := 1) sc_with_one_on_top.nd rfl (Or.inl rfl)) (fun _ _ _ _ _ => pts_nil)
          (fun _ _ _ _ _ => pe_D T.d_ratio_quotient (ok_ratio_quotientG T) hr (pa_cons (pv 1) (pa_cons (pe_ix (show IxR _ (rIxL K) from ix_list) (pv 0) (pe_un un_neg pe_int) (fun _ _ => rfl)) pa_nil))))), ?_⟩
    refine ⟨_, rfl, a, rfl, ⟨ws, SqL.of hws⟩, fun D nD => ?_⟩
    refine lc_list (K := K) (a := a) (xs := ws) (fun i H' => Same H H' ∧ PolV K H' D ((p.take i).map fun c => c / AlOne.lead p)) ⟨same_upd nD, [], upd_same, trivial⟩ (fun i H' _ h => SqL.of (h.1 _ _ hws)) ?_ ?_
    · rintro i x H' hx ⟨sm, acc, hD, hacc⟩
      obtain ⟨c, hc, hv⟩ := hwR.get hx
      have hne : p ≠ [] := by intro e; rw [e] at hc; simp at hc
      obtain ⟨u, hu1, hu2⟩ := last_of hwR hne
      refine ⟨rfl, _, rfl, _, rfl, 1, rfl, a, ws, -1, u, rfl, rfl, SqL.of (sm _ _ hws), hu1, x, u, c, _, rfl, hv.same sm, hu2.same sm, tp c (List.mem_of_getElem? hc), fun H2 v sm2 hv2 => ⟨acc, sm2 _ _ hD, ?_, ?_, ?_⟩⟩
      · rw [hacc.len, List.length_map, List.length_take]
        exact small1000 (by omega)
      · intro b' o e
        rw [upd_ne (ne_of_none e nD)]
        exact sm2 _ _ (sm _ _ e)
      · refine ⟨_, upd_same, ?_⟩
        rw [List.take_add_one, hc, List.map_append]
        exact ((hacc.same sm2).snoc hv2).updL (sm2 _ _ hD)
    · rintro H' ⟨sm, hD⟩
      rw [hwR.len, List.take_length] at hD
      exact k H' D sm nD hD
theorem spP1.imp {K : PySem.W.Frag} {C C' : List Rat → Prop} {g : List Rat → List Rat} (hC : ∀ a, C' a → C a) (vs : List V) (H : Hp) (Q : VK) (E : XK) (h : spP1 K C' g vs H Q E) : spP1 K C g vs H Q E := by
  obtain ⟨x, a, h1, h2, h3, h4⟩ := h
  exact ⟨x, a, h1, h2, hC _ h3, h4⟩
theorem TopOk.gen {p : List Rat} (h : TopOk p) : TopG p := ⟨h.2.1, fun c hc => by
  have hne : p ≠ [] := by intro e; rw [e] at hc; cases hc
  exact Fit2.div ⟨h.1 c hc, h.1 _ (lead_mem hne)⟩ (h.2.2 hne)⟩
theorem ok_with_one_on_top (T : Txt K mg) : FnOk P w K mg base CX0 4 T.f_with_one_on_top T.e_with_one_on_top ["p"] (spP1 K TopOk (fun p => p.map fun c => c / AlOne.lead p)) := (ok_with_one_on_topG T).imp (spP1.imp fun _ h => h.gen)
end
end W
set_option maxRecDepth 100000
namespace W
open PySem PySem.Spec PyProof.Rows L2
theorem flat_rep {A : Type} (z : A) : ∀ n : Nat, (List.replicate n [z]).flatten = List.replicate n z
  | 0 => rfl
  | n + 1 => by rw [List.replicate_succ, List.flatten_cons, flat_rep z n]; rfl
theorem PolV.tup {K : PySem.W.Frag} {H : Hp} {a t : Addr} {l : List Rat} {o : HO} (h : PolV K H a l) (nt : H t = none) : PolV K (upd H t o) a l := h.same (same_upd nt)
theorem range_get {A : Type} (f : Nat → A) {n k : Nat} (h : k < n) : ((List.range n).map f)[k]? = some (f k) := by simp [h]
/-- sizes for a product -/
def ProdOk (p q : List Rat) : Prop := p.length ≤ 400 ∧ q.length ≤ 400 ∧ ∃ D E a b : Nat, 0 < D ∧ 0 < E ∧ D ≤ 2 ^ 2200 ∧ E ≤ 2 ^ 2200 ∧ Ma.HtL p D a ∧ Ma.HtL q E b ∧ a + b + p.length + 1 ≤ LIM ∧ a ≤ LIM ∧ b ≤ LIM
theorem ProdOk.fits {p q : List Rat} (h : ProdOk p q) : AllFit p ∧ AllFit q ∧ ∀ i j k, i ≤ p.length → Fits LIM (Ma.PV p q i j k) := by
  obtain ⟨_, _, D, E, a, b, hD, hE, hD2, hE2, hp, hq, h1, h2, h3⟩ := h
  have hDE : D * E ≤ 2 ^ LIM := by
    have := Nat.mul_le_mul hD2 hE2
    rw [← Nat.pow_add] at this
    exact this
  refine ⟨fun c hc => ?_, fun c hc => ?_, fun i j k hi => ?_⟩
  · exact Ma.htL_num hp hD (Nat.le_trans hD2 (Nat.pow_le_pow_right (by omega) (by decide))) h2 c hc
  · exact Ma.htL_num hq hE (Nat.le_trans hE2 (Nat.pow_le_pow_right (by omega) (by decide))) h3 c hc
  · obtain ⟨y, e, by'⟩ := Ma.PV_htL hp hq i j k hi
    exact Ma.num_den_le (Nat.mul_pos hD hE) hDE e (by'.mono h1)
theorem ProdOk.prod {p q : List Rat} (h : ProdOk p q) (i j : Nat) : Fits LIM (Ma.co p i * Ma.co q j) := by
  obtain ⟨_, _, D, E, a, b, hD, hE, hD2, hE2, hp, hq, h1, h2, h3⟩ := h
  have hDE : D * E ≤ 2 ^ LIM := by
    have := Nat.mul_le_mul hD2 hE2
    rw [← Nat.pow_add] at this
    exact this
  obtain ⟨y, e, by'⟩ := hp i
  obtain ⟨y2, e2, by2⟩ := hq j
  refine Ma.num_den_le (y := y * y2) (Nat.mul_pos hD hE) hDE ?_ ((by'.mul by2).mono (by omega))
  rw [Rat.intCast_mul, ← e, ← e2, Rat.natCast_mul]; grind
section
variable {P : Program} {w : World} {K : PySem.W.Frag} {mg : Str → Option Value} {base : Heap}
def ProdOkG (p q : List Rat) : Prop := p.length ≤ 400 ∧ q.length ≤ 400 ∧ ∀ i j c d, p[i]? = some c → q[j]? = some d → MulC c d ∧ SumC (Ma.PV p q i j (i + j)) (c * d)
theorem ProdOk.gen {p q : List Rat} (ok : ProdOk p q) : ProdOkG p q := by
  obtain ⟨fp, fq, fPV⟩ := ok.fits
  refine ⟨ok.1, ok.2.1, fun i j c d hc hd => ⟨Fit2.mul ⟨fp _ (List.mem_of_getElem? hc), fq _ (List.mem_of_getElem? hd)⟩, Fit2.sum ⟨fPV i j _ (Nat.le_of_lt (List.getElem?_eq_some_iff.mp hc).1), ?_⟩⟩⟩
  have := ok.prod i j
  rw [co_of hc, co_of hd] at this; exact this
theorem ok_poly_productG (T : Txt K mg) : FnOk P w K mg base CX0 4 T.f_poly_product T.e_poly_product ["p", "q"] (spP2 K ProdOkG AlOne.mul) := by
  refine T.d_poly_product.F.ok sc_poly_product (fun vs H Q E h => ?_) (fun cdv A outer s H vs Q E hr h => ?_)
  · obtain ⟨a, b, p, q, rfl, _⟩ := h
    rfl
  · obtain ⟨a, b, p, q, rfl, hp, hq, ok, k⟩ := h
    obtain ⟨lp, lq, okC⟩ := id ok
    obtain ⟨ws, hws, hwR⟩ := id hp
    obtain ⟨us, hus, huR⟩ := id hq
    refine ⟨_, pss_cons (ps_set (i := 2) sc_poly_product.nd rfl (.inl rfl) (pe_op op_rep (pe_lst (pa_cons (pe_glob (v := .ref T.a_ZERO) (by rfl) T.g_ZERO rfl) pa_nil))
        (pe_op op_add (pe_callB call_len_seq (by rfl) T.z_len PySem.boot_len (pa_cons (pv 0) pa_nil)) (pe_callB call_len_seq (by rfl) T.z_len PySem.boot_len (pa_cons (pv 1) pa_nil)))))
      (pss_cons (ps_for PassesOwn.never rfl (pi_enum (by rfl) T.z_enumerate (pa_cons (pv 0) pa_nil)) (pg_tup rfl (pgs_cons (pg_name (i := 3) sc_poly_product.nd rfl (.inl rfl)) (pgs_cons (pg_name (i := 4) sc_poly_product.nd rfl (.inl rfl)) pgs_nil)))
        (pss_one (ps_for PassesOwn.never rfl (pi_enum (by rfl) T.z_enumerate (pa_cons (pv 1) pa_nil)) (pg_tup rfl (pgs_cons (pg_name (i := 5) sc_poly_product.nd rfl (.inl rfl)) (pgs_cons (pg_name (i := 6) sc_poly_product.nd rfl (.inl rfl)) pgs_nil)))
          (pss_one (ps_asg (pe_D T.d_ratio_sum (ok_ratio_sumG T) hr (pa_cons (pe_ix ix_list (pv 2) (pe_op op_add (pv 3) (pv 5)) (fun _ _ => rfl)) (pa_cons (pe_D T.d_ratio_product (ok_ratio_productG T) hr (pa_cons (pv 4) (pa_cons (pv 6) pa_nil))) pa_nil)))
            (pg_sub (pv 2) (pe_op op_add (pv 3) (pv 5)) set_list))))))
      (pss_one (ps_ret (pe_D T.d_trimmed (ok_trimmed T) hr (pa_cons (pv 2) pa_nil))))), ?_⟩
    -- result = [ZERO] * (len(p) + len(q))
    refine ⟨(by show 1 ≤ sizeLine; decide), fun z nz => ?_⟩
    have s1 : Same H (upd H z (.lst [.ref T.a_ZERO])) := same_upd nz
    have hn : (ws.length : Int) + (us.length : Int) = ((p.length + q.length : Nat) : Int) := by rw [hwR.len, huR.len]; omega
    refine ⟨_, rfl, a, ws, rfl, .inl (SqL.of (s1 _ _ hws)), _, rfl, b, us, rfl, .inl (SqL.of (s1 _ _ hus)), _, _, rfl, rfl, z, _, _, rfl, rfl, upd_same, (by omega), (by omega), ?_, fun r nr => ?_⟩
    · show [V.ref T.a_ZERO].length * _ ≤ sizeLine
      rw [hn]
      have : (1000 : Nat) ≤ sizeLine := by decide
      simp; omega
    rw [hn, flat_rep]
    have s2 := same_upd (o := .lst (List.replicate ((p.length + q.length : Nat) : Int).toNat (V.ref T.a_ZERO))) nr
    have s12 : Same H _ := s1.trans s2
    have nrH : H r = none := s1.free nr
    generalize hH2 : upd (upd H z (.lst [.ref T.a_ZERO])) r (.lst (List.replicate ((p.length + q.length : Nat) : Int).toNat (V.ref T.a_ZERO))) = H2 at s2 s12
    have hR0 : PolV K H2 r ((List.range (p.length + q.length)).map fun x => Ma.PV p q 0 0 x) := by
      refine ⟨List.replicate (p.length + q.length) (V.ref T.a_ZERO), by rw [← hH2, upd_same]; rfl, ?_⟩
      have : ((List.range (p.length + q.length)).map fun x => Ma.PV p q 0 0 x) = List.replicate (p.length + q.length) 0 := by
        apply List.ext_getElem
        · simp
        · intro i h1 h2; simp [Ma.PV_zero]
      rw [this]
      exact Rats.replicate (T.zero H2) _
    -- for low, left in enumerate(p)
    refine ⟨_, rfl, a, ws, rfl, SqL.of (s12 _ _ hws), ?_⟩
    refine for_enum (K := K) (a := a) (xs := ws) (fun i σ H' => ∃ y3 y4 y5 y6, σ = [some (.ref a), some (.ref b), some (.ref r), y3, y4, y5, y6] ∧ Same H H' ∧ PolV K H' r ((List.range (p.length + q.length)).map fun x => Ma.PV p q i 0 x))
      ⟨none, none, none, none, rfl, s12, hR0⟩ (fun i σ H' _ h => by obtain ⟨_, _, _, _, _, sm, _⟩ := h; exact SqL.of (sm _ _ hws)) ?_ ?_
    · rintro i x σ H' t hx ⟨y3, y4, y5, y6, rfl, sm, hR⟩ nt
      obtain ⟨c, hc, hv⟩ := hwR.get hx
      have hi : i < p.length := (List.getElem?_eq_some_iff.mp hc).1
      have st := same_upd (o := .tup [.int (i : Nat), x]) nt
      refine ⟨t, _, rfl, SqT.of upd_same, rfl, _, _, rfl, _, _, rfl, rfl, ?_⟩
      have sm1 := sm.trans st
      have hR1 := hR.same st
      generalize upd H' t (.tup [.int (i : Nat), x]) = H1 at sm1 hR1
      refine ⟨_, rfl, b, us, rfl, SqL.of (sm1 _ _ hus), ?_⟩
      refine for_enum (K := K) (a := b) (xs := us) (fun j σ H' => ∃ y5 y6, σ = [some (.ref a), some (.ref b), some (.ref r), some (.int (i : Nat)), some x, y5, y6] ∧ Same H H' ∧ PolV K H' r ((List.range (p.length + q.length)).map fun x => Ma.PV p q i j x))
        ⟨_, _, rfl, sm1, hR1⟩ (fun i σ H' _ h => by obtain ⟨_, _, _, sm, _⟩ := h; exact SqL.of (sm _ _ hus)) ?_ ?_
      · rintro j y σ H3 t2 hy ⟨z5, z6, rfl, sm3, hR3⟩ nt2
        obtain ⟨d, hd, hv2⟩ := huR.get hy
        have hj : j < q.length := (List.getElem?_eq_some_iff.mp hd).1
        have st2 := same_upd (o := .tup [.int (j : Nat), y]) nt2
        refine ⟨t2, _, rfl, SqT.of upd_same, rfl, _, _, rfl, _, _, rfl, rfl, ?_⟩
        have sm4 := sm3.trans st2
        have hR4 := hR3.same st2
        generalize upd H3 t2 (.tup [.int (j : Nat), y]) = H4 at sm4 hR4
        obtain ⟨rs, hrs, hrR⟩ := hR4
        obtain ⟨u, hu, huv⟩ := hrR.at (range_get (fun x => Ma.PV p q i j x) (show i + j < p.length + q.length by omega))
        have hij : ((i : Nat) : Int) + ((j : Nat) : Int) = ((i + j : Nat) : Int) := by omega
        refine ⟨_, rfl, _, rfl, _, rfl, _, _, rfl, rfl, r, rs, _, u, rfl, rfl, SqL.of hrs, by rw [hij]; exact atI_nat hu, ?_⟩
        refine ⟨_, rfl, _, rfl, x, y, c, d, rfl, hv.same sm4, hv2.same sm4, (okC i j c d hc hd).1, fun H5 v5 s5 hv5 => ?_⟩
        refine ⟨u, v5, _, _, rfl, huv.same s5, hv5, (okC i j c d hc hd).2, fun H6 v6 s6 hv6 => ?_⟩
        have hrs6 : H6 r = some (.lst rs) := s6 _ _ (s5 _ _ hrs)
        refine ⟨_, rfl, _, rfl, _, rfl, _, _, rfl, rfl, r, rs, _, i + j, rfl, rfl, hrs6, ?_, ?_⟩
        · rw [hij]; exact ixN_nat (by rw [hrR.len]; simp; omega)
        · refine ⟨_, _, rfl, fun b' o e => ?_, _, upd_same, ?_⟩
          · rw [upd_ne (ne_of_none e nrH)]
            exact s6 _ _ (s5 _ _ (sm4 _ _ e))
          · have e1 : ((List.range (p.length + q.length)).map fun x => Ma.PV p q i (j + 1) x) = ((List.range (p.length + q.length)).map fun x => Ma.PV p q i j x).set (i + j) (Ma.PV p q i j (i + j) + c * d) := by
              rw [set_range_map]
              refine List.map_congr_left fun x _ => ?_
              rw [Ma.PV_inner, co_of hc, co_of hd]
            rw [e1]
            exact (((hrR.same s5).same s6).set hv6).updL hrs6
      · rintro σ H3 ⟨z5, z6, rfl, sm3, hR3⟩
        refine ⟨_, _, _, _, rfl, sm3, ?_⟩
        have e1 : ((List.range (p.length + q.length)).map fun x => Ma.PV p q (i + 1) 0 x) = ((List.range (p.length + q.length)).map fun x => Ma.PV p q i us.length x) := by
          refine List.map_congr_left fun x _ => ?_
          rw [huR.len, Ma.PV_outer]
        rw [e1]; exact hR3
    · rintro σ H' ⟨y3, y4, y5, y6, rfl, sm, hR⟩
      refine ⟨_, rfl, r, _, rfl, hR, fun H3 r3 s3 n3 h3 => k H3 r3 (sm.trans s3) (sm.free n3) ?_⟩
      rw [hwR.len, Ma.mul_map p q rfl] at h3
      exact h3
theorem ok_poly_product (T : Txt K mg) : FnOk P w K mg base CX0 4 T.f_poly_product T.e_poly_product ["p", "q"] (spP2 K ProdOk AlOne.mul) := (ok_poly_productG T).imp (spP2.imp fun _ _ h => h.gen)
end
end W
set_option maxRecDepth 100000
namespace W
open PySem PySem.Spec PyProof.Rows L2
/-- within a turn: j inner turns are done -/
def RI (p q : List Rat) (N t j k : Nat) : Rat := if N - 1 - t ≤ k ∧ k < N - 1 - t + j then Ma.RS p q N t k - Ma.fct p q N t * Ma.co q (k - (N - 1 - t)) else Ma.RS p q N t k
theorem RI_zero (p q : List Rat) (N t k : Nat) : RI p q N t 0 k = Ma.RS p q N t k := by unfold RI; rw [if_neg (by omega)]
theorem RI_last (p q : List Rat) (N t k : Nat) : RI p q N t q.length k = Ma.RS p q N (t + 1) k := rfl
theorem RI_at (p q : List Rat) (N t j : Nat) : RI p q N t j (N - 1 - t + j) = Ma.RS p q N t (N - 1 - t + j) := by unfold RI; rw [if_neg (by omega)]
theorem RI_step (p q : List Rat) (N t j k : Nat) : RI p q N t (j + 1) k = if k = N - 1 - t + j then RI p q N t j (N - 1 - t + j) + (-(Ma.fct p q N t * Ma.co q j)) else RI p q N t j k := by
  by_cases h : k = N - 1 - t + j
  · rw [if_pos h, RI_at]
    unfold RI
    rw [if_pos (by omega), h, show N - 1 - t + j - (N - 1 - t) = j by omega]; grind
  · rw [if_neg h]
    unfold RI
    by_cases h2 : N - 1 - t ≤ k ∧ k < N - 1 - t + j
    · rw [if_pos h2, if_pos (by omega)]
    · rw [if_neg h2, if_neg (by omega)]
theorem QL_step {p q : List Rat} {N t : Nat} (ht : t < N) : Ma.QL p q N (t + 1) = (Ma.QL p q N t).set (N - 1 - t) (Ma.fct p q N t) := by
  unfold Ma.QL
  rw [set_range_map]
  refine List.map_congr_left fun i hi => ?_
  rw [List.mem_range] at hi
  by_cases h : i = N - 1 - t
  · rw [if_pos (by omega), if_pos h, show N - 1 - i = t by omega]
  · rw [if_neg h]
    by_cases h2 : N - t ≤ i
    · rw [if_pos h2, if_pos (by omega)]
    · rw [if_neg h2, if_neg (by omega)]
theorem Fits.neg {n : Nat} {c : Rat} (h : Fits n c) : Fits n (-c) := by
  unfold Fits at *
  rw [Rat.neg_num, Rat.neg_den, Int.natAbs_neg]; exact h
/-- sizes for a division -/
structure DivOk (p q : List Rat) : Prop where
  tp : Ma.Tr p
  tq : Ma.Tr q
  ne : q ≠ []
  lp : p.length ≤ 400
  lq : q.length ≤ 400
  sz : ∃ a b, Ma.HtP p a ∧ Ma.HtP q b ∧ a + (p.length + 1 - q.length) * (b + 1) ≤ LIM ∧ b ≤ LIM
/-- what the steps of a division ask -/
structure DivG (p q : List Rat) : Prop where
  tp : Ma.Tr p
  tq : Ma.Tr q
  ne : q ≠ []
  lp : p.length ≤ 400
  lq : q.length ≤ 400
  c1 : ∀ t, t < p.length + 1 - q.length → DivC (Ma.RS p q (p.length + 1 - q.length) t (p.length + 1 - q.length - 1 - t + q.length - 1)) (AlOne.lead q)
  c2 : ∀ t j, t < p.length + 1 - q.length → j < q.length → MulC (Ma.fct p q (p.length + 1 - q.length) t) (Ma.co q j)
  c3 : ∀ t j, t < p.length + 1 - q.length → j < q.length → SumC (Ma.RS p q (p.length + 1 - q.length) t (p.length + 1 - q.length - 1 - t + j)) (-(Ma.fct p q (p.length + 1 - q.length) t * Ma.co q j))
theorem div_both {p q : List Rat} (h : DivG p q) : AlOne.divMod p q = (AlOne.trim (Ma.QL p q (p.length + 1 - q.length) (p.length + 1 - q.length)), AlOne.trim (Ma.RL p q (p.length + 1 - q.length) (p.length + 1 - q.length))) := by
  have hl := Ma.lead_ne h.tq h.ne
  have hq := Ma.pos_len h.ne
  by_cases hlt : p.length < q.length
  · rw [Ma.div_short h.tp h.tq hlt, show p.length + 1 - q.length = 0 by omega]
    have e : Ma.RL p q 0 0 = p := by
      unfold Ma.RL
      apply List.ext_getElem
      · simp
      · intro i h1 h2
        simp only [List.length_map, List.length_range] at h1
        simp only [List.getElem_map, List.getElem_range]
        show Ma.co p i = _
        exact co_of (List.getElem?_eq_getElem h1)
    rw [e, h.tp]; rfl
  · exact Ma.div_done (by omega) h.ne hl h.tp h.tq
theorem DivOk.fit {p q : List Rat} (h : DivOk p q) : AllFit p ∧ AllFit q ∧ (∀ t k, t ≤ p.length + 1 - q.length → Fits LIM (Ma.RS p q (p.length + 1 - q.length) t k)) ∧
    ∀ t, t < p.length + 1 - q.length → Fits LIM (Ma.fct p q (p.length + 1 - q.length) t) ∧ ∀ j, Fits LIM (Ma.fct p q (p.length + 1 - q.length) t * Ma.co q j) := by
  obtain ⟨a, b, hp, hq, hs, hbl⟩ := h.sz
  have hl := Ma.lead_ne h.tq h.ne
  have up : ∀ {m : Nat} {c : Rat}, c.num.natAbs ≤ 2 ^ m ∧ c.den ≤ 2 ^ m → m ≤ LIM → Fits LIM c := fun hc hm => Fits.mono hc hm
  refine ⟨fun c hc => up (hp.num c hc) (by omega), fun c hc => up (hq.num c hc) hbl, ?_, ?_⟩
  · intro t k ht
    obtain ⟨D, hD, hDa, hpl⟩ := hp
    obtain ⟨E, hE, hEb, hql⟩ := hq
    obtain ⟨Dt, h1, h2, h3⟩ := Ma.RS_ht hD hE hpl hql hl hDa (N := p.length + 1 - q.length) t
    obtain ⟨y, e, by'⟩ := h3 k
    have : t * (b + 1) ≤ (p.length + 1 - q.length) * (b + 1) := Nat.mul_le_mul_right _ ht
    exact up (Ma.num_den_le h1 h2 e by') (by omega)
  · intro t ht
    obtain ⟨D, hD, hDa, hpl⟩ := hp
    obtain ⟨E, hE, hEb, hql⟩ := hq
    have f := Ma.fct_ht hD hE hpl hql hl hDa hEb (N := p.length + 1 - q.length) t
    have : (t + 1) * (b + 1) ≤ (p.length + 1 - q.length) * (b + 1) := Nat.mul_le_mul_right _ ht
    exact ⟨up (f 0).2 (by omega), fun j => up (f j).1 (by omega)⟩
theorem DivOk.gen {p q : List Rat} (h : DivOk p q) : DivG p q := by
  obtain ⟨fp, fq, fRS, fF⟩ := h.fit
  have hco : ∀ j, Fits LIM (Ma.co q j) := fun j => fq.co j
  refine ⟨h.tp, h.tq, h.ne, h.lp, h.lq, fun t ht => ?_, fun t j ht hj => ?_, fun t j ht hj => ?_⟩
  · exact Fit2.div ⟨fRS t _ (by omega), fq _ (lead_mem h.ne)⟩ (Ma.lead_ne h.tq h.ne)
  · exact Fit2.mul ⟨(fF t ht).1, hco j⟩
  · exact Fit2.sum ⟨fRS t _ (by omega), ((fF t ht).2 j).neg⟩
section
variable {P : Program} {w : World} {K : PySem.W.Frag} {mg : Str → Option Value} {base : Heap}
def spDiv (K : PySem.W.Frag) : Sp := fun vs H Q _ => ∃ (a b : Addr) (p q : List Rat), vs = [.ref a, .ref b] ∧ PolV K H a p ∧ PolV K H b q ∧ DivOk p q ∧
  ∀ H' t r1 r2, Same H H' → SqT K H' t [.ref r1, .ref r2] → H r1 = none → H r2 = none → PolV K H' r1 (AlOne.over p q) → PolV K H' r2 (AlOne.rest p q) → Q (.ref t) H'
def spDivG (K : PySem.W.Frag) : Sp := fun vs H Q _ => ∃ (a b : Addr) (p q : List Rat), vs = [.ref a, .ref b] ∧ PolV K H a p ∧ PolV K H b q ∧ DivG p q ∧
  ∀ H' t r1 r2, Same H H' → SqT K H' t [.ref r1, .ref r2] → H r1 = none → H r2 = none → PolV K H' r1 (AlOne.over p q) → PolV K H' r2 (AlOne.rest p q) → Q (.ref t) H'
theorem ok_poly_dividedG (T : Txt K mg) : FnOk P w K mg base CX0 4 T.f_poly_divided T.e_poly_divided ["p", "q"] (spDivG K) := by
  refine T.d_poly_divided.F.ok sc_poly_divided (fun vs H Q E h => ?_) (fun cdv A outer s H vs Q E hr h => ?_)
  · obtain ⟨a, b, p, q, rfl, _⟩ := h
    rfl
  · obtain ⟨a, b, p, q, rfl, hp, hq, ok, k⟩ := h
    have lp := ok.lp
    have lq := ok.lq
    have c1 := ok.c1
    have c2 := ok.c2
    have c3 := ok.c3
    have both := div_both ok
    obtain ⟨ws, hws, hwR⟩ := id hp
    obtain ⟨us, hus, huR⟩ := id hq
    have hqp := Ma.pos_len ok.ne
    have hwl := hwR.len
    have hul := huR.len
    refine ⟨_, pss_cons (ps_set (i := 2) sc_poly_divided.nd rfl (.inl rfl) (pe_callTy call_list_of (by rfl) T.z_list boot_list (pa_cons (pv 0) pa_nil)))
      (pss_cons (ps_set (i := 3) sc_poly_divided.nd rfl (.inl rfl) (pe_op op_rep (pe_lst (pa_cons (pe_glob (v := .ref T.a_ZERO) (by rfl) T.g_ZERO rfl) pa_nil))
        (pe_callB (call_max2 rfl) (by rfl) T.z_max boot_max (pa_cons (pe_op op_add (pe_op op_sub (pe_callB call_len_seq (by rfl) T.z_len PySem.boot_len (pa_cons (pv 0) pa_nil)) (pe_callB call_len_seq (by rfl) T.z_len PySem.boot_len (pa_cons (pv 1) pa_nil))) pe_int) (pa_cons pe_int pa_nil)))))
      (pss_cons (ps_for PassesOwn.never rfl (pi_range3 (by rfl) T.z_range (pa_cons (pe_op op_sub (pe_callB call_len_seq (by rfl) T.z_len PySem.boot_len (pa_cons (pv 0) pa_nil)) (pe_callB call_len_seq (by rfl) T.z_len PySem.boot_len (pa_cons (pv 1) pa_nil))) (pa_cons (pe_un un_neg pe_int) (pa_cons (pe_un un_neg pe_int) pa_nil)))) (pg_name (i := 4) sc_poly_divided.nd rfl (.inl rfl))
        (pss_cons (ps_set (i := 5) sc_poly_divided.nd rfl (.inl rfl) (pe_D T.d_ratio_quotient (ok_ratio_quotientG T) hr (pa_cons (pe_ix ix_list (pv 2) (pe_op op_sub (pe_op op_add (pv 4) (pe_callB call_len_seq (by rfl) T.z_len PySem.boot_len (pa_cons (pv 1) pa_nil))) pe_int) (fun _ _ => rfl)) (pa_cons (pe_ix ix_list (pv 1) (pe_un un_neg pe_int) (fun _ _ => rfl)) pa_nil))))
        (pss_cons (ps_asg (pv 5) (pg_sub (pv 3) (pv 4) set_list))
        (pss_one (ps_for PassesOwn.never rfl (pi_enum (by rfl) T.z_enumerate (pa_cons (pv 1) pa_nil)) (pg_tup rfl (pgs_cons (pg_name (i := 6) sc_poly_divided.nd rfl (.inl rfl)) (pgs_cons (pg_name (i := 7) sc_poly_divided.nd rfl (.inl rfl)) pgs_nil)))
          (pss_cons (ps_set (i := 8) sc_poly_divided.nd rfl (.inl rfl) (pe_D T.d_ratio_minus (ok_ratio_minus T) hr (pa_cons (pe_D T.d_ratio_product (ok_ratio_productG T) hr (pa_cons (pv 5) (pa_cons (pv 7) pa_nil))) pa_nil)))
          (pss_one (ps_asg (pe_D T.d_ratio_sum (ok_ratio_sumG T) hr (pa_cons (pe_ix ix_list (pv 2) (pe_op op_add (pv 4) (pv 6)) (fun _ _ => rfl)) (pa_cons (pv 8) pa_nil)))
            (pg_sub (pv 2) (pe_op op_add (pv 4) (pv 6)) set_list)))))))))
      (pss_one (ps_ret (pe_tup (pa_cons (pe_D T.d_trimmed (ok_trimmed T) hr (pa_cons (pv 3) pa_nil)) (pa_cons (pe_D T.d_trimmed (ok_trimmed T) hr (pa_cons (pv 2) pa_nil)) pa_nil))))))), ?_⟩
    generalize hNd : p.length + 1 - q.length = N at c1 c2 c3 both
    -- rest = list(p)
    refine ⟨_, rfl, a, ws, rfl, .inl (SqL.of hws), fun r nr => ?_⟩
    have s1 : Same H (upd H r (.lst ws)) := same_upd nr
    have hr1 : (upd H r (.lst ws)) r = some (.lst ws) := upd_same
    have hwR1 := hwR.same s1
    generalize upd H r (.lst ws) = H1 at s1 hr1 hwR1
    -- quotient = [ZERO] * max(..)
    refine ⟨(by show 1 ≤ sizeLine; decide), fun z nz => ?_⟩
    have s2 : Same H1 (upd H1 z (.lst [.ref T.a_ZERO])) := same_upd nz
    have hz2 : (upd H1 z (.lst [.ref T.a_ZERO])) z = some (.lst [.ref T.a_ZERO]) := upd_same
    generalize upd H1 z (.lst [.ref T.a_ZERO]) = H2 at s2 hz2
    have hn : (if (0 : Int) > (ws.length : Int) - (us.length : Int) + 1 then (0 : Int) else (ws.length : Int) - (us.length : Int) + 1) = ((N : Nat) : Int) := by
      rw [hwR.len, huR.len]; split <;> omega
    refine ⟨_, rfl, a, ws, rfl, .inl (SqL.of (s2 _ _ (s1 _ _ hws))), _, rfl, b, us, rfl, .inl (SqL.of (s2 _ _ (s1 _ _ hus))), _, _, rfl, rfl, _, _, rfl, rfl, _, _, rfl, z, _, _, rfl, rfl, hz2, ?_⟩
    rw [hn]
    refine ⟨by omega, by omega, ?_, fun c nc => ?_⟩
    · have : (1000 : Nat) ≤ sizeLine := by decide
      simp; omega
    rw [flat_rep]
    have s3 : Same H2 (upd H2 c (.lst (List.replicate ((N : Nat) : Int).toNat (V.ref T.a_ZERO)))) := same_upd nc
    have hc3 : (upd H2 c (.lst (List.replicate ((N : Nat) : Int).toNat (V.ref T.a_ZERO)))) c = some (.lst (List.replicate N (V.ref T.a_ZERO))) := upd_same
    generalize upd H2 c (.lst (List.replicate ((N : Nat) : Int).toNat (V.ref T.a_ZERO))) = H3 at s3 hc3
    have s13 : Same H H3 := s1.trans (s2.trans s3)
    have ncH : H c = none := s1.free (s2.free nc)
    have hr3 : H3 r = some (.lst ws) := s3 _ _ (s2 _ _ hr1)
    have hrc : r ≠ c := ne_of_none (s2 _ _ hr1) nc
    have hR0 : PolV K H3 r (Ma.RL p q N 0) := by
      refine ⟨ws, hr3, ?_⟩
      have e : Ma.RL p q N 0 = p := by
        unfold Ma.RL
        apply List.ext_getElem
        · simp
        · intro i h1 h2
          simp only [List.length_map, List.length_range] at h1
          simp only [List.getElem_map, List.getElem_range]
          show Ma.co p i = _
          exact co_of (List.getElem?_eq_getElem h1)
      rw [e]
      exact (hwR1.same s2).same s3
    have hQ0 : PolV K H3 c (Ma.QL p q N 0) := by
      refine ⟨_, hc3, ?_⟩
      have e : Ma.QL p q N 0 = List.replicate N 0 := by
        unfold Ma.QL
        apply List.ext_getElem
        · simp
        · intro i h1 h2
          simp only [List.length_map, List.length_range] at h1
          simp only [List.getElem_map, List.getElem_range, List.getElem_replicate]
          rw [if_neg (by omega)]
      rw [e]
      exact Rats.replicate (T.zero H3) _
    -- for shift in range(len(p) - len(q), -1, -1)
    refine ⟨_, rfl, a, ws, rfl, .inl (SqL.of (s13 _ _ hws)), _, rfl, b, us, rfl, .inl (SqL.of (s13 _ _ hus)), _, _, rfl, rfl, 1, rfl, 1, rfl, _, _, _, _, rfl, RgC.neg (by omega) (by omega) (by omega) (by omega), ?_⟩
    have hN2 : ((ws.length : Int) - (us.length : Int) - -1).toNat = N := by rw [hwR.len, huR.len]; omega
    rw [hN2]
    refine for_rangeC (n := N) (fun t σ H' => ∃ y4 y5 y6 y7 y8, σ = [some (.ref a), some (.ref b), some (.ref r), some (.ref c), y4, y5, y6, y7, y8] ∧ Same H H' ∧ PolV K H' r (Ma.RL p q N t) ∧ PolV K H' c (Ma.QL p q N t))
      ⟨none, none, none, none, none, rfl, s13, hR0, hQ0⟩ ?_ ?_
    · rintro t σ H' ht ⟨y4, y5, y6, y7, y8, rfl, sm, ⟨rs, hrs, hrR⟩, ⟨cs, hcs, hcR⟩⟩
      have hNe : N + q.length = p.length + 1 := by omega
      have hsh : (ws.length : Int) - (us.length : Int) + ((t : Nat) : Int) * -1 = ((N - 1 - t : Nat) : Int) := by rw [hwR.len, huR.len]; omega
      have hix : ((N - 1 - t : Nat) : Int) + (us.length : Int) - 1 = ((N - 1 - t + q.length - 1 : Nat) : Int) := by rw [huR.len]; omega
      obtain ⟨u, hu, huv⟩ := hrR.at (i := N - 1 - t + q.length - 1) (c := Ma.RS p q N t (N - 1 - t + q.length - 1)) (by unfold Ma.RL; exact range_get _ (by omega))
      obtain ⟨l, hl1, hl2⟩ := last_of huR ok.ne
      rw [hsh]
      refine ⟨_, rfl, _, rfl, _, rfl, b, us, rfl, .inl (SqL.of (sm _ _ hus)), _, _, rfl, rfl, _, _, rfl, rfl, r, rs, _, u, rfl, rfl, SqL.of hrs, by rw [hix]; exact atI_nat hu, ?_⟩
      refine ⟨_, rfl, 1, rfl, b, us, -1, l, rfl, rfl, SqL.of (sm _ _ hus), hl1, u, l, _, _, rfl, huv, hl2.same sm, c1 t ht, fun H4 v4 s4 hv4 => ?_⟩
      have hv4' : RatV K H4 v4 (Ma.fct p q N t) := hv4
      have hcs4 : H4 c = some (.lst cs) := s4 _ _ hcs
      -- quotient[shift] = factor
      refine ⟨_, rfl, _, rfl, _, rfl, c, cs, _, N - 1 - t, rfl, rfl, hcs4, ixN_nat (by rw [hcR.len]; unfold Ma.QL; simp; omega), ?_⟩
      have sm5 : Same H (upd H4 c (.lst (cs.set (N - 1 - t) v4))) := fun b' o e => by
        rw [upd_ne (ne_of_none e ncH)]
        exact s4 _ _ (sm _ _ e)
      have hQ5 : PolV K (upd H4 c (.lst (cs.set (N - 1 - t) v4))) c (Ma.QL p q N (t + 1)) := by
        refine ⟨_, upd_same, ?_⟩
        rw [QL_step ht]
        exact ((hcR.same s4).set hv4').updL hcs4
      have hR5 : PolV K (upd H4 c (.lst (cs.set (N - 1 - t) v4))) r ((List.range p.length).map fun x => RI p q N t 0 x) := by
        refine ⟨rs, by rw [upd_ne hrc]; exact s4 _ _ hrs, ?_⟩
        have e : ((List.range p.length).map fun x => RI p q N t 0 x) = Ma.RL p q N t := by
          unfold Ma.RL
          exact List.map_congr_left fun x _ => RI_zero p q N t x
        rw [e]
        exact (hrR.same s4).updL hcs4
      have hv5 : RatV K (upd H4 c (.lst (cs.set (N - 1 - t) v4))) v4 (Ma.fct p q N t) := hv4'.updL hcs4
      generalize upd H4 c (.lst (cs.set (N - 1 - t) v4)) = H5 at sm5 hQ5 hR5 hv5
      -- for power, number in enumerate(q)
      refine ⟨_, rfl, b, us, rfl, SqL.of (sm5 _ _ hus), ?_⟩
      refine for_enum (K := K) (a := b) (xs := us) (fun j σ H' => ∃ y6 y7 y8, σ = [some (.ref a), some (.ref b), some (.ref r), some (.ref c), some (.int ((N - 1 - t : Nat) : Int)), some v4, y6, y7, y8] ∧ Same H H' ∧ PolV K H' r ((List.range p.length).map fun x => RI p q N t j x) ∧ PolV K H' c (Ma.QL p q N (t + 1)) ∧ RatV K H' v4 (Ma.fct p q N t))
        ⟨_, _, _, rfl, sm5, hR5, hQ5, hv5⟩ (fun i σ H' _ h => by obtain ⟨_, _, _, _, sm, _⟩ := h; exact SqL.of (sm _ _ hus)) ?_ ?_
      · rintro j y σ H6 t2 hy ⟨z6, z7, z8, rfl, sm6, hR6, hQ6, hv6⟩ nt2
        obtain ⟨d, hd, hvd⟩ := huR.get hy
        have hj : j < q.length := (List.getElem?_eq_some_iff.mp hd).1
        have st2 := same_upd (o := .tup [.int (j : Nat), y]) nt2
        refine ⟨t2, _, rfl, SqT.of upd_same, rfl, _, _, rfl, _, _, rfl, rfl, ?_⟩
        have sm7 := sm6.trans st2
        have hR7 := hR6.same st2
        have hQ7 := hQ6.same st2
        have hv7 := hv6.same st2
        generalize upd H6 t2 (.tup [.int (j : Nat), y]) = H7 at sm7 hR7 hQ7 hv7
        refine ⟨_, rfl, _, rfl, v4, y, _, d, rfl, hv7, hvd.same sm7, (by have := c2 t j ht hj; rwa [co_of hd] at this), fun H8 v8 s8 hv8 => ?_⟩
        refine ⟨v8, _, rfl, hv8, fun H9 v9 s9 hv9 => ?_⟩
        have s79 : Same H7 H9 := s8.trans s9
        obtain ⟨rs7, hrs7, hrR7⟩ := hR7
        obtain ⟨u9, hu9, huv9⟩ := hrR7.at (range_get (fun x => RI p q N t j x) (show N - 1 - t + j < p.length by omega))
        have hij : ((N - 1 - t : Nat) : Int) + ((j : Nat) : Int) = ((N - 1 - t + j : Nat) : Int) := by omega
        refine ⟨_, rfl, _, rfl, _, rfl, _, _, rfl, rfl, r, rs7, _, u9, rfl, rfl, SqL.of (s79 _ _ hrs7), by rw [hij]; exact atI_nat hu9, ?_⟩
        refine ⟨_, rfl, u9, v9, _, _, rfl, huv9.same s79, hv9, (by have := c3 t j ht hj; rw [co_of hd] at this; rw [RI_at]; exact this), fun HA vA sA hvA => ?_⟩
        have hrsA : HA r = some (.lst rs7) := sA _ _ (s79 _ _ hrs7)
        refine ⟨_, rfl, _, rfl, _, rfl, _, _, rfl, rfl, r, rs7, _, N - 1 - t + j, rfl, rfl, hrsA, ?_, ?_⟩
        · rw [hij]; exact ixN_nat (by rw [hrR7.len]; simp; omega)
        · have s7A : Same H7 HA := s79.trans sA
          refine ⟨_, _, _, rfl, fun b' o e => ?_, ⟨_, upd_same, ?_⟩, ?_, (hv7.same s7A).updL hrsA⟩
          · rw [upd_ne (ne_of_none e nr)]
            exact s7A _ _ (sm7 _ _ e)
          · have e1 : ((List.range p.length).map fun x => RI p q N t (j + 1) x) = ((List.range p.length).map fun x => RI p q N t j x).set (N - 1 - t + j) (RI p q N t j (N - 1 - t + j) + -(Ma.fct p q N t * d)) := by
              rw [set_range_map]
              refine List.map_congr_left fun x _ => ?_
              rw [RI_step, co_of hd]
            rw [e1]
            exact ((hrR7.same s7A).set hvA).updL hrsA
          · obtain ⟨cs7, hcs7, hcR7⟩ := hQ7
            exact ⟨cs7, by rw [upd_ne hrc.symm]; exact s7A _ _ hcs7, (hcR7.same s7A).updL hrsA⟩
      · rintro σ H6 ⟨z6, z7, z8, rfl, sm6, hR6, hQ6, hv6⟩
        refine ⟨_, _, _, _, _, rfl, sm6, ?_, hQ6⟩
        rw [huR.len] at hR6
        exact hR6
    · rintro σ H' ⟨y4, y5, y6, y7, y8, rfl, sm, hR, hQ⟩
      refine ⟨_, rfl, c, _, rfl, hQ, fun H4 r1 s4 n4 h4 => ?_⟩
      refine ⟨_, rfl, r, _, rfl, hR.same s4, fun H5 r2 s5 n5 h5 => ?_⟩
      refine ⟨(by show 2 ≤ sizeLine; decide), fun tt nt => ?_⟩
      have st := same_upd (o := .tup [.ref r1, .ref r2]) nt
      refine k _ tt r1 r2 (sm.trans (s4.trans (s5.trans st))) (SqT.of upd_same) (sm.free n4) (sm.free (s4.free n5)) ?_ ?_
      · unfold AlOne.over; rw [both]; exact (h4.same s5).same st
      · unfold AlOne.rest; rw [both]; exact h5.same st
theorem ok_poly_divided (T : Txt K mg) : FnOk P w K mg base CX0 4 T.f_poly_divided T.e_poly_divided ["p", "q"] (spDiv K) := (ok_poly_dividedG T).imp fun vs H Q E h => by
  obtain ⟨a, b, p, q, h1, h2, h3, h4, h5⟩ := h
  exact ⟨a, b, p, q, h1, h2, h3, h4.gen, h5⟩
end
end W
set_option maxRecDepth 100000
namespace W
open PySem PySem.Spec PyProof.Rows L2
/-- sizes for what two have in common -/
structure EucOk (p q : List Rat) : Prop where
  tp : Ma.Tr p
  tq : Ma.Tr q
  lp : p.length ≤ 400
  lq : q.length ≤ 400
  sz : ∃ f a b, Ma.HtP p a ∧ Ma.HtP q b ∧ Ma.okE LIM f p.length q.length a b = true
theorem EucOk.div {p q : List Rat} (h : EucOk p q) (hne : q ≠ []) : DivOk p q := by
  obtain ⟨f, a, b, h1, h2, h3⟩ := h.sz
  refine ⟨h.tp, h.tq, hne, h.lp, h.lq, a, b, h1, h2, ?_⟩
  cases f with
  | zero => simp [Ma.okE] at h3
  | succ f =>
    unfold Ma.okE at h3
    have hq := Ma.pos_len hne
    rw [if_neg (by omega)] at h3
    simp only [Bool.and_eq_true, decide_eq_true_eq] at h3
    exact ⟨h3.1.1, h3.1.2⟩
theorem EucOk.next {p q : List Rat} (h : EucOk p q) (hne : q ≠ []) : EucOk q (AlOne.monic (AlOne.rest p q)) := by
  obtain ⟨f, a, b, h1, h2, h3⟩ := h.sz
  obtain ⟨s, _, hr, hlt⟩ := Ma.rest_spec h.tp h.tq hne
  have hlen := Ma.monic_len hr
  refine ⟨h.tq, Ma.tr_monic _, h.lq, by have := h.lq; omega, ?_⟩
  cases f with
  | zero => simp [Ma.okE] at h3
  | succ f =>
    unfold Ma.okE at h3
    have hq := Ma.pos_len hne
    rw [if_neg (by omega)] at h3
    simp only [Bool.and_eq_true, decide_eq_true_eq, List.all_eq_true, List.mem_range] at h3
    have h4 := h3.2 _ hlt
    refine ⟨f, b, _, h2, ?_, by rw [hlen]; exact h4⟩
    by_cases h5 : (AlOne.rest p q).length ≤ 1
    · rw [if_pos h5]
      by_cases h6 : (AlOne.rest p q).length = 1
      · rw [Ma.monic_one hr h6]; exact Ma.htP_one 0
      · have : AlOne.rest p q = [] := List.eq_nil_of_length_eq_zero (by omega)
        rw [this]; exact Ma.htP_nil 0
    · rw [if_neg h5]
      refine Ma.htP_monic hr (by intro e; rw [e] at h5; simp at h5) (Ma.rest_ht h.tp h.tq hne h1 h2)
theorem EucOk.top {p q : List Rat} (h : EucOk p q) (hq : q = []) : TopOk p := by
  obtain ⟨f, a, b, h1, h2, h3⟩ := h.sz
  subst hq
  cases f with
  | zero => simp [Ma.okE] at h3
  | succ f =>
    unfold Ma.okE at h3
    rw [if_pos (show ([] : List Rat).length = 0 from rfl)] at h3
    exact ⟨fun c hc => Fits.mono (h1.num c hc) (of_decide_eq_true h3), by have := h.lp; omega, fun hne => Ma.lead_ne h.tp hne⟩
theorem EucOk.rest {p q : List Rat} (h : EucOk p q) (hne : q ≠ []) : TopOk (AlOne.rest p q) := by
  obtain ⟨a, b, h1, h2, h3, h4⟩ := (h.div hne).sz
  obtain ⟨s, _, hr, hlt⟩ := Ma.rest_spec h.tp h.tq hne
  exact ⟨fun c hc => Fits.mono ((Ma.rest_ht h.tp h.tq hne h1 h2).num c hc) h3, by have := h.lq; omega, fun hn => Ma.lead_ne hr hn⟩
/-- what Euclid's way asks, step by step -/
inductive EucG : List Rat → List Rat → Prop
  | fin {p : List Rat} : Ma.Tr p → TopG p → EucG p []
  | turn {p q : List Rat} : q ≠ [] → DivG p q → TopG (AlOne.rest p q) → EucG q (AlOne.monic (AlOne.rest p q)) → EucG p q
theorem EucG.tp {p q : List Rat} (h : EucG p q) : Ma.Tr p := by
  cases h with
  | fin h _ => exact h
  | turn _ h _ _ => exact h.tp
theorem EucG.tq {p q : List Rat} (h : EucG p q) : Ma.Tr q := by
  cases h with
  | fin h _ => exact Ma.tr_nil
  | turn _ h _ _ => exact h.tq
theorem EucOk.gen : ∀ (n : Nat) {p q : List Rat}, q.length ≤ n → EucOk p q → EucG p q
  | n, p, [], _, h => .fin h.tp (h.top rfl).gen
  | 0, p, _ :: _, hn, h => by simp at hn
  | n + 1, p, c :: q, hn, h => by
    have hne : c :: q ≠ [] := by simp
    obtain ⟨s, _, hr, hlt⟩ := Ma.rest_spec h.tp h.tq hne
    refine .turn hne (h.div hne).gen (h.rest hne).gen (EucOk.gen n ?_ (h.next hne))
    rw [Ma.monic_len hr]; omega
section
variable {P : Program} {w : World} {K : PySem.W.Frag} {mg : Str → Option Value} {base : Heap}
def muS (σ : L2.St) (H : Hp) : Nat := match σ with
  | [_, _, _, some (.ref s), _] => (match H s with
    | some (.lst ws) => ws.length
    | _ => 0)
  | _ => 0
theorem ok_poly_commonG (T : Txt K mg) : FnOk P w K mg base CX0 5 T.f_poly_common T.e_poly_common ["p", "q"] (spP2 K EucG AlOne.common) := by
  refine T.d_poly_common.F.ok sc_poly_common (fun vs H Q E h => ?_) (fun cdv A outer s H vs Q E hr h => ?_)
  · obtain ⟨a, b, p, q, rfl, _⟩ := h
    rfl
  · obtain ⟨a, b, p, q, rfl, hp, hq, ok, k⟩ := h
    refine ⟨_, pss_cons (ps_set (i := 2) sc_poly_common.nd rfl (.inl rfl) (pv 0)) (pss_cons (ps_set (i := 3) sc_poly_common.nd rfl (.inl rfl) (pv 1))
      (pss_cons (ps_while PassesOwn.never (pt_cmpR op_gt (pe_callB call_len_seq (by rfl) T.z_len PySem.boot_len (pa_cons (pv 3) pa_nil)) pe_int (nomark _))
        (pss_cons (ps_set (i := 4) sc_poly_common.nd rfl (.inl rfl) (pe_ix ix_tup (pe_D T.d_poly_divided (ok_poly_dividedG T) hr (pa_cons (pv 2) (pa_cons (pv 3) pa_nil))) pe_int (fun _ _ => rfl)))
        (pss_cons (ps_set (i := 2) sc_poly_common.nd rfl (.inl rfl) (pv 3))
        (pss_one (ps_set (i := 3) sc_poly_common.nd rfl (.inl rfl) (pe_D T.d_with_one_on_top (ok_with_one_on_topG T) hr (pa_cons (pv 4) pa_nil)))))))
      (pss_one (ps_ret (pe_D T.d_with_one_on_top (ok_with_one_on_topG T) hr (pa_cons (pv 2) pa_nil)))))), ?_⟩
    refine ⟨_, rfl, _, rfl, ?_⟩
    refine while_by (fun σ H' => ∃ (x y : Addr) (z : Option V) (L S : List Rat), σ = [some (.ref a), some (.ref b), some (.ref x), some (.ref y), z] ∧ Same H H' ∧ PolV K H' x L ∧ PolV K H' y S ∧ EucG L S ∧
      ∀ h : Ma.P, (Ma.P.Dvd h (Ma.mk L) ∧ Ma.P.Dvd h (Ma.mk S)) ↔ (Ma.P.Dvd h (Ma.mk p) ∧ Ma.P.Dvd h (Ma.mk q))) muS ⟨a, b, none, p, q, rfl, Same.refl H, hp, hq, ok, fun h => Iff.rfl⟩ ?_ ?_
    · rintro σ H' ⟨x, y, z, L, S, rfl, sm, hx, hy, oe, hd⟩
      obtain ⟨ys, hys, hyR⟩ := id hy
      refine ⟨_, rfl, y, ys, rfl, .inl (SqL.of hys), _, _, rfl, rfl, _, rfl, ite2 (fun e => ?_) (fun e => ?_)⟩
      · have hpos : (0 : Int) < (ys.length : Int) := of_decide_eq_true e
        have hSne : S ≠ [] := by intro e0; have := hyR.len; rw [e0] at this; simp at this; rw [this] at hpos; simp at hpos
        obtain ⟨odiv, orest, onext⟩ : DivG L S ∧ TopG (AlOne.rest L S) ∧ EucG S (AlOne.monic (AlOne.rest L S)) := by
          cases oe with
          | fin _ _ => exact absurd rfl hSne
          | turn _ h1 h2 h3 => exact ⟨h1, h2, h3⟩
        refine ⟨_, rfl, _, rfl, x, y, L, S, rfl, hx, hy, odiv, fun H2 t r1 r2 s2 ht n1 n2 h1 h2 => ?_⟩
        refine ⟨t, _, 1, _, rfl, rfl, ht, atI_nat (j := 1) rfl, _, rfl, _, rfl, r2, _, rfl, h2, orest, fun H3 r3 s3 n3 h3 => ?_⟩
        obtain ⟨_, _, hrT, hrl⟩ := Ma.rest_spec oe.tp oe.tq hSne
        have h3 : PolV K H3 r3 ((AlOne.rest L S).map fun c => c / AlOne.lead (AlOne.rest L S)) := h3
        rw [Ma.monic_map hrT] at h3
        have s23 : Same H' H3 := s2.trans s3
        refine ⟨⟨y, r3, _, S, _, rfl, sm.trans s23, hy.same s23, h3, onext, fun h => (Ma.euc_turn oe.tp oe.tq hSne h).trans (hd h)⟩, ?_⟩
        obtain ⟨ws3, hw3, hwR3⟩ := h3
        show (match H3 r3 with | some (.lst ws) => ws.length | _ => 0) < (match H' y with | some (.lst ws) => ws.length | _ => 0)
        rw [hw3, hys]
        show ws3.length < ys.length
        rw [hwR3.len, hyR.len, Ma.monic_len hrT]; exact hrl
      · have h0 : ys.length = 0 := by
          have : ¬ (0 : Int) < (ys.length : Int) := fun h => e (decide_eq_true h)
          omega
        have hS0 : S = [] := List.eq_nil_of_length_eq_zero (by rw [← hyR.len]; exact h0)
        have otop : TopG L := by
          subst hS0
          cases oe with
          | fin _ h => exact h
          | turn h _ _ _ => exact absurd rfl h
        refine ⟨_, rfl, x, L, rfl, hx, otop, fun H2 r2 s2 n2 h2 => k H2 r2 (sm.trans s2) (sm.free n2) ?_⟩
        have h2 : PolV K H2 r2 (L.map fun c => c / AlOne.lead L) := h2
        rw [Ma.monic_map oe.tp] at h2
        subst hS0
        rw [Ma.euc_done oe.tp ok.tp ok.tq hd] at h2
        exact h2
    · intro σ H' Q1 Q2 hq h
      obtain ⟨v, e1, p', ys, e2, e3, i, j, e4, e5, c, e6, h⟩ := h
      exact ⟨v, e1, p', ys, e2, e3, i, j, e4, e5, c, e6, hq _ _ h⟩
theorem ok_poly_common (T : Txt K mg) : FnOk P w K mg base CX0 5 T.f_poly_common T.e_poly_common ["p", "q"] (spP2 K EucOk AlOne.common) := (ok_poly_commonG T).imp (spP2.imp fun _ _ h => EucOk.gen _ (Nat.le_refl _) h)
/-- lists of lists of numbers -/
def Pols (K : PySem.W.Frag) (H : Hp) : List V → List (List Rat) → Prop
  | [], [] => True
  | v :: vs, l :: ls => (∃ b, v = .ref b ∧ PolV K H b l) ∧ Pols K H vs ls
  | _, _ => False
theorem Pols.same {K : PySem.W.Frag} {H H' : Hp} (e : Same H H') : ∀ {vs : List V} {l : List (List Rat)}, Pols K H vs l → Pols K H' vs l
  | [], [], _ => trivial
  | _ :: _, _ :: _, h => by
    obtain ⟨⟨b, h1, h2⟩, h3⟩ := h
    exact ⟨⟨b, h1, h2.same e⟩, Pols.same e h3⟩
  | [], _ :: _, h => h.elim
  | _ :: _, [], h => h.elim
theorem Pols.len {K : PySem.W.Frag} {H : Hp} : ∀ {vs : List V} {l : List (List Rat)}, Pols K H vs l → vs.length = l.length
  | [], [], _ => rfl
  | _ :: _, _ :: _, h => by rw [List.length_cons, List.length_cons, Pols.len h.2]
  | [], _ :: _, h => h.elim
  | _ :: _, [], h => h.elim
theorem Pols.get {K : PySem.W.Frag} {H : Hp} : ∀ {vs : List V} {l : List (List Rat)} {i : Nat} {v : V}, Pols K H vs l → vs[i]? = some v → ∃ b c, v = .ref b ∧ l[i]? = some c ∧ PolV K H b c
  | _ :: _, c :: _, 0, v, h, e => by
    have e' := Option.some.inj e
    subst e'
    obtain ⟨⟨b, h1, h2⟩, _⟩ := h
    exact ⟨b, c, h1, rfl, h2⟩
  | _ :: vs, _ :: l, i + 1, v, h, e => Pols.get (vs := vs) (l := l) (i := i) h.2 e
  | [], [], _, _, _, e => by simp at e
  | [], _ :: _, _, _, h, _ => h.elim
  | _ :: _, [], _, _, h, _ => h.elim
theorem Pols.append {K : PySem.W.Frag} {H : Hp} : ∀ {vs : List V} {l : List (List Rat)} {ws : List V} {m : List (List Rat)}, Pols K H vs l → Pols K H ws m → Pols K H (vs ++ ws) (l ++ m)
  | [], [], _, _, _, h2 => h2
  | _ :: _, _ :: _, _, _, h, h2 => ⟨h.1, Pols.append h.2 h2⟩
  | [], _ :: _, _, _, h, _ => h.elim
  | _ :: _, [], _, _, h, _ => h.elim
theorem common_one (p : List Rat) (hp : Ma.Tr p) : AlOne.common [1] p = [1] := by
  have h1 : (Ma.mk [1]) = 1 := Subtype.ext (by rw [Ma.P.one_val]; show AlOne.trim [1] = [1]; rw [Ma.trim_cons]; simp [AlOne.trim])
  have : Ma.com (Ma.mk [1]) (Ma.mk p) = 1 := Ma.com_eq ⟨by rw [h1]; exact Ma.P.Dvd.refl 1, ⟨Ma.mk p, by grind⟩, fun h h2 _ => by rw [h1] at h2; exact h2, Or.inr Ma.P.ld_one⟩
  have e := congrArg Subtype.val this
  have e1 : (Ma.com (Ma.mk [1]) (Ma.mk p)).1 = AlOne.common [1] p := by
    show AlOne.common (AlOne.trim [1]) (AlOne.trim p) = _
    rw [hp]
    have : AlOne.trim [1] = [1] := by rw [Ma.trim_cons]; simp [AlOne.trim]
    rw [this]
  rw [e1, Ma.P.one_val] at e
  exact e
def comF (ls : List (List Rat)) : List Rat := ls.foldl AlOne.common []
theorem comF_one : ∀ (ls : List (List Rat)) (i : Nat), (∀ l ∈ ls, Ma.Tr l) → comF (ls.take i) = [1] → comF ls = [1] := by
  intro ls i ht h
  have e : ls = ls.take i ++ ls.drop i := (List.take_append_drop i ls).symm
  unfold comF at *
  rw [e, List.foldl_append, h]
  have : ∀ (m : List (List Rat)), (∀ l ∈ m, Ma.Tr l) → m.foldl AlOne.common [1] = [1] := by
    intro m
    induction m with
    | nil => intro _; rfl
    | cons l m ih =>
      intro hm
      rw [List.foldl_cons, common_one l (hm l (by simp))]
      exact ih fun x hx => hm x (by simp [hx])
  exact this _ fun l hl => ht l (List.mem_of_mem_drop hl)
def ComOk (ls : List (List Rat)) : Prop := (∀ l ∈ ls, Ma.Tr l) ∧ ∀ i l, ls[i]? = some l → EucOk (comF (ls.take i)) l
def spComAll (K : PySem.W.Frag) : Sp := fun vs H Q _ => ∃ (a : Addr) (ws : List V) (ls : List (List Rat)), vs = [.ref a] ∧ H a = some (.lst ws) ∧ Pols K H ws ls ∧ ComOk ls ∧
  ∀ H' r, Same H H' → H r = none → PolV K H' r (comF ls) → Q (.ref r) H'
theorem ok_common_of_all (T : Txt K mg) : FnOk P w K mg base CX0 6 T.f_common_of_all T.e_common_of_all ["polys"] (spComAll K) := by
  refine T.d_common_of_all.F.ok sc_common_of_all (fun vs H Q E h => ?_) (fun cdv A outer s H vs Q E hr h => ?_)
  · obtain ⟨a, ws, ls, rfl, _⟩ := h
    rfl
  · obtain ⟨a, ws, ls, rfl, hws, hwP, ⟨ht, ok⟩, k⟩ := h
    refine ⟨_, pss_cons (ps_set (i := 1) sc_common_of_all.nd rfl (.inl rfl) (pe_lst pa_nil))
      (pss_cons (ps_for PassesOwn.never rfl (pi_list (pv 0)) (pg_name (i := 2) sc_common_of_all.nd rfl (.inl rfl))
        (pss_cons (ps_set (i := 1) sc_common_of_all.nd rfl (.inl rfl) (pe_D T.d_poly_common (ok_poly_common T) hr (pa_cons (pv 1) (pa_cons (pv 2) pa_nil))))
        (pss_one (ps_if (pt_cmpR (op_eqD (hu64 hr)) (pv 1) (pe_lst (pa_cons (pe_glob (v := .ref T.a_ONE) (by rfl) T.g_ONE rfl) pa_nil)) (nomark _)) (pss_one ps_break) pss_nil))))
      (pss_one (ps_ret (pv 1)))), ?_⟩
    refine ⟨Nat.zero_le _, fun d nd => ?_⟩
    have s1 : Same H (upd H d (.lst [])) := same_upd nd
    have hd1 : PolV K (upd H d (.lst [])) d [] := ⟨[], upd_same, trivial⟩
    generalize upd H d (.lst []) = H1 at s1 hd1
    refine ⟨_, rfl, a, rfl, ⟨ws, SqL.of (s1 _ _ hws)⟩, ?_⟩
    refine for_list (K := K) (a := a) (xs := ws) (fun i σ H' => ∃ (x : Addr) (y2 : Option V), σ = [some (.ref a), some (.ref x), y2] ∧ Same H H' ∧ H x = none ∧ PolV K H' x (comF (ls.take i)))
      ⟨d, none, rfl, s1, nd, hd1⟩ (fun i σ H' _ h => by obtain ⟨_, _, _, sm, _⟩ := h; exact SqL.of (sm _ _ hws)) ?_ ?_
    · rintro i v σ H' hv ⟨x, y2, rfl, sm, nx, hx⟩
      obtain ⟨b, l, rfl, hl, hb⟩ := hwP.get hv
      refine ⟨_, rfl, _, rfl, x, b, _, l, rfl, hx, hb.same sm, ok i l hl, fun H2 r s2 nr hr2 => ?_⟩
      have sm2 := sm.trans s2
      have nrH := sm.free nr
      have hr2' : PolV K H2 r (comF (ls.take (i + 1))) := by
        have : comF (ls.take (i + 1)) = AlOne.common (comF (ls.take i)) l := by
          unfold comF
          rw [List.take_add_one, hl, List.foldl_append]; rfl
        rw [this]; exact hr2
      refine ⟨_, rfl, (by show 1 ≤ sizeLine; decide), fun o no => ?_⟩
      have s3 := same_upd (o := .lst [.ref T.a_ONE]) no
      have ho : PolV K (upd H2 o (.lst [.ref T.a_ONE])) o [1] := ⟨_, upd_same, T.one _, trivial⟩
      have hr3 := hr2'.same s3
      have sm3 := sm2.trans s3
      generalize upd H2 o (.lst [.ref T.a_ONE]) = H3 at s3 ho hr3 sm3
      refine ⟨_, _, hr3.dp, ho.dp, shaped_dat _, shaped_dat _, _, rfl, ?_⟩
      rw [eqv_dat]
      refine ite2 (fun e => ?_) (fun e => ?_)
      · have e1 : comF (ls.take (i + 1)) = [1] := of_decide_eq_true e
        refine ⟨_, rfl, k H3 r sm3 nrH ?_⟩
        rw [comF_one ls (i + 1) ht e1, ← e1]; exact hr3
      · exact ⟨r, _, rfl, sm3, nrH, hr3⟩
    · rintro σ H' ⟨x, y2, rfl, sm, nx, hx⟩
      refine ⟨_, rfl, k H' x sm nx ?_⟩
      rw [hwP.len, List.take_length] at hx
      exact hx
end
end W
set_option maxRecDepth 100000
namespace W
open PySem PySem.Spec PyProof.Rows L2
/-! lists of lists of numbers, and lists of these, at places of a kind N -/
def PolsN (K : PySem.W.Frag) (H : Hp) (N : Addr → Prop) : List V → List (List Rat) → Prop
  | [], [] => True
  | v :: vs, l :: ls => (∃ b, v = .ref b ∧ N b ∧ PolV K H b l) ∧ PolsN K H N vs ls
  | _, _ => False
def TabN (K : PySem.W.Frag) (H : Hp) (N : Addr → Prop) (a : Addr) (t : List (List Rat)) : Prop := N a ∧ ∃ ws, H a = some (.lst ws) ∧ PolsN K H N ws t
def TabsN (K : PySem.W.Frag) (H : Hp) (N : Addr → Prop) : List V → List (List (List Rat)) → Prop
  | [], [] => True
  | v :: vs, l :: ls => (∃ b, v = .ref b ∧ TabN K H N b l) ∧ TabsN K H N vs ls
  | _, _ => False
def MatN (K : PySem.W.Frag) (H : Hp) (N : Addr → Prop) (a : Addr) (m : List (List (List Rat))) : Prop := N a ∧ ∃ ws, H a = some (.lst ws) ∧ TabsN K H N ws m
def Any : Addr → Prop := fun _ => True
section
variable {K : PySem.W.Frag} {H H' : Hp} {N N' : Addr → Prop}
theorem PolV.updN {b D : Addr} {us ws : List V} {l : List Rat} (hD : H D = some (.lst us)) (hb : b ≠ D) (h : PolV K H b l) : PolV K (upd H D (.lst ws)) b l := by
  obtain ⟨xs, h1, h2⟩ := h
  exact ⟨xs, by rw [upd_ne hb]; exact h1, h2.updL hD⟩
theorem PolsN.imp (hN : ∀ b, N b → N' b) (f : ∀ b l, N b → PolV K H b l → PolV K H' b l) : ∀ {vs : List V} {ls : List (List Rat)}, PolsN K H N vs ls → PolsN K H' N' vs ls
  | [], [], _ => trivial
  | _ :: _, _ :: _, h => by
    obtain ⟨⟨b, h1, h2, h3⟩, h4⟩ := h
    exact ⟨⟨b, h1, hN b h2, f b _ h2 h3⟩, PolsN.imp hN f h4⟩
  | [], _ :: _, h => h.elim
  | _ :: _, [], h => h.elim
theorem PolsN.same (e : Same H H') {vs : List V} {ls : List (List Rat)} (h : PolsN K H N vs ls) : PolsN K H' N vs ls := h.imp (fun _ h => h) (fun _ _ _ h => h.same e)
theorem PolsN.mono (hN : ∀ b, N b → N' b) {vs : List V} {ls : List (List Rat)} (h : PolsN K H N vs ls) : PolsN K H N' vs ls := h.imp hN (fun _ _ _ h => h)
theorem PolsN.updN {D : Addr} {us ws : List V} (hD : H D = some (.lst us)) (hN : ∀ b, N b → b ≠ D) {vs : List V} {ls : List (List Rat)} (h : PolsN K H N vs ls) : PolsN K (upd H D (.lst ws)) N vs ls :=
  h.imp (fun _ h => h) (fun b _ hb h => h.updN hD (hN b hb))
theorem PolsN.len : ∀ {vs : List V} {ls : List (List Rat)}, PolsN K H N vs ls → vs.length = ls.length
  | [], [], _ => rfl
  | _ :: _, _ :: _, h => by rw [List.length_cons, List.length_cons, PolsN.len h.2]
  | [], _ :: _, h => h.elim
  | _ :: _, [], h => h.elim
theorem PolsN.get : ∀ {vs : List V} {l : List (List Rat)} {i : Nat} {v : V}, PolsN K H N vs l → vs[i]? = some v → ∃ b c, v = .ref b ∧ l[i]? = some c ∧ N b ∧ PolV K H b c
  | _ :: _, c :: _, 0, v, h, e => by
    have e' := Option.some.inj e
    subst e'
    obtain ⟨⟨b, h1, h2, h3⟩, _⟩ := h
    exact ⟨b, c, h1, rfl, h2, h3⟩
  | _ :: vs, _ :: l, i + 1, v, h, e => PolsN.get (vs := vs) (l := l) (i := i) h.2 e
  | [], [], _, _, _, e => by simp at e
  | [], _ :: _, _, _, h, _ => h.elim
  | _ :: _, [], _, _, h, _ => h.elim
theorem PolsN.at {vs : List V} {l : List (List Rat)} (h : PolsN K H N vs l) {i : Nat} {c : List Rat} (e : l[i]? = some c) : ∃ b, vs[i]? = some (.ref b) ∧ N b ∧ PolV K H b c := by
  have hi : i < vs.length := by
    rw [h.len]; exact (List.getElem?_eq_some_iff.mp e).1
  obtain ⟨b, c', e1, e2, e3, e4⟩ := h.get (List.getElem?_eq_getElem hi)
  rw [e] at e2
  have := Option.some.inj e2
  subst this
  exact ⟨b, by rw [List.getElem?_eq_getElem hi, e1], e3, e4⟩
theorem PolsN.append : ∀ {vs : List V} {l : List (List Rat)} {ws : List V} {m : List (List Rat)}, PolsN K H N vs l → PolsN K H N ws m → PolsN K H N (vs ++ ws) (l ++ m)
  | [], [], _, _, _, h2 => h2
  | _ :: _, _ :: _, _, _, h, h2 => ⟨h.1, PolsN.append h.2 h2⟩
  | [], _ :: _, _, _, h, _ => h.elim
  | _ :: _, [], _, _, h, _ => h.elim
theorem PolsN.snoc {vs : List V} {l : List (List Rat)} {b : Addr} {c : List Rat} (h : PolsN K H N vs l) (hb : N b) (h2 : PolV K H b c) : PolsN K H N (vs ++ [.ref b]) (l ++ [c]) := h.append ⟨⟨b, rfl, hb, h2⟩, trivial⟩
theorem PolsN.set : ∀ {vs : List V} {l : List (List Rat)} {i : Nat} {b : Addr} {c : List Rat}, PolsN K H N vs l → N b → PolV K H b c → PolsN K H N (vs.set i (.ref b)) (l.set i c)
  | [], [], _, _, _, _, _, _ => by simp only [List.set_nil]; exact trivial
  | _ :: _, _ :: _, 0, b, _, h, hb, h2 => ⟨⟨b, rfl, hb, h2⟩, h.2⟩
  | _ :: _, _ :: _, i + 1, _, _, h, hb, h2 => ⟨h.1, PolsN.set (i := i) h.2 hb h2⟩
  | [], _ :: _, _, _, _, h, _, _ => h.elim
  | _ :: _, [], _, _, _, h, _, _ => h.elim
theorem PolsN.pols : ∀ {vs : List V} {ls : List (List Rat)}, PolsN K H N vs ls → Pols K H vs ls
  | [], [], _ => trivial
  | _ :: _, _ :: _, h => by
    obtain ⟨⟨b, h1, _, h3⟩, h4⟩ := h
    exact ⟨⟨b, h1, h3⟩, PolsN.pols h4⟩
  | [], _ :: _, h => h.elim
  | _ :: _, [], h => h.elim
theorem TabN.imp (hN : ∀ b, N b → N' b) (f : ∀ b ws, N b → H b = some (.lst ws) → H' b = some (.lst ws)) (g : ∀ v c, RatV K H v c → RatV K H' v c) {a : Addr} {t : List (List Rat)} (h : TabN K H N a t) : TabN K H' N' a t := by
  obtain ⟨h1, ws, h2, h3⟩ := h
  refine ⟨hN a h1, ws, f a ws h1 h2, h3.imp hN fun b l hb hp => ?_⟩
  obtain ⟨xs, e1, e2⟩ := hp
  refine ⟨xs, f b xs hb e1, ?_⟩
  have : ∀ {vs : List V} {l : List Rat}, Rats K H vs l → Rats K H' vs l := by
    intro vs
    induction vs with
    | nil => intro l h; cases l with
      | nil => exact trivial
      | cons _ _ => exact h.elim
    | cons v vs ih => intro l h; cases l with
      | nil => exact h.elim
      | cons c l => exact ⟨g _ _ h.1, ih h.2⟩
  exact this e2
theorem TabsN.imp (hN : ∀ b, N b → N' b) (f : ∀ b ws, N b → H b = some (.lst ws) → H' b = some (.lst ws)) (g : ∀ v c, RatV K H v c → RatV K H' v c) : ∀ {vs : List V} {ls : List (List (List Rat))}, TabsN K H N vs ls → TabsN K H' N' vs ls
  | [], [], _ => trivial
  | _ :: _, _ :: _, h => by
    obtain ⟨⟨b, h1, h2⟩, h3⟩ := h
    exact ⟨⟨b, h1, h2.imp hN f g⟩, TabsN.imp hN f g h3⟩
  | [], _ :: _, h => h.elim
  | _ :: _, [], h => h.elim
theorem TabsN.same (e : Same H H') {vs : List V} {ls : List (List (List Rat))} (h : TabsN K H N vs ls) : TabsN K H' N vs ls := h.imp (fun _ h => h) (fun _ _ _ h => e _ _ h) (fun _ _ h => h.same e)
theorem TabN.same (e : Same H H') {a : Addr} {t : List (List Rat)} (h : TabN K H N a t) : TabN K H' N a t := h.imp (fun _ h => h) (fun _ _ _ h => e _ _ h) (fun _ _ h => h.same e)
theorem TabsN.mono (hN : ∀ b, N b → N' b) {vs : List V} {ls : List (List (List Rat))} (h : TabsN K H N vs ls) : TabsN K H N' vs ls := h.imp hN (fun _ _ _ h => h) (fun _ _ h => h)
theorem TabN.mono (hN : ∀ b, N b → N' b) {a : Addr} {t : List (List Rat)} (h : TabN K H N a t) : TabN K H N' a t := h.imp hN (fun _ _ _ h => h) (fun _ _ h => h)
theorem TabsN.updN {D : Addr} {us ws : List V} (hD : H D = some (.lst us)) (hN : ∀ b, N b → b ≠ D) {vs : List V} {ls : List (List (List Rat))} (h : TabsN K H N vs ls) : TabsN K (upd H D (.lst ws)) N vs ls :=
  h.imp (fun _ h => h) (fun b _ hb h => by rw [upd_ne (hN b hb)]; exact h) (fun _ _ h => h.updL hD)
theorem TabN.updN {D : Addr} {us ws : List V} (hD : H D = some (.lst us)) (hN : ∀ b, N b → b ≠ D) {a : Addr} {t : List (List Rat)} (h : TabN K H N a t) : TabN K (upd H D (.lst ws)) N a t :=
  h.imp (fun _ h => h) (fun b _ hb h => by rw [upd_ne (hN b hb)]; exact h) (fun _ _ h => h.updL hD)
theorem TabsN.len : ∀ {vs : List V} {ls : List (List (List Rat))}, TabsN K H N vs ls → vs.length = ls.length
  | [], [], _ => rfl
  | _ :: _, _ :: _, h => by rw [List.length_cons, List.length_cons, TabsN.len h.2]
  | [], _ :: _, h => h.elim
  | _ :: _, [], h => h.elim
theorem TabsN.get : ∀ {vs : List V} {l : List (List (List Rat))} {i : Nat} {v : V}, TabsN K H N vs l → vs[i]? = some v → ∃ b c, v = .ref b ∧ l[i]? = some c ∧ TabN K H N b c
  | _ :: _, c :: _, 0, v, h, e => by
    have e' := Option.some.inj e
    subst e'
    obtain ⟨⟨b, h1, h2⟩, _⟩ := h
    exact ⟨b, c, h1, rfl, h2⟩
  | _ :: vs, _ :: l, i + 1, v, h, e => TabsN.get (vs := vs) (l := l) (i := i) h.2 e
  | [], [], _, _, _, e => by simp at e
  | [], _ :: _, _, _, h, _ => h.elim
  | _ :: _, [], _, _, h, _ => h.elim
theorem TabsN.at {vs : List V} {l : List (List (List Rat))} (h : TabsN K H N vs l) {i : Nat} {c : List (List Rat)} (e : l[i]? = some c) : ∃ b, vs[i]? = some (.ref b) ∧ TabN K H N b c := by
  have hi : i < vs.length := by
    rw [h.len]; exact (List.getElem?_eq_some_iff.mp e).1
  obtain ⟨b, c', e1, e2, e3⟩ := h.get (List.getElem?_eq_getElem hi)
  rw [e] at e2
  have := Option.some.inj e2
  subst this
  exact ⟨b, by rw [List.getElem?_eq_getElem hi, e1], e3⟩
theorem TabsN.append : ∀ {vs : List V} {l : List (List (List Rat))} {ws : List V} {m : List (List (List Rat))}, TabsN K H N vs l → TabsN K H N ws m → TabsN K H N (vs ++ ws) (l ++ m)
  | [], [], _, _, _, h2 => h2
  | _ :: _, _ :: _, _, _, h, h2 => ⟨h.1, TabsN.append h.2 h2⟩
  | [], _ :: _, _, _, h, _ => h.elim
  | _ :: _, [], _, _, h, _ => h.elim
theorem TabsN.snoc {vs : List V} {l : List (List (List Rat))} {b : Addr} {c : List (List Rat)} (h : TabsN K H N vs l) (h2 : TabN K H N b c) : TabsN K H N (vs ++ [.ref b]) (l ++ [c]) := h.append ⟨⟨b, rfl, h2⟩, trivial⟩
theorem TabsN.drop : ∀ {vs : List V} {l : List (List (List Rat))} (n : Nat), TabsN K H N vs l → TabsN K H N (vs.drop n) (l.drop n)
  | vs, l, 0, h => h
  | [], [], _ + 1, _ => trivial
  | _ :: _, _ :: _, n + 1, h => TabsN.drop n h.2
  | [], _ :: _, _ + 1, h => h.elim
  | _ :: _, [], _ + 1, h => h.elim
theorem MatN.same (e : Same H H') {a : Addr} {m : List (List (List Rat))} (h : MatN K H N a m) : MatN K H' N a m := by
  obtain ⟨h1, ws, h2, h3⟩ := h
  exact ⟨h1, ws, e _ _ h2, h3.same e⟩
theorem MatN.mono (hN : ∀ b, N b → N' b) {a : Addr} {m : List (List (List Rat))} (h : MatN K H N a m) : MatN K H N' a m := by
  obtain ⟨h1, ws, h2, h3⟩ := h
  exact ⟨hN a h1, ws, h2, h3.mono hN⟩
end
/-! the mathematics -/
theorem x_diag (c : Rat) : AlOne.add [0, 1] (AlOne.trim [-c]) = AlOne.trim [-c, 1] := by
  refine Ma.ext (Ma.tr_add _ _) (Ma.tr_trim _) fun i => ?_
  rw [Ma.co_add, Ma.co_trim, Ma.co_trim]
  match i with
  | 0 => show (0 : Rat) + -c = -c; grind
  | 1 => show (1 : Rat) + 0 = 1; grind
  | i + 2 => show (0 : Rat) + 0 = 0; grind
/-- one row of x less a table -/
def xRow (row : List Rat) (i : Nat) : List (List Rat) := (row.map fun c => AlOne.trim [-c]).set i (AlOne.trim [-(row.getD i 0), 1])
theorem lessX_row {n : Nat} {t : Al09.Table} (h : Ma.Sq n t) {i : Nat} {row : List Rat} (hi : t[i]? = some row) : (Al09.lessX t)[i]? = some (xRow row i) := by
  have hlt : i < t.length := (List.getElem?_eq_some_iff.mp hi).1
  unfold Al09.lessX
  rw [List.getElem?_map]
  have e : (t.zip (List.range t.length))[i]? = some (row, i) := by
    rw [List.getElem?_eq_getElem (by simp; omega), List.getElem_zip]
    obtain ⟨h1, h2⟩ := List.getElem?_eq_some_iff.mp hi
    simp [h2]
  rw [e]
  show some _ = some _
  congr 1
  have hw : row.length = n := h.wid row (List.mem_of_getElem? hi)
  unfold xRow
  apply List.ext_getElem
  · simp [hw, h.rows]
  · intro j h1 h2
    simp only [List.length_map, List.length_zip, List.length_range] at h1
    rw [List.getElem_set]
    simp only [List.getElem_map, List.getElem_zip, List.getElem_range]
    by_cases hj : j = i
    · rw [if_pos hj, if_pos hj.symm]
      subst hj
      rw [List.getD_eq_getElem?_getD, List.getElem?_eq_getElem (by omega)]; rfl
    · rw [if_neg hj, if_neg (fun e => hj e.symm)]
theorem lessX_len (t : Al09.Table) : (Al09.lessX t).length = t.length := by unfold Al09.lessX; simp
end W
set_option maxRecDepth 100000
namespace W
open PySem PySem.Spec PyProof.Rows L2
theorem AllFit.trim_neg {c : Rat} (h : Fits LIM c) : AllFit (AlOne.trim [-c]) ∧ (AlOne.trim [-c]).length ≤ 1 := by
  rw [Ma.trim_cons]
  simp only [AlOne.trim, if_true]
  split
  · exact ⟨fun x hx => by simp at hx, by simp⟩
  · exact ⟨fun x hx => by simp at hx; subst hx; exact h.neg, by simp⟩
theorem fits_one (n : Nat) : Fits n 1 := ⟨Nat.one_le_two_pow, Nat.one_le_two_pow⟩
section
variable {P : Program} {w : World} {K : PySem.W.Frag} {mg : Str → Option Value} {base : Heap}
def spXless (K : PySem.W.Frag) : Sp := fun vs H Q _ => ∃ (a : Addr) (t : List (List Rat)) (n : Nat), vs = [.ref a] ∧ TabN K H Any a t ∧ Ma.Sq n t ∧ n ≤ 100 ∧ (∀ r ∈ t, AllFit r) ∧
  ∀ H' r, Same H H' → MatN K H' (fun b => H b = none) r (Al09.lessX t) → Q (.ref r) H'
theorem ok_x_less (T : Txt K mg) : FnOk P w K mg base CX0 5 T.f_x_less T.e_x_less ["table"] (spXless K) := by
  refine T.d_x_less.F.ok sc_x_less (fun vs H Q E h => ?_) (fun cdv A outer s H vs Q E hr h => ?_)
  · obtain ⟨a, t, n, rfl, _⟩ := h
    rfl
  · obtain ⟨a, t, n, rfl, ⟨_, ws, hws, hwP⟩, sq, hn, ft, k⟩ := h
    refine ⟨_, pss_cons (ps_set (i := 1) sc_x_less.nd rfl (.inl rfl) (pe_lst pa_nil))
      (pss_cons (ps_for PassesOwn.never rfl (pi_enum (by rfl) T.z_enumerate (pa_cons (pv 0) pa_nil)) (pg_tup rfl (pgs_cons (pg_name (i := 2) sc_x_less.nd rfl (.inl rfl)) (pgs_cons (pg_name (i := 3) sc_x_less.nd rfl (.inl rfl)) pgs_nil)))
        (pss_cons (ps_setLc (i := 4) (own := [("number", 5)]) (g := gName 5) (tt := tYes) rfl sc_x_less.nd rfl rfl (sw_true rfl rfl rfl (by decide +kernel)) (pi_list (pv 3)) (blkOk_by (N := n_x_less) (sc := defScope s_x_less) (by decide +kernel)) (fun _ _ _ _ _ => pg_name (i := 5) sc_x_less.nd rfl (Or.inl rfl)) (fun _ _ _ _ _ => pts_nil)
            (fun _ _ _ _ _ => pe_D T.d_trimmed (ok_trimmed T) hr (pa_cons (pe_lst (pa_cons (pe_D T.d_ratio_minus (ok_ratio_minus T) hr (pa_cons (pv 5) pa_nil)) pa_nil)) pa_nil)))
        (pss_cons (ps_asg (pe_D T.d_poly_sum (ok_poly_sum T) hr (pa_cons (pe_lst (pa_cons (pe_glob (v := .ref T.a_ZERO) (by rfl) T.g_ZERO rfl) (pa_cons (pe_glob (v := .ref T.a_ONE) (by rfl) T.g_ONE rfl) pa_nil))) (pa_cons (pe_ix ix_list (pv 4) (pv 2) (fun _ _ => rfl)) pa_nil))) (pg_sub (pv 4) (pv 2) set_list))
        (pss_one (ps_expr (pe_bm PySem.F.plainAttrs_list PySem.F.slot_list_append PySem.F.type_list_append mt_append (pv 1) (pa_cons (pv 4) pa_nil)))))))
      (pss_one (ps_ret (pv 1)))), ?_⟩
    refine ⟨Nat.zero_le _, fun R nR => ?_⟩
    have s1 : Same H (upd H R (.lst [])) := same_upd nR
    have hR1 : (upd H R (.lst [])) R = some (.lst []) := upd_same
    generalize upd H R (.lst []) = H1 at s1 hR1
    refine ⟨_, rfl, a, ws, rfl, SqL.of (s1 _ _ hws), ?_⟩
    have hwl := hwP.len
    refine for_enum (K := K) (a := a) (xs := ws) (fun i σ H' => ∃ y2 y3 y4 y5 rs, σ = [some (.ref a), some (.ref R), y2, y3, y4, y5] ∧ Same H H' ∧ H' R = some (.lst rs) ∧ TabsN K H' (fun b => H b = none ∧ b ≠ R) rs ((Al09.lessX t).take i))
      ⟨none, none, none, none, [], rfl, s1, hR1, trivial⟩ (fun i σ H' _ h => by obtain ⟨_, _, _, _, _, _, sm, _⟩ := h; exact SqL.of (sm _ _ hws)) ?_ ?_
    · rintro i x σ H' tt hx ⟨y2, y3, y4, y5, rs, rfl, sm, hrs, hT⟩ nt
      obtain ⟨b, row, rfl, hrow, _, hb⟩ := hwP.get hx
      have hlt : i < t.length := (List.getElem?_eq_some_iff.mp hrow).1
      have hw : row.length = n := sq.wid row (List.mem_of_getElem? hrow)
      have fr := ft row (List.mem_of_getElem? hrow)
      have hrn := sq.rows
      have st := same_upd (o := .tup [.int (i : Nat), .ref b]) nt
      refine ⟨tt, _, rfl, SqT.of upd_same, rfl, _, _, rfl, _, _, rfl, rfl, ?_⟩
      have smS := sm.trans st
      have hrsS := st _ _ hrs
      have hTS := hT.same st
      have hbS := hb.same smS
      generalize upd H' tt (.tup [.int (i : Nat), .ref b]) = Hs at smS hrsS hTS hbS
      obtain ⟨us, hus, huR⟩ := id hbS
      -- line = [trimmed([ratio_minus(number)]) for number in row]
      refine ⟨_, rfl, b, rfl, ⟨us, SqL.of hus⟩, fun D nD => ?_⟩
      refine lc_list (K := K) (a := b) (xs := us) (fun j H2 => Same Hs H2 ∧ ∃ acc, H2 D = some (.lst acc) ∧ PolsN K H2 (fun c => Hs c = none ∧ c ≠ D) acc ((row.take j).map fun c => AlOne.trim [-c])) ⟨same_upd nD, [], upd_same, trivial⟩ (fun j H2 _ h => SqL.of (h.1 _ _ hus)) ?_ ?_
      · rintro j x H2 hx2 ⟨sm2, acc, hD, hacc⟩
        obtain ⟨c, hc, hv⟩ := huR.get hx2
        refine ⟨rfl, _, rfl, x, c, rfl, hv.same sm2, fun H3 v3 s3 hv3 => ?_⟩
        refine ⟨(by show 1 ≤ sizeLine; decide), fun o no => ?_⟩
        have s4 := same_upd (o := .lst [v3]) no
        have ho : PolV K (upd H3 o (.lst [v3])) o [-c] := ⟨_, upd_same, hv3.same s4, trivial⟩
        generalize upd H3 o (.lst [v3]) = H4 at s4 ho
        refine ⟨o, _, rfl, ho, fun H5 r s5 nr hr5 => ?_⟩
        have s25 : Same H2 H5 := s3.trans (s4.trans s5)
        have hD5 : H5 D = some (.lst acc) := s25 _ _ hD
        have nr2 : H2 r = none := s3.free (s4.free nr)
        have hrD : r ≠ D := by intro e; rw [e, hD] at nr2; cases nr2
        refine ⟨acc, hD5, ?_, fun b' o' e => ?_, _, upd_same, ?_⟩
        · rw [hacc.len, List.length_map, List.length_take]
          exact small1000 (by omega)
        · rw [upd_ne (ne_of_none e nD)]
          exact s25 _ _ (sm2 _ _ e)
        · rw [List.take_add_one, hc, List.map_append]
          exact ((hacc.same s25).snoc ⟨sm2.free nr2, hrD⟩ hr5).updN hD5 (fun _ h => h.2)
      · rintro H2 ⟨sm2, acc, hD, hacc⟩
        rw [huR.len, List.take_length] at hacc
        have haccl := hacc.len
        rw [List.length_map] at haccl
        -- line[at] = poly_sum([ZERO, ONE], line[at])
        have hri : row[i]? = some (row.getD i 0) := by rw [List.getD_eq_getElem?_getD, List.getElem?_eq_getElem (by omega)]; rfl
        obtain ⟨c, hc1, hcN, hc2⟩ := hacc.at (i := i) (c := AlOne.trim [-(row.getD i 0)]) (by rw [List.getElem?_map, hri]; rfl)
        refine ⟨(by show 2 ≤ sizeLine; decide), fun o no => ?_⟩
        have s3 := same_upd (o := .lst [.ref T.a_ZERO, .ref T.a_ONE]) no
        have ho : PolV K (upd H2 o (.lst [.ref T.a_ZERO, .ref T.a_ONE])) o [0, 1] := ⟨_, upd_same, T.zero _, T.one _, trivial⟩
        generalize upd H2 o (.lst [.ref T.a_ZERO, .ref T.a_ONE]) = H3 at s3 ho
        have fc := AllFit.trim_neg (fr (row.getD i 0) (List.mem_of_getElem? hri))
        refine ⟨_, rfl, _, rfl, D, acc, _, _, rfl, rfl, SqL.of (s3 _ _ hD), atI_nat hc1, o, c, _, _, rfl, ho, hc2.same s3, ⟨fun x hx => ?_, fc.1, by decide, by omega⟩, fun H4 r s4 nr hr4 => ?_⟩
        · simp at hx
          rcases hx with e | e <;> subst e
          · exact fits_zero _
          · exact fits_one _
        rw [x_diag] at hr4
        have s24 : Same H2 H4 := s3.trans s4
        have hD4 : H4 D = some (.lst acc) := s24 _ _ hD
        have nr2 : H2 r = none := s3.free nr
        have hrD : r ≠ D := by intro e; rw [e, hD] at nr2; cases nr2
        refine ⟨_, rfl, _, rfl, D, acc, _, i, rfl, rfl, hD4, ixN_nat (by omega), ?_⟩
        have hline : TabN K (upd H4 D (.lst (acc.set i (.ref r)))) (fun b => H b = none ∧ b ≠ R) D (xRow row i) := by
          have hDR : D ≠ R := by intro e; rw [e, hrsS] at nD; cases nD
          refine ⟨⟨smS.free nD, hDR⟩, _, upd_same, ?_⟩
          have := (((hacc.same s24).set (i := i) (b := r) ⟨sm2.free nr2, hrD⟩ hr4).updN (ws := acc.set i (.ref r)) hD4 (fun _ h => h.2))
          refine this.mono fun b' hb' => ⟨smS.free hb'.1, fun e => ?_⟩
          rw [e, hrsS] at hb'; cases hb'.1
        have smD : Same Hs (upd H4 D (.lst (acc.set i (.ref r)))) := fun b' o' e => by
          rw [upd_ne (ne_of_none e nD)]
          exact s24 _ _ (sm2 _ _ e)
        have hTD := hTS.same smD
        have hrsD := smD _ _ hrsS
        have smHD := smS.trans smD
        generalize upd H4 D (.lst (acc.set i (.ref r))) = H5 at hline smD hTD hrsD smHD
        -- rows.append(line)
        refine ⟨_, rfl, .inl ⟨rfl, _, SqL.of hrsD⟩, _, rfl, R, rs, _, rfl, rfl, hrsD, ?_, ?_⟩
        · rw [hTD.len, List.length_take, lessX_len]
          exact small1000 (by omega)
        · refine ⟨_, _, _, _, _, rfl, fun b' o' e => ?_, upd_same, ?_⟩
          · rw [upd_ne (ne_of_none e nR)]
            exact smHD _ _ e
          · rw [List.take_add_one, lessX_row sq hrow]
            exact (hTD.snoc hline).updN hrsD (fun _ h => h.2)
    · rintro σ H' ⟨y2, y3, y4, y5, rs, rfl, sm, hrs, hT⟩
      refine ⟨_, rfl, k H' R sm ⟨nR, rs, hrs, ?_⟩⟩
      rw [List.take_of_length_le (by rw [lessX_len]; omega)] at hT
      exact hT.mono fun _ h => h.1
end
end W
set_option maxRecDepth 100000
namespace W
open PySem PySem.Spec PyProof.Rows L2
theorem cut_to {xs : List V} {c : Nat} : cutV xs none (some (c : Int)) = xs.take c := by
  unfold cutV
  rw [HT.sIx_none, HT.sIx_nat, List.drop_zero, Nat.sub_zero]
  by_cases h : c ≤ xs.length
  · rw [Nat.min_eq_left h]
  · rw [Nat.min_eq_right (by omega), List.take_length, List.take_of_length_le (by omega)]
theorem cut_from {xs : List V} {c : Nat} : cutV xs (some (c : Int)) none = xs.drop c := by
  unfold cutV
  rw [HT.sIx_none, HT.sIx_nat]
  by_cases h : c ≤ xs.length
  · rw [Nat.min_eq_left h, List.take_of_length_le (by rw [List.length_drop]; omega)]
  · rw [Nat.min_eq_right (by omega), List.drop_of_length_le (Nat.le_refl _), List.take_nil, List.drop_of_length_le (by omega)]
theorem PolsN.erase {K : PySem.W.Frag} {H : Hp} {N : Addr → Prop} : ∀ {vs : List V} {l : List (List Rat)} (i : Nat), PolsN K H N vs l → PolsN K H N (vs.eraseIdx i) (l.eraseIdx i)
  | [], [], _, _ => trivial
  | _ :: _, _ :: _, 0, h => h.2
  | _ :: _, _ :: _, i + 1, h => ⟨h.1, PolsN.erase i h.2⟩
  | [], _ :: _, _, h => h.elim
  | _ :: _, [], _, h => h.elim
section
variable {P : Program} {w : World} {K : PySem.W.Frag} {mg : Str → Option Value} {base : Heap}
def spWithout (K : PySem.W.Frag) : Sp := fun vs H Q _ => ∃ (a : Addr) (m : List (List (List Rat))) (c : Nat), vs = [.ref a, .int c] ∧ MatN K H Any a m ∧ m.length ≤ 1000 ∧ (∀ r ∈ m, r.length ≤ 1000) ∧ c ≤ 1000 ∧
  ∀ H' r, Same H H' → MatN K H' Any r (m.map fun row => row.eraseIdx c) → Q (.ref r) H'
theorem ok_without_column (T : Txt K mg) : FnOk P w K mg base CX0 1 T.f_without_column T.e_without_column ["rows", "column"] (spWithout K) := by
  refine T.d_without_column.F.ok sc_without_column (fun vs H Q E h => ?_) (fun cdv A outer s H vs Q E hr h => ?_)
  · obtain ⟨a, m, c, rfl, _⟩ := h
    rfl
  · obtain ⟨a, m, c, rfl, ⟨_, ws, hws, hwT⟩, lm, lr, lc, k⟩ := h
    have hwl := hwT.len
    refine ⟨_, pss_one (ps_ret (pe_lc (own := [("row", 2)]) (g := gName 2) (tt := tYes) rfl sc_without_column.nd (pi_list (pv 0)) (blkOk_by (N := n_without_column) (sc := defScope s_without_column) (by decide +kernel)) (fun _ _ _ _ _ => pg_name (i := 2) sc_without_column.nd rfl (Or.inl rfl)) (fun _ _ _ _ _ => pts_nil)
          (fun _ _ _ _ _ => pe_op op_cat (pe_slice (show SlR _ (rSlL K) from sl_list) (pv 2) po_none (po_some (pv 1))) (pe_slice (show SlR _ (rSlL K) from sl_list) (pv 2) (po_some (pe_op op_add (pv 1) pe_int)) po_none)))), ?_⟩
    refine ⟨_, rfl, a, rfl, ⟨ws, SqL.of hws⟩, fun D nD => ?_⟩
    refine lc_list (K := K) (a := a) (xs := ws) (fun i H' => Same H H' ∧ ∃ acc, H' D = some (.lst acc) ∧ TabsN K H' (fun b => b ≠ D) acc ((m.take i).map fun row => row.eraseIdx c)) ⟨same_upd nD, [], upd_same, trivial⟩ (fun i H' _ h => SqL.of (h.1 _ _ hws)) ?_ ?_
    · rintro i x H' hx ⟨sm, acc, hD, hacc⟩
      obtain ⟨b, row, rfl, hrow, _, us, hus, huP⟩ := hwT.get hx
      have hlr := lr row (List.mem_of_getElem? hrow)
      have hul := huP.len
      have hus' := sm _ _ hus
      refine ⟨rfl, _, rfl, _, rfl, _, rfl, b, us, rfl, SqL.of hus', fun p1 n1 => ?_⟩
      rw [cut_to]
      have s1 := same_upd (o := .lst (us.take c)) n1
      have h1 : (upd H' p1 (.lst (us.take c))) p1 = some (.lst (us.take c)) := upd_same
      generalize upd H' p1 (.lst (us.take c)) = H1 at s1 h1
      refine ⟨_, rfl, _, rfl, _, _, rfl, rfl, _, rfl, b, us, rfl, SqL.of (s1 _ _ hus'), fun p2 n2 => ?_⟩
      have ec : ((c : Nat) : Int) + 1 = ((c + 1 : Nat) : Int) := by omega
      rw [ec, cut_from]
      have s2 := same_upd (o := .lst (us.drop (c + 1))) n2
      have h2 : (upd H1 p2 (.lst (us.drop (c + 1)))) p2 = some (.lst (us.drop (c + 1))) := upd_same
      generalize upd H1 p2 (.lst (us.drop (c + 1))) = H2 at s2 h2
      refine ⟨p1, p2, _, _, rfl, rfl, s2 _ _ h1, h2, ?_, fun p3 n3 => ?_⟩
      · rw [List.length_take, List.length_drop]
        have : (2000 : Nat) ≤ sizeLine := by decide
        omega
      have s3 := same_upd (o := .lst (us.take c ++ us.drop (c + 1))) n3
      have h3 : (upd H2 p3 (.lst (us.take c ++ us.drop (c + 1)))) p3 = some (.lst (us.take c ++ us.drop (c + 1))) := upd_same
      generalize upd H2 p3 (.lst (us.take c ++ us.drop (c + 1))) = H3 at s3 h3
      have s03 : Same H' H3 := s1.trans (s2.trans s3)
      have hD3 := s03 _ _ hD
      have n3' : H' p3 = none := s1.free (s2.free n3)
      have hp3 : p3 ≠ D := by intro e; rw [e, hD] at n3'; cases n3'
      refine ⟨acc, hD3, ?_, fun b' o e => ?_, _, upd_same, ?_⟩
      · rw [hacc.len, List.length_map, List.length_take]
        exact small1000 (by omega)
      · rw [upd_ne (ne_of_none e nD)]
        exact s03 _ _ (sm _ _ e)
      · rw [List.take_add_one, hrow, List.map_append]
        refine ((hacc.same s03).snoc ⟨hp3, _, h3, ?_⟩).updN hD3 (fun _ h => h)
        rw [← List.eraseIdx_eq_take_drop_succ]
        have hPH : PolsN K H (fun b => b ≠ D) us row := by
          have : ∀ {vs : List V} {ls : List (List Rat)}, PolsN K H Any vs ls → PolsN K H (fun b => b ≠ D) vs ls := by
            intro vs
            induction vs with
            | nil => intro ls h; cases ls with
              | nil => exact trivial
              | cons _ _ => exact h.elim
            | cons v vs ih => intro ls h; cases ls with
              | nil => exact h.elim
              | cons l ls =>
                obtain ⟨⟨b2, e1, _, e3⟩, h4⟩ := h
                obtain ⟨xs, e4, _⟩ := id e3
                exact ⟨⟨b2, e1, ne_of_none e4 nD, e3⟩, ih h4⟩
          exact this huP
        exact ((hPH.erase c).same sm).same s03
    · rintro H' ⟨sm, acc, hD, hacc⟩
      rw [hwl, List.take_length] at hacc
      exact k H' D sm ⟨trivial, acc, hD, hacc.mono fun _ _ => trivial⟩
end
end W
set_option maxRecDepth 100000
namespace W
open PySem PySem.Spec PyProof.Rows L2
theorem Ht.allFit {p : Ma.P} {a : Nat} (h : Ma.Ht p a) (ha : a ≤ LIM) : AllFit p.1 := fun c hc => Fits.mono ((Ma.Ht.htP h).num c hc) ha
theorem prodOk_of {p q : Ma.P} {D E a b : Nat} (hp : Ma.HtD p D a) (hq : Ma.HtD q E b) (lp : p.len ≤ 5) (lq : q.len ≤ 5) (hD : 0 < D) (hE : 0 < E) (hD2 : D ≤ 2 ^ 2200) (hE2 : E ≤ 2 ^ 2200) (hab : a + b + 6 ≤ LIM) : ProdOk p.1 q.1 := by
  have l1 : p.1.length ≤ 5 := lp
  have l2 : q.1.length ≤ 5 := lq
  exact ⟨by omega, by omega, D, E, a, b, hD, hE, hD2, hE2, hp.htL, hq.htL, by omega, by omega, by omega⟩
section
variable {P : Program} {w : World} {K : PySem.W.Frag} {mg : Str → Option Value} {base : Heap}
def spDet (K : PySem.W.Frag) (n : Nat) : Sp := fun vs H Q _ => ∃ (a : Addr) (M : Ma.Mat), vs = [.ref a] ∧ MatN K H Any a (Ma.vals M) ∧ Ma.GoodMat n M ∧
  ∀ H' r, Same H H' → H r = none → PolV K H' r (Ma.detP n M).1 → Q (.ref r) H'
theorem vals_len (M : Ma.Mat) : (Ma.vals M).length = M.length := by unfold Ma.vals; simp
theorem det_false (T : Txt K mg) : FnOk P w K mg base CX0 1 T.f_determinant T.e_determinant ["rows"] (fun _ _ _ _ => False) :=
  T.d_determinant.F.ok sc_determinant (fun _ _ _ _ h => h.elim) (fun _ _ _ _ _ _ _ _ _ h => h.elim)
theorem ok_determinant (T : Txt K mg) : ∀ (n : Nat), n ≤ 4 → FnOk P w K mg base CX0 (n + 6) T.f_determinant T.e_determinant ["rows"] (spDet K n)
  | 0, hn4 => by
    refine T.d_determinant.F.ok (k := 5) sc_determinant (fun vs H Q E h => ?_) (fun cdv A outer s H vs Q E hr h => ?_)
    · obtain ⟨a, M, rfl, _⟩ := h
      rfl
    · obtain ⟨a, M, rfl, ⟨_, ws, hws, hwT⟩, gm, k⟩ := h
      have hwl := hwT.len
      rw [vals_len, gm.rows] at hwl
      have GR := det_false (P := P) (w := w) (base := base) T
      refine ⟨_, pss_cons (ps_if (pt_cmpR op_eq (pe_callB call_len_seq (by rfl) T.z_len PySem.boot_len (pa_cons (pv 0) pa_nil)) pe_int (nomark _)) (pss_one (ps_ret (pe_lst (pa_cons (pe_glob (v := .ref T.a_ONE) (by rfl) T.g_ONE rfl) pa_nil)))) pss_nil)
        (pss_cons (ps_set (i := 1) sc_determinant.nd rfl (.inl rfl) (pe_lst pa_nil))
        (pss_cons (ps_for PassesOwn.never rfl (pi_enum (by rfl) T.z_enumerate (pa_cons (pe_ix ix_list (pv 0) pe_int (fun _ _ => rfl)) pa_nil)) (pg_tup rfl (pgs_cons (pg_name (i := 2) sc_determinant.nd rfl (.inl rfl)) (pgs_cons (pg_name (i := 3) sc_determinant.nd rfl (.inl rfl)) pgs_nil)))
          (pss_one (ps_if (pt_cmpR op_gt (pe_callB call_len_seq (by rfl) T.z_len PySem.boot_len (pa_cons (pv 3) pa_nil)) pe_int (nomark _))
            (pss_cons (ps_set (i := 4) sc_determinant.nd rfl (.inl rfl) (pe_D T.d_poly_product (ok_poly_product T) hr (pa_cons (pv 3) (pa_cons (pe_D T.d_determinant GR hr (pa_cons (pe_D T.d_without_column (ok_without_column T) hr (pa_cons (pe_slice sl_list (pv 0) (po_some pe_int) po_none) (pa_cons (pv 2) pa_nil)) (by omega)) pa_nil) (by omega)) pa_nil)) (by omega)))
            (pss_one (ps_set (i := 1) sc_determinant.nd rfl (.inl rfl) (pe_D T.d_poly_sum (ok_poly_sum T) hr (pa_cons (pv 1) (pa_cons (pe_ifExp (pt_cmpR op_eq (pe_op op_mod (pv 2) pe_int) pe_int (nomark _)) (pv 4) (pe_D T.d_poly_minus (ok_poly_minus T) hr (pa_cons (pv 4) pa_nil) (by omega))) pa_nil)) (by omega)))))
            pss_nil)))
        (pss_one (ps_ret (pv 1))))), ?_⟩
      refine ⟨_, rfl, a, ws, rfl, .inl (SqL.of hws), rfl, _, rfl, ?_⟩
      rw [hwl]
      refine iteT ?_
      refine ⟨(by show 1 ≤ sizeLine; decide), fun o no => ?_⟩
      refine k _ o (same_upd no) no ⟨_, upd_same, ?_⟩
      show Rats K _ [.ref T.a_ONE] (1 : Ma.P).1
      rw [Ma.P.one_val]
      exact ⟨T.one _, trivial⟩
  | n + 1, hn4 => by
    refine T.d_determinant.F.ok (k := n + 6) sc_determinant (fun vs H Q E h => ?_) (fun cdv A outer s H vs Q E hr h => ?_)
    · obtain ⟨a, M, rfl, _⟩ := h
      rfl
    · obtain ⟨a, M, rfl, ⟨_, ws, hws, hwT⟩, gm, k⟩ := h
      have hwl := hwT.len
      rw [vals_len, gm.rows] at hwl
      have GR := ok_determinant T n (by omega)
      refine ⟨_, pss_cons (ps_if (pt_cmpR op_eq (pe_callB call_len_seq (by rfl) T.z_len PySem.boot_len (pa_cons (pv 0) pa_nil)) pe_int (nomark _)) (pss_one (ps_ret (pe_lst (pa_cons (pe_glob (v := .ref T.a_ONE) (by rfl) T.g_ONE rfl) pa_nil)))) pss_nil)
        (pss_cons (ps_set (i := 1) sc_determinant.nd rfl (.inl rfl) (pe_lst pa_nil))
        (pss_cons (ps_for PassesOwn.never rfl (pi_enum (by rfl) T.z_enumerate (pa_cons (pe_ix ix_list (pv 0) pe_int (fun _ _ => rfl)) pa_nil)) (pg_tup rfl (pgs_cons (pg_name (i := 2) sc_determinant.nd rfl (.inl rfl)) (pgs_cons (pg_name (i := 3) sc_determinant.nd rfl (.inl rfl)) pgs_nil)))
          (pss_one (ps_if (pt_cmpR op_gt (pe_callB call_len_seq (by rfl) T.z_len PySem.boot_len (pa_cons (pv 3) pa_nil)) pe_int (nomark _))
            (pss_cons (ps_set (i := 4) sc_determinant.nd rfl (.inl rfl) (pe_D T.d_poly_product (ok_poly_product T) hr (pa_cons (pv 3) (pa_cons (pe_D T.d_determinant GR hr (pa_cons (pe_D T.d_without_column (ok_without_column T) hr (pa_cons (pe_slice sl_list (pv 0) (po_some pe_int) po_none) (pa_cons (pv 2) pa_nil)) (by omega)) pa_nil) (by omega)) pa_nil)) (by omega)))
            (pss_one (ps_set (i := 1) sc_determinant.nd rfl (.inl rfl) (pe_D T.d_poly_sum (ok_poly_sum T) hr (pa_cons (pv 1) (pa_cons (pe_ifExp (pt_cmpR op_eq (pe_op op_mod (pv 2) pe_int) pe_int (nomark _)) (pv 4) (pe_D T.d_poly_minus (ok_poly_minus T) hr (pa_cons (pv 4) pa_nil) (by omega))) pa_nil)) (by omega)))))
            pss_nil)))
        (pss_one (ps_ret (pv 1))))), ?_⟩
      refine ⟨_, rfl, a, ws, rfl, .inl (SqL.of hws), rfl, _, rfl, ?_⟩
      have hne : decide (V.int (ws.length : Int) = V.int 0) = false := by
        rw [decide_eq_false]
        intro e
        have := V.int.inj e
        omega
      rw [hne]
      refine iteF ?_
      -- total = []
      refine ⟨Nat.zero_le _, fun d nd => ?_⟩
      have s1 : Same H (upd H d (.lst [])) := same_upd nd
      have hd1 : PolV K (upd H d (.lst [])) d [] := ⟨[], upd_same, trivial⟩
      generalize upd H d (.lst []) = H1 at s1 hd1
      -- rows[0]
      cases M with
      | nil => have := gm.rows; simp at this
      | cons r0 M =>
        have hr0 : r0.length = n + 1 := gm.wid r0 (by simp)
        obtain ⟨b0, hb0, _, us, hus, huP⟩ := hwT.at (i := 0) (c := r0.map fun p => p.1) rfl
        have hul := huP.len
        rw [List.length_map, hr0] at hul
        refine ⟨_, rfl, a, ws, 0, _, rfl, rfl, SqL.of (s1 _ _ hws), atI_nat (j := 0) hb0, b0, us, rfl, SqL.of (s1 _ _ hus), ?_⟩
        refine for_enum (K := K) (a := b0) (xs := us) (fun j σ H' => ∃ (x : Addr) (y2 y3 y4 : Option V), σ = [some (.ref a), some (.ref x), y2, y3, y4] ∧ Same H H' ∧ H x = none ∧ PolV K H' x (Ma.tot n (r0 :: M) j).1)
          ⟨d, none, none, none, rfl, s1, nd, ?_⟩ (fun i σ H' _ h => by obtain ⟨_, _, _, _, _, sm, _⟩ := h; exact SqL.of (sm _ _ hus)) ?_ ?_
        · show PolV K H1 d (0 : Ma.P).1
          rw [Ma.P.zero_val]; exact hd1
        · rintro j v σ H' t hv ⟨x, y2, y3, y4, rfl, sm, nx, hx⟩ nt
          obtain ⟨be, e1, rfl, he1, _, hbe⟩ := huP.get hv
          rw [List.getElem?_map] at he1
          obtain ⟨e, he, rfl⟩ := Option.map_eq_some_iff.mp he1
          have hj : j < n + 1 := by have := (List.getElem?_eq_some_iff.mp he).1; omega
          have hmem : e ∈ r0 := List.mem_of_getElem? he
          have st := same_upd (o := .tup [.int (j : Nat), .ref be]) nt
          refine ⟨t, _, rfl, SqT.of upd_same, rfl, _, _, rfl, _, _, rfl, rfl, ?_⟩
          have sm1 := sm.trans st
          have hx1 := hx.same st
          generalize upd H' t (.tup [.int (j : Nat), .ref be]) = H2 at sm1 hx1
          have hbe2 := hbe.same sm1
          obtain ⟨es, hes, heR⟩ := id hbe2
          refine ⟨_, rfl, be, es, rfl, .inl (SqL.of hes), _, _, rfl, rfl, _, rfl, ite2 (fun c => ?_) (fun c => ?_)⟩
          · -- part = poly_product(entry, determinant(without_column(rows[1:], column)))
            refine ⟨_, rfl, _, rfl, 1, rfl, a, ws, rfl, SqL.of (sm1 _ _ hws), fun p1 n1 => ?_⟩
            have ec : cutV ws (some 1) none = ws.drop 1 := cut_from (c := 1)
            rw [ec]
            have s3 := same_upd (o := .lst (ws.drop 1)) n1
            have h3 : (upd H2 p1 (.lst (ws.drop 1))) p1 = some (.lst (ws.drop 1)) := upd_same
            generalize upd H2 p1 (.lst (ws.drop 1)) = H3 at s3 h3
            have hM3 : MatN K H3 Any p1 (Ma.vals M) := ⟨trivial, _, h3, ((hwT.drop 1).same sm1).same s3⟩
            have gme := gm.erase hj
            refine ⟨_, rfl, p1, Ma.vals M, j, rfl, hM3, ?_, ?_, by omega, fun H4 p2 s4 h4 => ?_⟩
            · rw [vals_len]; have := gm.rows; simp at this; omega
            · intro r hr'
              unfold Ma.vals at hr'
              rw [List.mem_map] at hr'
              obtain ⟨r', hr2, rfl⟩ := hr'
              rw [List.length_map, gm.wid r' (by simp [hr2])]; omega
            have h4' : MatN K H4 Any p2 (Ma.vals (M.map fun r => r.eraseIdx j)) := by
              have e5 : Ma.vals (M.map fun r => r.eraseIdx j) = (Ma.vals M).map fun row => row.eraseIdx j := by
                unfold Ma.vals
                rw [List.map_map, List.map_map]
                refine List.map_congr_left fun r _ => ?_
                exact Ma.map_eraseIdx _ r j
              rw [e5]; exact h4
            refine ⟨p2, _, rfl, h4', gme, fun H5 p3 s5 n5 h5 => ?_⟩
            have s25 : Same H2 H5 := s3.trans (s4.trans s5)
            obtain ⟨D, hD0, hD80, hDg⟩ := gm.good r0 (by simp)
            obtain ⟨E', hE0, hE320, hEd, hEl⟩ := gme.det (by omega)
            have hDe := hDg e hmem
            have pok : ProdOk e.1 (Ma.detP n (M.map fun r => r.eraseIdx j)).1 := prodOk_of hDe.2 hEd (by omega) hEl hD0 hE0 (Nat.le_trans hD80 (Nat.pow_le_pow_right (by omega) (by omega))) (Nat.le_trans hE320 (Nat.pow_le_pow_right (by omega) (by omega))) (by decide)
            refine ⟨be, p3, _, _, rfl, hbe2.same s25, h5, pok, fun H6 p4 s6 n6 h6 => ?_⟩
            have h6' : PolV K H6 p4 (e * Ma.detP n (M.map fun r => r.eraseIdx j)).1 := h6
            have s26 : Same H2 H6 := s25.trans s6
            have sm6 := sm1.trans s26
            have htt := Ma.tot_succ (n := n) (M := r0 :: M) (j := j) (e := e) hr0 he
            have htt' : Ma.tot n (r0 :: M) (j + 1) = Ma.tot n (r0 :: M) j + Ma.term (e * Ma.detP n (M.map fun r => r.eraseIdx j)) j := htt
            have fA := Ht.allFit (Ma.ht_tot gm hn4 j) (by decide)
            have lA : (Ma.tot n (r0 :: M) j).1.length ≤ 6 := Ma.len_tot gm hn4 j
            have hpe : Ma.HtD (e * Ma.detP n (M.map fun r => r.eraseIdx j)) (D * E') (100 + 418 + 2) := hDe.2.mul hEd hDe.1 hD0
            have hDE : D * E' ≤ 2 ^ 520 := by
              have := Nat.mul_le_mul hD80 hE320
              rw [← Nat.pow_add] at this
              exact Nat.le_trans this (Nat.pow_le_pow_right (by omega) (by omega))
            have lB : (e * Ma.detP n (M.map fun r => r.eraseIdx j)).len ≤ 6 := Nat.le_trans (Ma.len_mul_le hDe.1 (b := 4) hEl) (by omega)
            have fin : ∀ H7 (p5 : Addr) (tp : Ma.P), Same H6 H7 → PolV K H7 p5 tp.1 → tp = Ma.term (e * Ma.detP n (M.map fun r => r.eraseIdx j)) j → spP2 K SumOk AlOne.add ([.ref x, .ref p5] ++ []) H7 (fun v H8 => ∃ (x : Addr) (y2 y3 y4 : Option V), [some (V.ref a), some v, some (.int (j : Nat)), some (.ref be), some (.ref p4)] = [some (.ref a), some (.ref x), y2, y3, y4] ∧ Same H H8 ∧ H x = none ∧ PolV K H8 x (Ma.tot n (r0 :: M) (j + 1)).1) E0 := by
              intro H7 p5 tp s7 h7 etp
              have htp : Ma.HtD tp (D * E') (100 + 418 + 2) := by rw [etp]; exact Ma.htD_term hpe j
              have ltp : tp.len ≤ 6 := by rw [etp, Ma.len_term]; exact lB
              have s27 := s26.trans s7
              refine ⟨x, p5, _, _, rfl, (hx1.same s27), h7, ⟨fA, Ht.allFit (htp.ht (Nat.mul_pos hD0 hE0) hDE (by omega)) (by decide), by omega, by have : tp.1.length ≤ 6 := ltp; omega⟩, fun H8 p6 s8 n8 h8 => ?_⟩
              refine ⟨p6, _, _, _, rfl, sm1.trans (s27.trans s8), (sm1.trans s27).free n8, ?_⟩
              rw [htt', ← etp]; exact h8
            -- total = poly_sum(total, ..)
            refine ⟨_, rfl, _, rfl, _, _, rfl, rfl, (by show (0 : Int) < 2; decide), rfl, _, rfl, ?_⟩
            have hmod : decide (V.int (((j : Nat) : Int) % 2) = V.int 0) = decide (j % 2 = 0) := by
              by_cases hj2 : j % 2 = 0
              · rw [decide_eq_true hj2, decide_eq_true]
                congr 1; omega
              · rw [decide_eq_false hj2, decide_eq_false]
                intro e; have := V.int.inj e; omega
            rw [hmod]
            refine ite2 (fun c2 => ?_) (fun c2 => ?_)
            · have c3 : j % 2 = 0 := of_decide_eq_true c2
              refine ⟨_, rfl, ?_⟩
              refine fin H6 p4 _ (Same.refl H6) h6' ?_
              unfold Ma.term; rw [if_pos c3]
            · have c3 : ¬ j % 2 = 0 := fun h => c2 (decide_eq_true h)
              refine ⟨_, rfl, p4, _, rfl, h6', ?_, fun H7 p5 s7 n7 h7 => ?_⟩
              · have : (e * Ma.detP n (M.map fun r => r.eraseIdx j)).1.length ≤ 6 := lB
                omega
              · refine fin H7 p5 (-(e * Ma.detP n (M.map fun r => r.eraseIdx j))) s7 ?_ ?_
                · have h7 : PolV K H7 p5 ((e * Ma.detP n (M.map fun r => r.eraseIdx j)).1.map fun c => -c) := h7
                  rw [Ma.neg_map (e * Ma.detP n (M.map fun r => r.eraseIdx j)).2] at h7
                  exact h7
                · unfold Ma.term; rw [if_neg c3]
          · have he0 : es.length = 0 := by
              have : ¬ (0 : Int) < (es.length : Int) := fun h => c (decide_eq_true h)
              omega
            have e0 : e = 0 := Ma.P.eq_zero_iff.mpr (List.eq_nil_of_length_eq_zero (by rw [← heR.len]; exact he0))
            refine ⟨x, _, _, _, rfl, sm1, nx, ?_⟩
            have htt := Ma.tot_succ (n := n) (M := r0 :: M) (j := j) (e := e) hr0 he
            have : Ma.tot n (r0 :: M) (j + 1) = Ma.tot n (r0 :: M) j := by
              rw [htt, e0, Ma.term_zero]; grind
            rw [this]; exact hx1
        · rintro σ H' ⟨x, y2, y3, y4, rfl, sm, nx, hx⟩
          refine ⟨_, rfl, k H' x sm nx ?_⟩
          rw [Ma.tot_all n (r0 :: M) (j := us.length) (by show r0.length ≤ _; omega)] at hx
          exact hx
end
end W
set_option maxRecDepth 100000
namespace W
open PySem PySem.Spec PyProof.Rows L2
/-! lists of lists of places -/
abbrev nis (l : List Nat) : List V := l.map fun (x : Nat) => V.int (x : Int)
def IlsN (H : Hp) (N : Addr → Prop) : List V → List (List Nat) → Prop
  | [], [] => True
  | v :: vs, l :: ls => (∃ b, v = .ref b ∧ N b ∧ H b = some (.lst (nis l))) ∧ IlsN H N vs ls
  | _, _ => False
section
variable {H H' : Hp} {N N' : Addr → Prop}
theorem IlsN.imp (hN : ∀ b, N b → N' b) (f : ∀ b o, N b → H b = some o → H' b = some o) : ∀ {vs : List V} {ls : List (List Nat)}, IlsN H N vs ls → IlsN H' N' vs ls
  | [], [], _ => trivial
  | _ :: _, _ :: _, h => by
    obtain ⟨⟨b, h1, h2, h3⟩, h4⟩ := h
    exact ⟨⟨b, h1, hN b h2, f b _ h2 h3⟩, IlsN.imp hN f h4⟩
  | [], _ :: _, h => h.elim
  | _ :: _, [], h => h.elim
theorem IlsN.same (e : Same H H') {vs : List V} {ls : List (List Nat)} (h : IlsN H N vs ls) : IlsN H' N vs ls := h.imp (fun _ h => h) (fun _ _ _ h => e _ _ h)
theorem IlsN.mono (hN : ∀ b, N b → N' b) {vs : List V} {ls : List (List Nat)} (h : IlsN H N vs ls) : IlsN H N' vs ls := h.imp hN (fun _ _ _ h => h)
theorem IlsN.updN {D : Addr} {o : HO} (hN : ∀ b, N b → b ≠ D) {vs : List V} {ls : List (List Nat)} (h : IlsN H N vs ls) : IlsN (upd H D o) N vs ls :=
  h.imp (fun _ h => h) (fun b _ hb h => by rw [upd_ne (hN b hb)]; exact h)
theorem IlsN.len : ∀ {vs : List V} {ls : List (List Nat)}, IlsN H N vs ls → vs.length = ls.length
  | [], [], _ => rfl
  | _ :: _, _ :: _, h => by rw [List.length_cons, List.length_cons, IlsN.len h.2]
  | [], _ :: _, h => h.elim
  | _ :: _, [], h => h.elim
theorem IlsN.get : ∀ {vs : List V} {l : List (List Nat)} {i : Nat} {v : V}, IlsN H N vs l → vs[i]? = some v → ∃ b c, v = .ref b ∧ l[i]? = some c ∧ N b ∧ H b = some (.lst (nis c))
  | _ :: _, c :: _, 0, v, h, e => by
    have e' := Option.some.inj e
    subst e'
    obtain ⟨⟨b, h1, h2, h3⟩, _⟩ := h
    exact ⟨b, c, h1, rfl, h2, h3⟩
  | _ :: vs, _ :: l, i + 1, v, h, e => IlsN.get (vs := vs) (l := l) (i := i) h.2 e
  | [], [], _, _, _, e => by simp at e
  | [], _ :: _, _, _, h, _ => h.elim
  | _ :: _, [], _, _, h, _ => h.elim
theorem IlsN.append : ∀ {vs : List V} {l : List (List Nat)} {ws : List V} {m : List (List Nat)}, IlsN H N vs l → IlsN H N ws m → IlsN H N (vs ++ ws) (l ++ m)
  | [], [], _, _, _, h2 => h2
  | _ :: _, _ :: _, _, _, h, h2 => ⟨h.1, IlsN.append h.2 h2⟩
  | [], _ :: _, _, _, h, _ => h.elim
  | _ :: _, [], _, _, h, _ => h.elim
theorem IlsN.snoc {vs : List V} {l : List (List Nat)} {b : Addr} {c : List Nat} (h : IlsN H N vs l) (hb : N b) (h2 : H b = some (.lst (nis c))) : IlsN H N (vs ++ [.ref b]) (l ++ [c]) := h.append ⟨⟨b, rfl, hb, h2⟩, trivial⟩
end
theorem eqk {k : V → Hp → Prop} {x y : V} {H : Hp} (e : x = y) (h : k y H) : k x H := by rw [e]; exact h
/-! the mathematics: one more place behind each -/
def stC (t : Nat) (m : List Nat) : Nat := if 0 < t then m.getLastD 0 + 1 else 0
def extC (n t : Nat) (m : List Nat) : List (List Nat) := (List.range (n - stC t m)).map fun i => m ++ [stC t m + i]
def CM (n : Nat) : Nat → List (List Nat)
  | 0 => [[]]
  | t + 1 => (CM n t).flatMap (extC n t)
theorem CM_choose : ∀ n, n ≤ 4 → ∀ k, k ≤ 4 → CM n k = Al09.choose k (List.range n) := by decide +kernel
theorem CM_small : ∀ n, n ≤ 4 → ∀ k, k ≤ 4 → (CM n k).length ≤ 10 ∧ ∀ m ∈ CM n k, m.length = k ∧ ∀ x ∈ m, x < n := by decide +kernel
theorem flat_len (n t i : Nat) (hn : n ≤ 4) (ht : t ≤ 4) : (((CM n t).take i).flatMap (extC n t)).length ≤ 100 := by
  have h := (CM_small n hn t ht).1
  have : ∀ l : List (List Nat), (l.flatMap (extC n t)).length ≤ 4 * l.length := by
    intro l
    induction l with
    | nil => simp
    | cons a l ih =>
      rw [List.flatMap_cons, List.length_append, List.length_cons]
      have : (extC n t a).length ≤ 4 := by unfold extC; simp; omega
      omega
  have h2 := this ((CM n t).take i)
  rw [List.length_take] at h2
  omega
theorem flat_take {A C : Type} (f : A → List C) {l : List A} {i : Nat} {x : A} (h : l[i]? = some x) : (l.take (i + 1)).flatMap f = (l.take i).flatMap f ++ f x := by
  rw [List.take_add_one, h, List.flatMap_append]; simp
theorem last_int {m : List Nat} (h : m ≠ []) : atI (nis m) (-1) = some (V.int ((m.getLastD 0 : Nat) : Int)) := by
  rcases List.eq_nil_or_concat m with h0 | ⟨u, c, h0⟩
  · exact absurd h0 h
  · rw [List.concat_eq_append] at h0
    subst h0
    unfold nis
    rw [List.map_append]
    have : (u ++ [c]).getLastD 0 = c := by simp
    rw [this]
    exact atI_last _ _
theorem tIf_go {ta tb : TE} {σ : L2.St} {H : Hp} {k : V → Hp → Prop} {c : Bool} (x : V) (hk : k x H) (h1 : c = true → (∀ y, y = x → k y H) → ta σ H k) (h2 : c = false → (∀ y, y = x → k y H) → tb σ H k) : if c = true then ta σ H k else tb σ H k := by
  cases c with
  | true => exact iteT (h1 rfl fun y e => by rw [e]; exact hk)
  | false => exact iteF (h2 rfl fun y e => by rw [e]; exact hk)
section
variable {P : Program} {w : World} {K : PySem.W.Frag} {mg : Str → Option Value} {base : Heap}
def spChoices (K : PySem.W.Frag) : Sp := fun vs H Q _ => ∃ (n k : Nat), vs = [.int n, .int k] ∧ n ≤ 4 ∧ k ≤ 4 ∧
  ∀ H' r ws, Same H H' → H r = none → H' r = some (.lst ws) → IlsN H' (fun b => H b = none) ws (CM n k) → Q (.ref r) H'
theorem ok_choices (T : Txt K mg) : FnOk P w K mg base CX0 1 T.f_choices T.e_choices ["count", "size"] (spChoices K) := by
  refine T.d_choices.F.ok sc_choices (fun vs H Q E h => ?_) (fun cdv A outer s H vs Q E hr h => ?_)
  · obtain ⟨n, k, rfl, _⟩ := h
    rfl
  · obtain ⟨n, k, rfl, hn, hk, q⟩ := h
    refine ⟨_, pss_cons (ps_set (i := 2) sc_choices.nd rfl (.inl rfl) (pe_lst (pa_cons (pe_lst pa_nil) pa_nil)))
      (pss_cons (ps_for PassesOwn.never rfl (pi_range1 (by rfl) T.z_range (pa_cons (pv 1) pa_nil)) (pg_name (i := 3) sc_choices.nd rfl (.inl rfl))
        (pss_cons (ps_set (i := 4) sc_choices.nd rfl (.inl rfl) (pe_lst pa_nil))
        (pss_cons (ps_for PassesOwn.never rfl (pi_list (pv 2)) (pg_name (i := 5) sc_choices.nd rfl (.inr rfl))
          (pss_cons (ps_set (i := 6) sc_choices.nd rfl (.inl rfl) (pe_ifExp (pt_cmpR op_gt (pv 3) pe_int (nomark _)) (pe_op op_add (pe_ix ix_list (pv 5) (pe_un un_neg pe_int) (fun _ _ => rfl)) pe_int) pe_int))
          (pss_one (ps_expr (pe_bm PySem.F.plainAttrs_list PySem.F.slot_list_extend PySem.F.type_list_extend mt_extend (pv 4) (pa_cons
            (pe_lc (own := [("place", 7)]) (g := gName 7) (tt := tYes) rfl sc_choices.nd (pi_range2 (by rfl) T.z_range (pa_cons (pv 6) (pa_cons (pv 0) pa_nil))) (blkOk_by (N := n_choices) (sc := defScope s_choices) (by decide +kernel)) (fun _ _ _ _ _ => pg_name (i := 7) sc_choices.nd rfl (Or.inl rfl)) (fun _ _ _ _ _ => pts_nil)
              (fun _ _ _ _ _ => pe_op op_cat (pv 5) (pe_lst (pa_cons (pv 7) pa_nil)))) pa_nil))))))
        (pss_one (ps_set (i := 2) sc_choices.nd rfl (.inl rfl) (pv 4))))))
      (pss_one (ps_ret (pv 2)))), ?_⟩
    refine ⟨Nat.zero_le _, fun z nz => ?_⟩
    have s0 := same_upd (o := .lst []) nz
    have hz0 : (upd H z (.lst [])) z = some (.lst []) := upd_same
    generalize upd H z (.lst []) = H0 at s0 hz0
    refine ⟨(by show 1 ≤ sizeLine; decide), fun F nF => ?_⟩
    have s1 := same_upd (o := .lst [.ref z]) nF
    have hF1 : (upd H0 F (.lst [.ref z])) F = some (.lst [.ref z]) := upd_same
    have hz1 := s1 _ _ hz0
    generalize upd H0 F (.lst [.ref z]) = H1 at s1 hF1 hz1
    have nFH := s0.free nF
    refine ⟨_, rfl, _, rfl, (by omega), (by omega), ?_⟩
    refine for_range (lo := 0) (n := ((k : Nat) : Int).toNat) (fun t σ H' => ∃ (f : Addr) (y3 y4 y5 y6 y7 : Option V) (ws : List V), σ = [some (.int n), some (.int k), some (.ref f), y3, y4, y5, y6, y7] ∧ Same H H' ∧ H f = none ∧ H' f = some (.lst ws) ∧ IlsN H' (fun b => H b = none) ws (CM n t))
      ⟨F, none, none, none, none, none, [.ref z], rfl, s0.trans s1, nFH, hF1, ⟨z, rfl, nz, hz1⟩, trivial⟩ ?_ ?_
    · rintro t σ H' ht ⟨f, y3, y4, y5, y6, y7, ws, rfl, sm, nf, hf, hI⟩
      have ht4 : t ≤ 4 := by omega
      obtain ⟨hsmall, hmem⟩ := CM_small n hn t ht4
      refine ⟨Nat.zero_le _, fun L nL => ?_⟩
      have sL := same_upd (o := .lst []) nL
      have hL : (upd H' L (.lst [])) L = some (.lst []) := upd_same
      generalize upd H' L (.lst []) = Hs at sL hL
      have smS := sm.trans sL
      have nLH := sm.free nL
      refine ⟨_, rfl, f, rfl, ⟨ws, SqL.of (sL _ _ hf)⟩, ?_⟩
      have e0 : (0 : Int) + ((t : Nat) : Int) = ((t : Nat) : Int) := by omega
      rw [e0]
      refine for_list (K := K) (a := f) (xs := ws) (fun i σ H2 => ∃ (y5 y6 y7 : Option V) (us : List V), σ = [some (.int n), some (.int k), some (.ref f), some (.int t), some (.ref L), y5, y6, y7] ∧ Same H' H2 ∧ H2 L = some (.lst us) ∧ IlsN H2 (fun b => H b = none ∧ b ≠ L) us (((CM n t).take i).flatMap (extC n t)))
        ⟨_, _, _, [], rfl, sL, hL, trivial⟩ (fun i σ H2 _ h => by obtain ⟨_, _, _, _, _, s2, _⟩ := h; exact SqL.of (s2 _ _ hf)) ?_ ?_
      · rintro i v σ H2 hv ⟨z5, z6, z7, us, rfl, s2, hus, hJ⟩
        obtain ⟨b, m, rfl, hm, nb, hb⟩ := hI.get hv
        have hmm := hmem m (List.mem_of_getElem? hm)
        have hb2 := s2 _ _ hb
        have hst : stC t m ≤ n := by
          unfold stC
          split
          · rename_i h0
            have hne : m ≠ [] := by intro e; rw [e] at hmm; simp at hmm; omega
            have : m.getLastD 0 ∈ m := by
              rcases List.eq_nil_or_concat m with h1 | ⟨u, c, h1⟩
              · exact absurd h1 hne
              · rw [List.concat_eq_append] at h1; subst h1; simp
            exact hmm.2 _ this
          · omega
        refine ⟨_, rfl, _, _, rfl, rfl, _, rfl, tIf_go (V.int ((stC t m : Nat) : Int)) ?_ (fun hc h => ?_) (fun hc h => ?_)⟩
        · refine ⟨_, rfl, .inl ⟨rfl, _, SqL.of hus⟩, _, rfl, _, rfl, _, _, rfl, ⟨by omega, by omega, by omega, by omega⟩, fun D nD => ?_⟩
          have eN : (((n : Nat) : Int) - ((stC t m : Nat) : Int)).toNat = n - stC t m := by omega
          rw [eN]
          refine lc_range (lo := ((stC t m : Nat) : Int)) (n := n - stC t m) (fun i H3 => Same H2 H3 ∧ ∃ acc, H3 D = some (.lst acc) ∧ IlsN H3 (fun b => H2 b = none ∧ b ≠ D) acc ((List.range i).map fun j => m ++ [stC t m + j])) ⟨same_upd nD, [], upd_same, trivial⟩ ?_ ?_
          · rintro j H3 hj ⟨s3, acc, hD, hacc⟩
            refine ⟨rfl, _, rfl, _, rfl, (by show 1 ≤ sizeLine; decide), fun p1 n1 => ?_⟩
            have e7 : ((stC t m : Nat) : Int) + ((j : Nat) : Int) = ((stC t m + j : Nat) : Int) := by omega
            rw [e7]
            have s4 := same_upd (o := .lst [.int ((stC t m + j : Nat) : Int)]) n1
            have h4 : (upd H3 p1 (.lst [.int ((stC t m + j : Nat) : Int)])) p1 = some (.lst [.int ((stC t m + j : Nat) : Int)]) := upd_same
            generalize upd H3 p1 (.lst [.int ((stC t m + j : Nat) : Int)]) = H4 at s4 h4
            refine ⟨b, p1, _, _, rfl, rfl, s4 _ _ (s3 _ _ hb2), h4, ?_, fun p2 n2 => ?_⟩
            · rw [List.length_map]
              have : (1000 : Nat) ≤ sizeLine := by decide
              simp; omega
            have s5 := same_upd (o := .lst (nis m ++ [.int ((stC t m + j : Nat) : Int)])) n2
            have h5 : (upd H4 p2 (.lst (nis m ++ [.int ((stC t m + j : Nat) : Int)]))) p2 = some (.lst (nis (m ++ [stC t m + j]))) := by
              rw [upd_same]; unfold nis; rw [List.map_append]; rfl
            generalize upd H4 p2 (.lst (nis m ++ [.int ((stC t m + j : Nat) : Int)])) = H5 at s5 h5
            have s35 : Same H3 H5 := s4.trans s5
            have n23 : H3 p2 = none := s4.free n2
            have hpD : p2 ≠ D := by intro e; rw [e, hD] at n23; cases n23
            refine ⟨acc, s35 _ _ hD, ?_, fun b' o e => ?_, _, upd_same, ?_⟩
            · rw [hacc.len, List.length_map, List.length_range]
              exact small1000 (by omega)
            · rw [upd_ne (ne_of_none e nD)]
              exact s35 _ _ (s3 _ _ e)
            · rw [List.range_succ, List.map_append]
              exact ((hacc.same s35).snoc (b := p2) ⟨s3.free n23, hpD⟩ h5).updN (fun _ h => h.2)
          · rintro H3 ⟨s3, acc, hD, hacc⟩
            have hl1 := hJ.len
            have hl2 := hacc.len
            rw [List.length_map, List.length_range] at hl2
            refine ⟨L, D, us, acc, rfl, rfl, s3 _ _ hus, hD, ?_, ?_⟩
            · have h9 : (((CM n t).take i).flatMap (extC n t)).length ≤ 100 := flat_len n t i hn ht4
              have : (1000 : Nat) ≤ sizeLine := by decide
              omega
            · refine ⟨_, _, _, _, rfl, fun b' o e => ?_, upd_same, ?_⟩
              · rw [upd_ne (ne_of_none e nL)]
                exact s3 _ _ (s2 _ _ e)
              · rw [flat_take (extC n t) hm]
                refine ((hJ.same s3).append (hacc.mono fun b' hb' => ⟨(sm.trans s2).free hb'.1, fun e => ?_⟩)).updN (fun _ h => h.2)
                rw [e, hus] at hb'; cases hb'.1
        · have h0 : 0 < t := by have := of_decide_eq_true hc; omega
          have hne : m ≠ [] := by intro e; rw [e] at hmm; simp at hmm; omega
          refine ⟨_, rfl, 1, rfl, b, _, -1, _, rfl, rfl, SqL.of hb2, last_int hne, _, _, rfl, rfl, ?_⟩
          have e9 : V.int (((m.getLastD 0 : Nat) : Int) + 1) = V.int ((stC t m : Nat) : Int) := by unfold stC; rw [if_pos h0]; congr 1
          exact h _ e9
        · have h0 : ¬ 0 < t := by have := of_decide_eq_false hc; omega
          have e9 : V.int 0 = V.int ((stC t m : Nat) : Int) := by unfold stC; rw [if_neg h0]; rfl
          exact h _ e9
      · rintro σ H2 ⟨z5, z6, z7, us, rfl, s2, hus, hJ⟩
        refine ⟨_, rfl, L, _, _, _, _, _, us, rfl, sm.trans s2, nLH, hus, ?_⟩
        rw [hI.len, List.take_length] at hJ
        exact hJ.mono fun _ h => h.1
    · rintro σ H' ⟨f, y3, y4, y5, y6, y7, ws, rfl, sm, nf, hf, hI⟩
      refine ⟨_, rfl, q H' f ws sm nf hf ?_⟩
      rw [Int.toNat_natCast] at hI
      exact hI
end
end W
set_option maxRecDepth 100000
namespace W
open PySem PySem.Spec PyProof.Rows L2
theorem getD_some {A : Type} {l : List A} {i : Nat} {d : A} (h : i < l.length) : l[i]? = some (l.getD i d) := by
  rw [List.getD_eq_getElem?_getD, List.getElem?_eq_getElem h]; rfl
def prow (M : Ma.Mat) (ci : List Nat) (i : Nat) : List (List Rat) := ci.map fun j => ((M.getD i []).getD j 0).1
theorem vals_pick (M : Ma.Mat) (ri ci : List Nat) : Ma.vals (Ma.pick (ri.map fun i => M.getD i []) ci) = ri.map (prow M ci) := by
  unfold Ma.vals Ma.pick prow
  rw [List.map_map, List.map_map]
  refine List.map_congr_left fun i _ => ?_
  show (ci.map _).map _ = _
  rw [List.map_map]; rfl
theorem PolV.avoid {K : PySem.W.Frag} {H : Hp} {b D : Addr} {l : List Rat} (h : PolV K H b l) (nD : H D = none) : b ≠ D := by
  obtain ⟨xs, e, _⟩ := h
  exact ne_of_none e nD
section
variable {P : Program} {w : World} {K : PySem.W.Frag} {mg : Str → Option Value} {base : Heap}
def spPart (K : PySem.W.Frag) : Sp := fun vs H Q _ => ∃ (a b c : Addr) (M : Ma.Mat) (ri ci : List Nat), vs = [.ref a, .ref b, .ref c] ∧ MatN K H Any a (Ma.vals M) ∧ H b = some (.lst (nis ri)) ∧ H c = some (.lst (nis ci)) ∧
  (∀ i ∈ ri, i < M.length) ∧ (∀ j ∈ ci, ∀ r ∈ M, j < r.length) ∧ ri.length ≤ 1000 ∧ ci.length ≤ 1000 ∧
  ∀ H' r, Same H H' → MatN K H' Any r (Ma.vals (Ma.pick (ri.map fun i => M.getD i []) ci)) → Q (.ref r) H'
theorem ok_part_of (T : Txt K mg) : FnOk P w K mg base CX0 1 T.f_part_of T.e_part_of ["rows", "chosen_rows", "chosen_columns"] (spPart K) := by
  refine T.d_part_of.F.ok sc_part_of (fun vs H Q E h => ?_) (fun cdv A outer s H vs Q E hr h => ?_)
  · obtain ⟨a, b, c, M, ri, ci, rfl, _⟩ := h
    rfl
  · obtain ⟨a, b, c, M, ri, ci, rfl, ⟨_, ws, hws, hwT⟩, hb, hc, hri, hci, lri, lci, k⟩ := h
    refine ⟨_, pss_cons (ps_set (i := 3) sc_part_of.nd rfl (.inl rfl) (pe_lst pa_nil))
      (pss_cons (ps_for PassesOwn.never rfl (pi_list (pv 1)) (pg_name (i := 4) sc_part_of.nd rfl (.inl rfl))
        (pss_cons (ps_set (i := 5) sc_part_of.nd rfl (.inr rfl) (pe_ix ix_list (pv 0) (pv 4) (fun _ _ => rfl)))
        (pss_one (ps_expr (pe_bm PySem.F.plainAttrs_list PySem.F.slot_list_append PySem.F.type_list_append mt_append (pv 3) (pa_cons
          (pe_lc (own := [("column", 6)]) (g := gName 6) (tt := tYes) rfl sc_part_of.nd (pi_list (pv 2)) (blkOk_by (N := n_part_of) (sc := defScope s_part_of) (by decide +kernel)) (fun _ _ _ _ _ => pg_name (i := 6) sc_part_of.nd rfl (Or.inl rfl)) (fun _ _ _ _ _ => pts_nil)
            (fun _ _ _ _ _ => pe_ix (show IxR _ (rIxL K) from ix_list) (pv 5) (pv 6) (fun _ _ => rfl))) pa_nil))))))
      (pss_one (ps_ret (pv 3)))), ?_⟩
    refine ⟨Nat.zero_le _, fun R nR => ?_⟩
    have s1 : Same H (upd H R (.lst [])) := same_upd nR
    have hR1 : (upd H R (.lst [])) R = some (.lst []) := upd_same
    generalize upd H R (.lst []) = H1 at s1 hR1
    refine ⟨_, rfl, b, rfl, ⟨_, SqL.of (s1 _ _ hb)⟩, ?_⟩
    refine for_list (K := K) (a := b) (xs := nis ri) (fun i σ H' => ∃ (y4 y5 y6 : Option V) (rs : List V), σ = [some (.ref a), some (.ref b), some (.ref c), some (.ref R), y4, y5, y6] ∧ Same H H' ∧ H' R = some (.lst rs) ∧ TabsN K H' (fun b => b ≠ R) rs ((ri.take i).map (prow M ci)))
      ⟨none, none, none, [], rfl, s1, hR1, trivial⟩ (fun i σ H' _ h => by obtain ⟨_, _, _, _, _, sm, _⟩ := h; exact SqL.of (sm _ _ hb)) ?_ ?_
    · rintro i x σ H' hx ⟨y4, y5, y6, rs, rfl, sm, hrs, hT⟩
      rw [List.getElem?_map] at hx
      obtain ⟨pl, hpl, rfl⟩ := Option.map_eq_some_iff.mp hx
      have hplM := hri pl (List.mem_of_getElem? hpl)
      obtain ⟨br, hbr, _, us, hus, huP⟩ := hwT.at (i := pl) (c := (M.getD pl []).map fun p => p.1) (by
        unfold Ma.vals
        rw [List.getElem?_map, getD_some hplM]; rfl)
      refine ⟨_, rfl, _, rfl, a, ws, _, _, rfl, rfl, SqL.of (sm _ _ hws), atI_nat hbr, ?_⟩
      refine ⟨_, rfl, .inl ⟨rfl, _, SqL.of hrs⟩, _, rfl, c, rfl, ⟨_, SqL.of (sm _ _ hc)⟩, fun D nD => ?_⟩
      have hMr : M.getD pl [] ∈ M := by
        rw [List.getD_eq_getElem?_getD, List.getElem?_eq_getElem hplM]; exact List.getElem_mem hplM
      refine lc_list (K := K) (a := c) (xs := nis ci) (fun j H2 => Same H' H2 ∧ ∃ acc, H2 D = some (.lst acc) ∧ PolsN K H2 (fun b => H b ≠ none) acc ((ci.take j).map fun j => ((M.getD pl []).getD j 0).1)) ⟨same_upd nD, [], upd_same, trivial⟩ (fun j H2 _ h => SqL.of (h.1 _ _ (sm _ _ hc))) ?_ ?_
      · rintro j x H2 hx2 ⟨s2, acc, hD, hacc⟩
        rw [List.getElem?_map] at hx2
        obtain ⟨cl, hcl, rfl⟩ := Option.map_eq_some_iff.mp hx2
        have hcM := hci cl (List.mem_of_getElem? hcl) _ hMr
        obtain ⟨bp, hbp, _, hPp⟩ := huP.at (i := cl) (c := ((M.getD pl []).getD cl 0).1) (by
          rw [List.getElem?_map, getD_some (d := 0) hcM]; rfl)
        have hbN : H bp ≠ none := by obtain ⟨xs, e, _⟩ := id hPp; rw [e]; simp
        refine ⟨rfl, _, rfl, _, rfl, br, us, _, _, rfl, rfl, SqL.of (s2 _ _ (sm _ _ hus)), atI_nat hbp, acc, hD, ?_, fun b' o e => ?_, _, upd_same, ?_⟩
        · rw [hacc.len, List.length_map, List.length_take]
          exact small1000 (by omega)
        · rw [upd_ne (ne_of_none e nD)]
          exact s2 _ _ e
        · rw [List.take_add_one, hcl, List.map_append]
          refine (hacc.snoc (b := bp) hbN ((hPp.same sm).same s2)).updN hD (fun b' hb' e => ?_)
          rw [e] at hb'
          exact hb' (sm.free nD)
      · rintro H2 ⟨s2, acc, hD, hacc⟩
        rw [List.length_map, List.take_length] at hacc
        have hDR : D ≠ R := by intro e; rw [e, hrs] at nD; cases nD
        have hrow : TabN K H2 (fun b => b ≠ R) D (prow M ci pl) := ⟨hDR, acc, hD, hacc.mono fun b' hb' e => hb' (by rw [e]; exact nR)⟩
        refine ⟨R, rs, _, rfl, rfl, s2 _ _ hrs, ?_, ?_⟩
        · rw [hT.len, List.length_map, List.length_take]
          exact small1000 (by omega)
        · refine ⟨_, _, _, _, rfl, fun b' o e => ?_, upd_same, ?_⟩
          · rw [upd_ne (ne_of_none e nR)]
            exact s2 _ _ (sm _ _ e)
          · rw [List.take_add_one, hpl, List.map_append]
            exact ((hT.same s2).snoc hrow).updN (s2 _ _ hrs) (fun _ h => h)
    · rintro σ H' ⟨y4, y5, y6, rs, rfl, sm, hrs, hT⟩
      rw [List.length_map, List.take_length] at hT
      refine ⟨_, rfl, k H' R sm ⟨trivial, rs, hrs, ?_⟩⟩
      rw [vals_pick]
      exact hT.mono fun _ _ => trivial
/-- the determinants of all choices -/
def minorsM (M : Ma.Mat) (n k : Nat) : List Ma.P := (CM n k).flatMap fun ri => (CM n k).map fun ci => Ma.detP k (Ma.pick (ri.map fun i => M.getD i []) ci)
theorem good_pick {n k : Nat} {M : Ma.Mat} (h : Ma.GoodMat n M) {ri ci : List Nat} (hr : ri.length = k) (hc : ci.length = k) (hrn : ∀ i ∈ ri, i < n) : Ma.GoodMat k (Ma.pick (ri.map fun i => M.getD i []) ci) := by
  refine ⟨by unfold Ma.pick; simp [hr], ?_, Ma.pick_good ?_⟩
  · intro r hr'
    unfold Ma.pick at hr'
    rw [List.mem_map] at hr'
    obtain ⟨t, _, e⟩ := hr'
    rw [← e, List.length_map, hc]
  · intro r hr'
    rw [List.mem_map] at hr'
    obtain ⟨i, hi, e⟩ := hr'
    have hi' : i < M.length := by rw [h.rows]; exact hrn i hi
    refine h.good r ?_
    rw [← e, List.getD_eq_getElem?_getD, List.getElem?_eq_getElem hi']
    exact List.getElem_mem hi'
def spMinors (K : PySem.W.Frag) : Sp := fun vs H Q _ => ∃ (a : Addr) (M : Ma.Mat) (n k : Nat), vs = [.ref a, .int k] ∧ MatN K H Any a (Ma.vals M) ∧ Ma.GoodMat n M ∧ n ≤ 4 ∧ k ≤ 4 ∧
  ∀ H' r ws, Same H H' → H r = none → H' r = some (.lst ws) → PolsN K H' (fun b => H b = none) ws ((minorsM M n k).map fun p => p.1) → Q (.ref r) H'
theorem ok_minors (T : Txt K mg) : FnOk P w K mg base CX0 11 T.f_minors T.e_minors ["rows", "size"] (spMinors K) := by
  refine T.d_minors.F.ok sc_minors (fun vs H Q E h => ?_) (fun cdv A outer s H vs Q E hr h => ?_)
  · obtain ⟨a, M, n, k, rfl, _⟩ := h
    rfl
  · obtain ⟨a, M, n, k, rfl, hM, gm, hn, hk, q⟩ := h
    obtain ⟨_, ws, hws, hwT⟩ := id hM
    have hwl := hwT.len
    rw [vals_len, gm.rows] at hwl
    obtain ⟨hsm, hmem⟩ := CM_small n hn k hk
    refine ⟨_, pss_cons (ps_set (i := 2) sc_minors.nd rfl (.inl rfl) (pe_D T.d_choices (ok_choices T) hr (pa_cons (pe_callB call_len_seq (by rfl) T.z_len PySem.boot_len (pa_cons (pv 0) pa_nil)) (pa_cons (pv 1) pa_nil))))
      (pss_cons (ps_set (i := 3) sc_minors.nd rfl (.inl rfl) (pe_lst pa_nil))
      (pss_cons (ps_for PassesOwn.never rfl (pi_list (pv 2)) (pg_name (i := 4) sc_minors.nd rfl (.inr rfl))
        (pss_one (ps_expr (pe_bm PySem.F.plainAttrs_list PySem.F.slot_list_extend PySem.F.type_list_extend mt_extend (pv 3) (pa_cons
          (pe_lc (own := [("columns", 5)]) (g := gName 5) (tt := tYes) rfl sc_minors.nd (pi_list (pv 2)) (blkOk_by (N := n_minors) (sc := defScope s_minors) (by decide +kernel)) (fun _ _ _ _ _ => pg_name (i := 5) sc_minors.nd rfl (Or.inl rfl)) (fun _ _ _ _ _ => pts_nil)
            (fun _ _ _ _ _ => pe_D T.d_determinant (ok_determinant T k hk) hr (pa_cons (pe_D T.d_part_of (ok_part_of T) hr (pa_cons (pv 0) (pa_cons (pv 4) (pa_cons (pv 5) pa_nil)))) pa_nil) (by omega))) pa_nil)))))
      (pss_one (ps_ret (pv 3))))), ?_⟩
    refine ⟨_, rfl, a, ws, rfl, .inl (SqL.of hws), _, rfl, n, k, by rw [hwl]; rfl, hn, hk, fun H1 C cs s1 nC hC hI => ?_⟩
    refine ⟨Nat.zero_le _, fun R nR => ?_⟩
    have s2 := same_upd (o := .lst []) nR
    have hR2 : (upd H1 R (.lst [])) R = some (.lst []) := upd_same
    generalize upd H1 R (.lst []) = H2 at s2 hR2
    have s12 := s1.trans s2
    have nRH := s1.free nR
    refine ⟨_, rfl, C, rfl, ⟨cs, SqL.of (s2 _ _ hC)⟩, ?_⟩
    refine for_list (K := K) (a := C) (xs := cs) (fun i σ H' => ∃ (y4 y5 : Option V) (rs : List V), σ = [some (.ref a), some (.int k), some (.ref C), some (.ref R), y4, y5] ∧ Same H1 H' ∧ H' R = some (.lst rs) ∧ PolsN K H' (fun b => H b = none ∧ b ≠ R) rs ((((CM n k).take i).flatMap fun ri => (CM n k).map fun ci => Ma.detP k (Ma.pick (ri.map fun i => M.getD i []) ci)).map fun p => p.1))
      ⟨none, none, [], rfl, s2, hR2, trivial⟩ (fun i σ H' _ h => by obtain ⟨_, _, _, _, sm, _⟩ := h; exact SqL.of (sm _ _ hC)) ?_ ?_
    · rintro i x σ H' hx ⟨y4, y5, rs, rfl, sm, hrs, hP⟩
      obtain ⟨b, ri, rfl, hri, _, hb⟩ := hI.get hx
      have hrm := hmem ri (List.mem_of_getElem? hri)
      refine ⟨_, rfl, .inl ⟨rfl, _, SqL.of hrs⟩, _, rfl, C, rfl, ⟨cs, SqL.of (sm _ _ hC)⟩, fun D nD => ?_⟩
      refine lc_list (K := K) (a := C) (xs := cs) (fun j H3 => Same H' H3 ∧ ∃ acc, H3 D = some (.lst acc) ∧ PolsN K H3 (fun b => H' b = none ∧ b ≠ D) acc (((CM n k).take j).map fun ci => (Ma.detP k (Ma.pick (ri.map fun i => M.getD i []) ci)).1)) ⟨same_upd nD, [], upd_same, trivial⟩ (fun j H3 _ h => SqL.of (h.1 _ _ (sm _ _ hC))) ?_ ?_
      · rintro j x H3 hx2 ⟨s3, acc, hD, hacc⟩
        obtain ⟨c, ci, rfl, hci, _, hc⟩ := hI.get hx2
        have hcm := hmem ci (List.mem_of_getElem? hci)
        have sm3 := sm.trans s3
        refine ⟨rfl, _, rfl, _, rfl, _, rfl, a, b, c, M, ri, ci, rfl, (hM.same s1).same sm3, sm3 _ _ hb, sm3 _ _ hc, fun i hi => by rw [gm.rows]; exact hrm.2 i hi, fun j hj r hr' => by rw [gm.wid r hr']; exact hcm.2 j hj, by omega, by omega, fun H4 p4 s4 h4 => ?_⟩
        refine ⟨p4, _, rfl, h4, good_pick gm hrm.1 hcm.1 hrm.2, fun H5 p5 s5 n5 h5 => ?_⟩
        have s35 := s4.trans s5
        have n53 : H3 p5 = none := s4.free n5
        have hpD : p5 ≠ D := by intro e; rw [e, hD] at n53; cases n53
        have hD5 := s35 _ _ hD
        refine ⟨acc, hD5, ?_, fun b' o e => ?_, _, upd_same, ?_⟩
        · rw [hacc.len, List.length_map, List.length_take]
          exact small1000 (by omega)
        · rw [upd_ne (ne_of_none e nD)]
          exact s35 _ _ (s3 _ _ e)
        · rw [List.take_add_one, hci, List.map_append]
          exact ((hacc.same s35).snoc ⟨s3.free n53, hpD⟩ h5).updN hD5 (fun _ h => h.2)
      · rintro H3 ⟨s3, acc, hD, hacc⟩
        rw [hI.len, List.take_length] at hacc
        have hl1 := hP.len
        have hl2 := hacc.len
        refine ⟨R, D, rs, acc, rfl, rfl, s3 _ _ hrs, hD, ?_, ?_⟩
        · have h9 : (((CM n k).take i).flatMap fun ri => (CM n k).map fun ci => Ma.detP k (Ma.pick (ri.map fun i => M.getD i []) ci)).length ≤ 100 := by
            have : ∀ l : List (List Nat), (l.flatMap fun ri => (CM n k).map fun ci => Ma.detP k (Ma.pick (ri.map fun i => M.getD i []) ci)).length ≤ 10 * l.length := by
              intro l
              induction l with
              | nil => simp
              | cons x l ih =>
                rw [List.flatMap_cons, List.length_append, List.length_cons, List.length_map]
                omega
            have h2 := this ((CM n k).take i)
            rw [List.length_take] at h2
            omega
          rw [List.length_map] at hl1 hl2
          have : (1000 : Nat) ≤ sizeLine := by decide
          omega
        · refine ⟨_, _, _, rfl, fun b' o e => ?_, upd_same, ?_⟩
          · rw [upd_ne (ne_of_none e nR)]
            exact s3 _ _ (sm _ _ e)
          · rw [flat_take _ hri, List.map_append, List.map_map]
            refine ((hP.same s3).append (hacc.mono fun b' hb' => ⟨(s1.trans sm).free hb'.1, fun e => ?_⟩)).updN (s3 _ _ hrs) (fun _ h => h.2)
            rw [e, hrs] at hb'; cases hb'.1
    · rintro σ H' ⟨y4, y5, rs, rfl, sm, hrs, hP⟩
      refine ⟨_, rfl, q H' R rs (s1.trans sm) nRH hrs ?_⟩
      rw [hI.len, List.take_length] at hP
      exact hP.mono fun _ h => h.1
end
end W
set_option maxRecDepth 100000
namespace W
open PySem PySem.Spec PyProof.Rows L2
/-! the mathematics -/
theorem minorsM_eq {n : Nat} {t : Al09.Table} (h : Ma.Sq n t) (hn : n ≤ 4) {k : Nat} (hk : k ≤ 4) : minorsM (Ma.lessP t) n k = Ma.minorsP t k := by
  unfold minorsM Ma.minorsP
  rw [h.rows, ← CM_choose n hn k hk]
  have e : Ma.lessP t = (List.range n).map fun i => (Ma.lessP t).getD i [] := by
    apply List.ext_getElem
    · rw [(Ma.lessP_isX h).rows]; simp
    · intro i h1 h2
      simp only [List.getElem_map, List.getElem_range]
      rw [List.getD_eq_getElem?_getD, List.getElem?_eq_getElem h1]; rfl
  conv => rhs; rw [e, Ma.choose_map, ← CM_choose n hn k hk]
  rw [List.flatMap_map]
theorem comF_val : ∀ (l : List Ma.P), comF (l.map fun p => p.1) = (Ma.comL l 0).1 := by
  intro l
  unfold comF
  rw [← Ma.P.zero_val, Ma.comL_val]
theorem comOk_minors {n : Nat} {t : Al09.Table} (h : Ma.Sq n t) (hn : n ≤ 4) (hs : Ma.SmallT t) {k : Nat} (hk : k ≤ n) (hk0 : 0 < k) : ComOk ((Ma.minorsP t k).map fun p => p.1) := by
  refine ⟨fun l hl => ?_, fun i l hl => ?_⟩
  · rw [List.mem_map] at hl
    obtain ⟨p, _, e⟩ := hl
    rw [← e]; exact p.2
  · rw [List.getElem?_map] at hl
    obtain ⟨p, hp, rfl⟩ := Option.map_eq_some_iff.mp hl
    have hpm := List.mem_of_getElem? hp
    rw [← List.map_take, comF_val]
    by_cases h3 : k ≤ 3
    · have hm : ∀ q ∈ (Ma.minorsP t k).take i, Ma.Ht q 312 ∧ q.len ≤ 4 := fun q hq => Ma.minor_ht3 h hn hs h3 (List.mem_of_mem_take hq)
      have c := Ma.comL_ht2 (b := 312) (l := (Ma.minorsP t k).take i) (fun q hq => ⟨(hm q hq).1, by have := (hm q hq).2; omega⟩)
      have c4 := c.2 4 (fun q hq => (hm q hq).2)
      have hp3 := Ma.minor_ht3 h hn hs h3 hpm
      have l1 : (Ma.comL ((Ma.minorsP t k).take i) 0).1.length ≤ 4 := c4.1
      have l2 : p.1.length ≤ 4 := hp3.2
      refine ⟨(Ma.comL ((Ma.minorsP t k).take i) 0).2, p.2, by omega, by omega, 10, (if (Ma.comL ((Ma.minorsP t k).take i) 0).1.length = 4 then 312 else 492), 312, ?_, Ma.Ht.htP hp3.1, Ma.okE_minors _ l1 _ l2⟩
      split
      · rename_i e4
        exact Ma.Ht.htP (c4.2 e4)
      · exact Ma.Ht.htP c.1
    · have hk4 : k = n := by omega
      subst hk4
      rw [Ma.minors_last h] at hp ⊢
      have hi : i = 0 := by
        have := (List.getElem?_eq_some_iff.mp hp).1
        simp at this; exact this
      subst hi
      have hpc := Ma.minor_ht h hn hs hpm
      have l2 : p.1.length ≤ 5 := hpc.2
      show EucOk (Ma.comL [] 0).1 p.1
      have e0 : (Ma.comL [] 0).1 = [] := Ma.P.zero_val
      rw [e0]
      exact ⟨Ma.tr_nil, p.2, by simp, by omega, 10, 0, 418, Ma.htP_nil 0, Ma.Ht.htP hpc.1, Ma.okE_char _ l2⟩
theorem small_fits {c : Rat} (h : Ma.Small c) : Fits LIM c := Fits.mono (n := LIM) (m := 20) h (by decide)
theorem divOk_dP {n : Nat} {t : Al09.Table} (h : Ma.Sq n t) (hn : n ≤ 4) (hs : Ma.SmallT t) {k : Nat} (hk : k < n) : DivOk (Ma.dP t (k + 1)).1 (Ma.dP t k).1 := by
  have h1 := Ma.dP_ht h hn hs (show k + 1 ≤ n by omega)
  have h2 := Ma.dP_ht h hn hs (show k ≤ n by omega)
  have l1 : (Ma.dP t (k + 1)).1.length ≤ 5 := h1.2
  have l2 : (Ma.dP t k).1.length ≤ 5 := h2.2
  have ne : (Ma.dP t k).1 ≠ [] := fun e => Ma.dP_ne h (show k ≤ n by omega) (Ma.P.eq_zero_iff.mpr e)
  have := Ma.pos_len ne
  refine ⟨(Ma.dP t (k + 1)).2, (Ma.dP t k).2, ne, by omega, by omega, 598, 598, Ma.Ht.htP h1.1, Ma.Ht.htP h2.1, ?_, by decide⟩
  have : ((Ma.dP t (k + 1)).1.length + 1 - (Ma.dP t k).1.length) * (598 + 1) ≤ 5 * (598 + 1) := Nat.mul_le_mul_right _ (by omega)
  show _ ≤ 4400
  omega
/-- behind i sizes -/
def formsTo (t : Al09.Table) (i : Nat) : List (List Rat) := (((List.range i).map fun k => Ma.fP t k).filter fun p => decide (2 ≤ p.1.length)).map fun p => p.1
theorem formsTo_succ {n : Nat} {t : Al09.Table} (h : Ma.Sq n t) {i : Nat} (hi : i < n) : formsTo t (i + 1) = if (Ma.fP t i).1 = [1] then formsTo t i else formsTo t i ++ [(Ma.fP t i).1] := by
  unfold formsTo
  rw [List.range_succ, List.map_append, List.filter_append, List.map_append]
  have hld := (Ma.fP_all h hi).2.1
  have hne : Ma.fP t i ≠ 0 := by intro e; rw [e] at hld; exact absurd hld (by show AlOne.lead (0 : Ma.P).1 ≠ 1; rw [Ma.P.zero_val]; decide)
  have hpos := Ma.P.len_pos hne
  have hpos' : 0 < (Ma.fP t i).1.length := hpos
  by_cases h1 : (Ma.fP t i).1 = [1]
  · rw [if_pos h1]
    simp [h1]
  · rw [if_neg h1]
    have h2 : 2 ≤ (Ma.fP t i).1.length := by
      apply Classical.byContradiction
      intro h3
      have hl1 : (Ma.fP t i).len = 1 := by show (Ma.fP t i).1.length = 1; omega
      have := Ma.P.eq_cst hl1
      rw [hld] at this
      apply h1
      rw [this]
      show AlOne.trim [1] = [1]
      rw [Ma.trim_cons]; simp [AlOne.trim]
    simp [h2]
theorem formsTo_all {n : Nat} {t : Al09.Table} (h : Ma.Sq n t) : formsTo t n = Al09.forms t := by
  rw [Ma.forms_val h]
  unfold formsTo Ma.formsP
  rw [h.rows]
theorem formsTo_len (t : Al09.Table) (i : Nat) : (formsTo t i).length ≤ i := by
  unfold formsTo
  rw [List.length_map]
  exact Nat.le_trans (List.length_filter_le _ _) (by simp)
section
variable {P : Program} {w : World} {K : PySem.W.Frag} {mg : Str → Option Value} {base : Heap}
def spForms (K : PySem.W.Frag) : Sp := fun vs H Q _ => ∃ (a : Addr) (t : Al09.Table) (n : Nat), vs = [.ref a] ∧ TabN K H Any a t ∧ Ma.Sq n t ∧ n ≤ 4 ∧ Ma.SmallT t ∧
  ∀ H' r ws, Same H H' → H r = none → H' r = some (.lst ws) → PolsN K H' (fun b => H b = none) ws (Al09.forms t) → Q (.ref r) H'
theorem ok_forms_of (T : Txt K mg) : FnOk P w K mg base CX0 12 T.f_forms_of T.e_forms_of ["table"] (spForms K) := by
  refine T.d_forms_of.F.ok sc_forms_of (fun vs H Q E h => ?_) (fun cdv A outer s H vs Q E hr h => ?_)
  · obtain ⟨a, t, n, rfl, _⟩ := h
    rfl
  · obtain ⟨a, t, n, rfl, hT, sq, hn, hs, q⟩ := h
    refine ⟨_, pss_cons (ps_set (i := 1) sc_forms_of.nd rfl (.inl rfl) (pe_D T.d_x_less (ok_x_less T) hr (pa_cons (pv 0) pa_nil)))
      (pss_cons (ps_set (i := 2) sc_forms_of.nd rfl (.inl rfl) (pe_lst pa_nil))
      (pss_cons (ps_set (i := 3) sc_forms_of.nd rfl (.inl rfl) (pe_lst (pa_cons (pe_glob (v := .ref T.a_ONE) (by rfl) T.g_ONE rfl) pa_nil)))
      (pss_cons (ps_for PassesOwn.never rfl (pi_range2 (by rfl) T.z_range (pa_cons pe_int (pa_cons (pe_op op_add (pe_callB call_len_seq (by rfl) T.z_len PySem.boot_len (pa_cons (pv 1) pa_nil)) pe_int) pa_nil))) (pg_name (i := 4) sc_forms_of.nd rfl (.inl rfl))
        (pss_cons (ps_set (i := 5) sc_forms_of.nd rfl (.inl rfl) (pe_D T.d_common_of_all (ok_common_of_all T) hr (pa_cons (pe_D T.d_minors (ok_minors T) hr (pa_cons (pv 1) (pa_cons (pv 4) pa_nil))) pa_nil)))
        (pss_cons (ps_set (i := 6) sc_forms_of.nd rfl (.inl rfl) (pe_ix ix_tup (pe_D T.d_poly_divided (ok_poly_divided T) hr (pa_cons (pv 5) (pa_cons (pv 3) pa_nil))) pe_int (fun _ _ => rfl)))
        (pss_cons (ps_if (pt_cmpR (op_neD (hu64 hr)) (pv 6) (pe_lst (pa_cons (pe_glob (v := .ref T.a_ONE) (by rfl) T.g_ONE rfl) pa_nil)) (nomark _))
          (pss_one (ps_expr (pe_bm PySem.F.plainAttrs_list PySem.F.slot_list_append PySem.F.type_list_append mt_append (pv 2) (pa_cons (pv 6) pa_nil)))) pss_nil)
        (pss_one (ps_set (i := 3) sc_forms_of.nd rfl (.inl rfl) (pv 5)))))))
      (pss_one (ps_ret (pv 2)))))), ?_⟩
    refine ⟨_, rfl, a, t, n, rfl, hT, sq, by omega, fun r hr' c hc => small_fits (hs r hr' c hc), fun H1 M s1 hM => ?_⟩
    obtain ⟨_, ws, hws, hwT⟩ := id hM
    have hwl := hwT.len
    rw [lessX_len, sq.rows] at hwl
    have hM' : MatN K H1 Any M (Ma.vals (Ma.lessP t)) := by rw [Ma.lessP_vals]; exact hM.mono fun _ _ => trivial
    refine ⟨Nat.zero_le _, fun R nR => ?_⟩
    have s2 := same_upd (o := .lst []) nR
    have hR2 : (upd H1 R (.lst [])) R = some (.lst []) := upd_same
    generalize upd H1 R (.lst []) = H2 at s2 hR2
    refine ⟨(by show 1 ≤ sizeLine; decide), fun B nB => ?_⟩
    have s3 := same_upd (o := .lst [.ref T.a_ONE]) nB
    have hB3 : PolV K (upd H2 B (.lst [.ref T.a_ONE])) B (Ma.dP t 0).1 := by
      rw [Ma.dP_zero, Ma.P.one_val]
      exact ⟨_, upd_same, T.one _, trivial⟩
    have hBR : B ≠ R := by intro e; rw [e, hR2] at nB; cases nB
    have hR3 := s3 _ _ hR2
    generalize upd H2 B (.lst [.ref T.a_ONE]) = H3 at s3 hB3 hR3
    have s13 : Same H1 H3 := s2.trans s3
    have nRH := s1.free nR
    have eln : (ws.length : Int) + 1 = ((n + 1 : Nat) : Int) := by omega
    refine ⟨_, rfl, M, ws, rfl, .inl (SqL.of (s13 _ _ hws)), _, _, rfl, rfl, _, _, rfl, ⟨by omega, by omega, by omega, by omega⟩, ?_⟩
    have eN : ((ws.length : Int) + 1 - 1).toNat = n := by omega
    rw [eN]
    refine for_range (lo := 1) (n := n) (fun i σ H' => ∃ (b : Addr) (y4 y5 y6 : Option V) (rs : List V), σ = [some (.ref a), some (.ref M), some (.ref R), some (.ref b), y4, y5, y6] ∧ Same H1 H' ∧ H' R = some (.lst rs) ∧ PolsN K H' (fun b => H b = none ∧ b ≠ R) rs (formsTo t i) ∧ b ≠ R ∧ PolV K H' b (Ma.dP t i).1)
      ⟨B, none, none, none, [], rfl, s13, hR3, trivial, hBR, hB3⟩ ?_ ?_
    · rintro i σ H' hi ⟨b, y4, y5, y6, rs, rfl, sm, hrs, hP, hbR, hb⟩
      have e4 : (1 : Int) + ((i : Nat) : Int) = ((i + 1 : Nat) : Int) := by omega
      rw [e4]
      refine ⟨_, rfl, _, rfl, M, _, n, i + 1, rfl, hM'.same sm, Ma.good_lessP sq hn hs, hn, by omega, fun H4 m4 ms s4 n4 hm4 hP4 => ?_⟩
      rw [minorsM_eq sq hn (by omega)] at hP4
      refine ⟨m4, ms, _, rfl, hm4, hP4.pols, comOk_minors sq hn hs (by omega) (by omega), fun H5 m5 s5 n5 h5 => ?_⟩
      have h5' : PolV K H5 m5 (Ma.dP t (i + 1)).1 := by rw [comF_val] at h5; exact h5
      have s45 := s4.trans s5
      refine ⟨_, rfl, _, rfl, m5, b, _, _, rfl, h5', hb.same s45, divOk_dP sq hn hs hi, fun H6 tt r1 r2 s6 ht n1 n2 h1 h2 => ?_⟩
      have h1' : PolV K H6 r1 (Ma.fP t i).1 := h1
      refine ⟨tt, _, 0, _, rfl, rfl, ht, atI_nat (j := 0) rfl, ?_⟩
      refine ⟨_, rfl, (by show 1 ≤ sizeLine; decide), fun o no => ?_⟩
      have s7 := same_upd (o := .lst [.ref T.a_ONE]) no
      have ho : PolV K (upd H6 o (.lst [.ref T.a_ONE])) o [1] := ⟨_, upd_same, T.one _, trivial⟩
      have h1'' := h1'.same s7
      generalize upd H6 o (.lst [.ref T.a_ONE]) = H7 at s7 ho h1''
      have s47 : Same H' H7 := s45.trans (s6.trans s7)
      have hrs7 := s47 _ _ hrs
      have n5' : H' m5 = none := s4.free n5
      have hm5R : m5 ≠ R := by intro e; rw [e, hrs] at n5'; cases n5'
      have n1' : H' r1 = none := s45.free n1
      have hr1R : r1 ≠ R := by intro e; rw [e, hrs] at n1'; cases n1'
      have h57 := (h5'.same s6).same s7
      refine ⟨_, _, h1''.dp, ho.dp, shaped_dat _, shaped_dat _, _, rfl, ?_⟩
      rw [eqv_dat]
      by_cases hf : (Ma.fP t i).1 = [1]
      · rw [decide_eq_true hf]
        refine iteF ?_
        refine ⟨_, rfl, m5, _, _, _, rs, rfl, sm.trans s47, hrs7, ?_, hm5R, h57⟩
        rw [formsTo_succ sq hi, if_pos hf]
        exact hP.same s47
      · rw [decide_eq_false hf]
        refine iteT ?_
        refine ⟨_, rfl, .inl ⟨rfl, _, SqL.of hrs7⟩, _, rfl, R, rs, _, rfl, rfl, hrs7, ?_, ?_⟩
        · rw [hP.len]
          have := formsTo_len t i
          exact small1000 (by omega)
        · refine ⟨_, rfl, m5, _, _, _, _, rfl, fun b' o' e => ?_, upd_same, ?_, hm5R, h57.updN hrs7 hm5R⟩
          · rw [upd_ne (ne_of_none e nR)]
            exact s47 _ _ (sm _ _ e)
          · rw [formsTo_succ sq hi, if_neg hf]
            exact ((hP.same s47).snoc ⟨(s1.trans sm).free n1', hr1R⟩ h1'').updN hrs7 (fun _ h => h.2)
    · rintro σ H' ⟨b, y4, y5, y6, rs, rfl, sm, hrs, hP, hbR, hb⟩
      refine ⟨_, rfl, q H' R rs (s1.trans sm) nRH hrs ?_⟩
      rw [formsTo_all sq] at hP
      exact hP.mono fun _ h => h.1
end
end W
set_option maxRecDepth 100000
namespace W
open PySem PySem.Spec PyProof.Rows L2
open TL (tl numL numL_lt numL_step tl_num tl_append len_tl ext_tl)
/-! texts -/
theorem numL_dg : ∀ n : Nat, numL n = Ma.dg n := by
  intro n
  induction n using Nat.strongRecOn with
  | _ n ih =>
    rw [Ma.dg]
    by_cases h : n < 10
    · rw [dif_pos h, numL_lt h]
    · rw [dif_neg h, numL_step (by omega), ih (n / 10) (by omega)]
def intT (i : Int) : List Nat := (if i < 0 then [45] else []) ++ Ma.dg i.natAbs
theorem tl_int (i : Int) : tl (Str.ofString (toString i)) = intT i := by
  unfold intT
  cases i with
  | ofNat m =>
    rw [if_neg (show ¬ (Int.ofNat m) < 0 from Int.not_lt.mpr (Int.natCast_nonneg m))]
    have := tl_num m
    rw [numL_dg] at this
    exact this
  | negSucc m =>
    rw [if_pos (by omega)]
    have h1 : tl (Str.ofString (toString (Int.negSucc m))) = 45 :: numL (m + 1) := by
      show (Str.ofString (toString (Int.negSucc m))).cps.toList = _
      rw [Str.ofString_eq_toList]
      show ((("-" ++ Nat.repr (m + 1)) : String).toList.map Char.toNat) = _
      rw [String.toList_append, List.map_append, Nat.toList_repr]
      rfl
    rw [h1, numL_dg]
    rfl
theorem dg_len : ∀ (k n : Nat), 0 < k → n < 10 ^ k → (Ma.dg n).length ≤ k
  | 0, _, h, _ => by omega
  | k + 1, n, _, h => by
    rw [Ma.dg]
    by_cases h1 : n < 10
    · rw [dif_pos h1]; simp
    · rw [dif_neg h1, List.length_append]
      have hk : 0 < k := by
        rcases Nat.eq_zero_or_pos k with h0 | h0
        · subst h0; simp at h; omega
        · exact h0
      have : n / 10 < 10 ^ k := by rw [Nat.pow_succ] at h; omega
      have := dg_len k (n / 10) hk this
      simp; omega
theorem two_le_ten (k : Nat) : 2 ^ k ≤ 10 ^ k := Nat.pow_le_pow_left (by omega) k
theorem dg_len2 {k n : Nat} (hk : 0 < k) (h : n < 2 ^ k) : (Ma.dg n).length ≤ k := dg_len k n hk (Nat.lt_of_lt_of_le h (two_le_ten k))
/-- a number that may be written: up to 4400 bits -/
def Wr (c : Rat) : Prop := c.num.natAbs ≤ 2 ^ 4400 ∧ c.den ≤ 2 ^ 4400
theorem Wr.dig {n : Nat} (h : n ≤ 2 ^ 4400) : n < 10 ^ 4300 :=
  Nat.lt_of_lt_of_le (Nat.lt_of_le_of_lt h (Nat.pow_lt_pow_right (by omega) (show 4400 < 12900 by omega))) PyProof.Rows.pow_lo
theorem pow_1900 : 2 ^ 4400 < 10 ^ 1900 := by decide +kernel
theorem wr_lt {n : Nat} (h : n ≤ 2 ^ 4400) : n < 10 ^ 1900 := Nat.lt_of_le_of_lt h pow_1900
theorem intT_len {i : Int} (h : i.natAbs ≤ 2 ^ 4400) : (intT i).length ≤ 1901 := by
  unfold intT
  have := dg_len 1900 _ (by omega) (wr_lt h)
  rw [List.length_append]
  split <;> simp <;> omega
theorem intT_nat (n : Nat) : intT (n : Int) = Ma.dg n := by
  unfold intT
  rw [if_neg (by omega), Int.natAbs_natCast]; rfl
theorem sgnT_eq (c : Rat) : Ma.sgnT c = intT c.num ++ (if c.den = 1 then [] else 47 :: Ma.dg c.den) := by
  unfold Ma.sgnT Ma.numT intT
  rw [List.append_assoc]
theorem sgnT_len {c : Rat} (h : Wr c) : (Ma.sgnT c).length ≤ 3802 := by
  rw [sgnT_eq, List.length_append]
  have h1 := intT_len h.1
  have h2 := dg_len 1900 _ (by omega) (wr_lt h.2)
  split <;> simp <;> omega
theorem numT_sgn {c : Rat} (h : 0 ≤ c.num) : Ma.sgnT c = Ma.numT c := by
  unfold Ma.sgnT
  rw [if_neg (by omega)]; rfl
theorem big_line : (10000000 : Nat) ≤ sizeLine := by decide
section
variable {X : Cx} {pins : List (Addr × Obj)} {σ : List (Option V)} {H : Hp} {s : Shared}
theorem noDigits (I : Inv X pins σ H s) (e : PySem.W.nsIn X.K cStatics "sys.int_max_str_digits" = some none) : s.heap.NoDigits := by
  obtain ⟨mc, hns, _⟩ := I.mod.nolimit
  refine Heap.NoDigits.keeps ⟨mc, hns, ?_⟩ I.bk
  obtain ⟨o, es, ep, ho, hd, _, hf⟩ := hns
  unfold PySem.W.nsIn at e
  split at e
  · rename_i c d es' n' sl q
    have := I.mod.kin _ _ q
    rw [ho] at this
    cases this
    cases hd
    split at e
    · cases e
    · rename_i he
      rw [← hf]
      unfold nsFind findBy
      rw [← Array.find?_toList, he]
      rfl
  · cases e
/-- str of a number of up to 4300 digits -/
theorem call_str_D (hc : X.calm = true) (z : PySem.W.nsIn X.K cStatics "sys.int_max_str_digits" = some none) : CallR X (.type "str") (fun xs H Q => ∃ i, xs = [.int i] ∧ i.natAbs < 10 ^ 4300 ∧ Q (.str (toString i)) H) := by
  intro pins s σ H xs us Q I r h
  obtain ⟨i, rfl, hz, q⟩ := h
  obtain ⟨u, rfl, t, rfl⟩ := vals1 r
  exact str_of_int_or (I.ok.hd hc) (noDigits I z) (fun _ => ⟨.str _, H, I.tok _, ⟨_, rfl⟩, q⟩) (fun h => absurd hz (Nat.not_lt.mpr h))
end
section
variable {P : Program} {w : World} {K : PySem.W.Frag} {mg : Str → Option Value} {base : Heap}
def spNumT (K : PySem.W.Frag) : Sp := fun vs H Q _ => ∃ (x : V) (c : Rat), vs = [x] ∧ RatV K H x c ∧ Wr c ∧ ∀ z : Str, tl z = Ma.sgnT c → Q (.str z) H
/-- a sign -/
def sgS (b l : Bool) : List Nat := if l then (if b then [45] else []) else (if b then [32, 45, 32] else [32, 43, 32])
def spSign : Sp := fun vs H Q _ => ∃ (b l : Bool), vs = [.bl b, .bl l] ∧ ∀ z : Str, tl z = sgS b l → Q (.str z) H
theorem termT_len {c : Rat} {k : Nat} (h : Wr c) (hc : 0 ≤ c.num) (hk : k < 1000) : (AlBase.termText (Ma.mo k) c).length ≤ 3900 := by
  rw [Ma.termText_mo hc]
  have h1 := sgnT_len h
  rw [numT_sgn hc] at h1
  have h2 : (Ma.powT k).length ≤ 10 := by
    unfold Ma.powT
    have := dg_len 3 k (by omega) (by omega)
    split <;> simp <;> omega
  split
  · omega
  · split
    · omega
    · rw [List.length_append, List.length_cons]; omega
def spTerm (K : PySem.W.Frag) : Sp := fun vs H Q _ => ∃ (x : V) (c : Rat) (k : Nat), vs = [x, .int k] ∧ RatV K H x c ∧ Wr c ∧ 0 ≤ c.num ∧ k < 1000 ∧ ∀ z : Str, tl z = AlBase.termText (Ma.mo k) c → Q (.str z) H
end
end W
set_option maxRecDepth 100000
namespace W
open PySem PySem.Spec PyProof.Rows L2
open TL (tl numL numL_lt numL_step tl_num tl_append len_tl ext_tl)
/-! the text so far: the highest t powers -/
def TT (l : List Rat) (t : Nat) : List Nat := (Ma.termsD (l.drop (l.length - t)) (l.length - t)).foldl Ma.stepT []
theorem TT_zero (l : List Rat) : TT l 0 = [] := by
  unfold TT
  rw [Nat.sub_zero, List.drop_of_length_le (Nat.le_refl _)]; rfl
theorem TT_succ {l : List Rat} {t : Nat} (ht : t < l.length) {c : Rat} (hc : l[l.length - 1 - t]? = some c) : TT l (t + 1) = if c = 0 then TT l t else Ma.stepT (TT l t) (Ma.mo (l.length - 1 - t), c) := by
  unfold TT
  have e1 : l.length - (t + 1) = l.length - 1 - t := by omega
  rw [e1]
  obtain ⟨h1, h2⟩ := List.getElem?_eq_some_iff.mp hc
  rw [List.drop_eq_getElem_cons h1, h2, show l.length - 1 - t + 1 = l.length - t by omega]
  show (Ma.termsD (l.drop (l.length - t)) (l.length - 1 - t + 1) ++ _).foldl _ _ = _
  rw [show l.length - 1 - t + 1 = l.length - t by omega, List.foldl_append]
  by_cases h : c = 0
  · rw [if_pos h, if_pos h]; rfl
  · rw [if_neg h, if_neg h]; rfl
theorem TT_all {l : List Rat} (h : Ma.Tr l) (hne : l ≠ []) : TT l l.length = AlOne.text l := by
  rw [Ma.text_eq h hne]
  unfold TT
  rw [Nat.sub_self, List.drop_zero]
theorem rat_neg_iff (c : Rat) : c < 0 ↔ c.num < 0 := by rw [Rat.lt_iff]; simp
/-- a number without its sign -/
def absR (c : Rat) : Rat := if c < 0 then -c else c
theorem absR_num (c : Rat) : (absR c).num = (c.num.natAbs : Int) ∧ (absR c).den = c.den := by
  unfold absR
  have h := rat_neg_iff c
  by_cases h1 : c < 0
  · rw [if_pos h1, Rat.neg_num, Rat.neg_den]
    have := h.mp h1
    exact ⟨by omega, rfl⟩
  · rw [if_neg h1]
    have : ¬ c.num < 0 := fun h2 => h1 (h.mpr h2)
    exact ⟨by omega, rfl⟩
theorem absR_wr {c : Rat} (h : Wr c) : Wr (absR c) := by
  unfold Wr
  rw [(absR_num c).1, (absR_num c).2, Int.natAbs_natCast]; exact h
theorem stepT_eq (acc : List Nat) (k : Nat) (c : Rat) : Ma.stepT acc (Ma.mo k, c) = acc ++ sgS (decide (c.num < 0)) (decide (acc = [])) ++ AlBase.termText (Ma.mo k) (absR c) := by
  unfold Ma.stepT absR sgS
  have h := rat_neg_iff c
  by_cases h1 : c < 0
  · have h2 := h.mp h1
    by_cases h3 : acc = []
    · simp [h1, h2, h3]
    · simp [h1, h2, h3]
  · have h2 : ¬ c.num < 0 := fun h2 => h1 (h.mpr h2)
    by_cases h3 : acc = []
    · simp [h1, h2, h3]
    · simp [h1, h2, h3]
theorem sgS_len (b l : Bool) : (sgS b l).length ≤ 3 := by cases b <;> cases l <;> decide
theorem TT_len {l : List Rat} (hl : l.length ≤ 100) (hw : ∀ c ∈ l, Wr c) : ∀ t, t ≤ l.length → (TT l t).length ≤ t * 4000
  | 0, _ => by rw [TT_zero]; simp
  | t + 1, ht => by
    have ih := TT_len hl hw t (by omega)
    have hi : l.length - 1 - t < l.length := by omega
    rw [TT_succ (by omega) (List.getElem?_eq_getElem hi)]
    have hwc := hw _ (List.getElem_mem hi)
    generalize l[l.length - 1 - t] = c at hwc
    split
    · omega
    · rw [stepT_eq, List.length_append, List.length_append]
      have h1 := sgS_len (decide (c.num < 0)) (decide (TT l t = []))
      have h2 := termT_len (c := absR c) (k := l.length - 1 - t) (absR_wr hwc) (by rw [(absR_num c).1]; omega) (by omega)
      omega
section
variable {P : Program} {w : World} {K : PySem.W.Frag} {mg : Str → Option Value} {base : Heap}
def spPolyT (K : PySem.W.Frag) : Sp := fun vs H Q _ => ∃ (a : Addr) (l : List Rat), vs = [.ref a] ∧ PolV K H a l ∧ Ma.Tr l ∧ l.length ≤ 100 ∧ (∀ c ∈ l, Wr c) ∧ ∀ H' z, Same H H' → tl z = AlOne.text l → Q (.str z) H'
/-- an answer's numbers -/
def told (f : Int) (zs : List Str) : List Int := f :: zs.flatMap fun z => (z.length : Int) :: (tl z).map fun (x : Nat) => (x : Int)
theorem told_snoc (f : Int) (zs : List Str) (z : Str) : told f (zs ++ [z]) = told f zs ++ ((z.length : Int) :: (tl z).map fun (x : Nat) => (x : Int)) := by
  unfold told
  rw [List.flatMap_append]
  simp
def spAnswer (K : PySem.W.Frag) : Sp := fun vs H Q _ => ∃ (a : Addr) (f : Int) (zs : List Str), vs = [.int f, .ref a] ∧ H a = some (.lst (zs.map V.str)) ∧ zs.length ≤ 300 ∧ (∀ z ∈ zs, z.length ≤ 20000) ∧
  ∀ H' r, Same H H' → H r = none → H' r = some (.lst ((told f zs).map V.int)) → Q (.ref r) H'
theorem told_len {f : Int} {zs : List Str} (h : ∀ z ∈ zs, z.length ≤ 20000) : (told f zs).length ≤ 1 + zs.length * 20001 := by
  unfold told
  rw [List.length_cons]
  have : ∀ l : List Str, (∀ z ∈ l, z.length ≤ 20000) → (l.flatMap fun z => (z.length : Int) :: (tl z).map fun (x : Nat) => (x : Int)).length ≤ l.length * 20001 := by
    intro l
    induction l with
    | nil => intro _; simp
    | cons z l ih =>
      intro hl
      have h1 := ih fun y hy => hl y (by simp [hy])
      have h2 := hl z (by simp)
      rw [len_tl] at h2
      rw [List.flatMap_cons, List.length_append, List.length_cons, List.length_cons, List.length_map]
      omega
  have := this zs h
  omega
end
end W
set_option maxRecDepth 100000
namespace W
open PySem PySem.Spec PyProof.Rows L2
/-! a written dict of whole numbers -/
theorem dictRow_key {e : DictEntry} {i j : Int} (h : dictRow e = some (i, j)) : ∃ t u, e.key = .int i t ∧ e.val = .int j u ∧ e.hash = hashInt i := by
  unfold dictRow at h
  split at h
  · rename_i a t b u ek ev
    split at h
    · rename_i hh
      have e1 := Option.some.inj h
      have e2 : a = i := congrArg Prod.fst e1
      have e3 : b = j := congrArg Prod.snd e1
      subst e2 e3
      exact ⟨t, u, ek, ev, hh⟩
    · cases h
  · cases h
theorem rows_find : ∀ (l : List DictEntry) (m : List (Int × Int)), l.mapM dictRow = some m → (∀ e ∈ l, ∃ i t, e.key = .int i t ∧ e.hash = hashInt i) ∧
    ∀ k : Int, (m.lookup k = none → (l.find? fun e => Value.isInt k e.key) = none) ∧ ∀ v, m.lookup k = some v → ∃ e u, (l.find? fun e => Value.isInt k e.key) = some e ∧ e.val = .int v u
  | [], m, h => by
    simp at h
    subst h
    exact ⟨by simp, fun k => ⟨fun _ => rfl, fun v hv => by simp at hv⟩⟩
  | e :: l, m, h => by
    rw [List.mapM_cons] at h
    simp only [Option.bind_eq_bind, Option.pure_def, Option.bind_eq_some_iff] at h
    obtain ⟨⟨i, j⟩, he, m', hm, e2⟩ := h
    simp at e2
    subst e2
    obtain ⟨t, u, hk, hv, hh⟩ := dictRow_key he
    obtain ⟨ih1, ih2⟩ := rows_find l m' hm
    refine ⟨fun x hx => ?_, fun k => ?_⟩
    · rcases List.mem_cons.mp hx with e3 | e3
      · subst e3; exact ⟨i, t, hk, hh⟩
      · exact ih1 x e3
    · have hi : Value.isInt k e.key = decide (k = i) := by
        rw [hk]
        show (i == k) = _
        rw [Bool.eq_iff_iff]; simp; exact eq_comm
      rw [List.find?_cons, hi, List.lookup_cons]
      by_cases hki : k = i
      · have e4 : (k == i) = true := by simp [hki]
        rw [e4, decide_eq_true hki]
        refine ⟨fun h => by simp at h, fun v hv2 => ?_⟩
        have := Option.some.inj hv2
        subst this
        exact ⟨e, u, rfl, hv⟩
      · have e4 : (k == i) = false := by simp [hki]
        rw [e4, decide_eq_false hki]
        exact ih2 k
section
variable {X : Cx} {d : Addr} {es : Array DictEntry} {n : Nat} {m : List (Int × Int)}
theorem mapOf_KI {K : PySem.W.Frag} {h : Heap} {prog : Program} {w : World} (Y : K.In h) (hl : K.lookup d = some ⟨.type "dict", none, .dict es n, #[]⟩) (hm : dictRows es = some m) : h.MapOf (intKind prog w) d (fun k => findBy Value.isInt es k) :=
  ⟨_, es, n, Y _ _ hl, ⟨rfl, rfl, rfl⟩, rfl, fun e he => by
    obtain ⟨i, t, e1, e2⟩ := (rows_find es.toList m hm).1 e (Array.mem_toList_iff.mpr he)
    exact ⟨i, by rw [e1]; exact intKind_is prog w i t, e2⟩, fun _ => rfl⟩
theorem findBy_none (hm : dictRows es = some m) {k : Int} (h : m.lookup k = none) : findBy Value.isInt es k = none := by
  have := ((rows_find es.toList m hm).2 k).1 h
  unfold findBy
  rw [← Array.find?_toList, this]; rfl
theorem findBy_some (hm : dictRows es = some m) {k v : Int} (h : m.lookup k = some v) : ∃ u, findBy Value.isInt es k = some (.int v u) := by
  obtain ⟨e, u, h1, h2⟩ := ((rows_find es.toList m hm).2 k).2 v h
  refine ⟨u, ?_⟩
  unfold findBy
  rw [← Array.find?_toList, h1]
  show some e.val = _
  rw [h2]
theorem op_notIn_ki (hl : X.K.lookup d = some ⟨.type "dict", none, .dict es n, #[]⟩) (low : (d == sysModules) = false) (hm : dictRows es = some m) :
    OpR X (compareOp .NotIn) (fun x y H Q => ∃ i : Int, x = .int i ∧ y = .ref d ∧ Q (.bl (!(m.lookup i).isSome)) H) := by
  intro pins s σ H x y v u Q I rx ry h
  obtain ⟨i, rfl, rfl, q⟩ := h
  obtain ⟨t, rfl⟩ := rx
  cases ry
  refine wpAny_notIn_of (intKind_is X.prog X.w i t) low (mapOf_KI (prog := X.prog) I.kIn hl hm) ?_
  cases hk : m.lookup i with
  | none =>
    rw [findBy_none hm hk]
    rw [hk] at q
    exact ⟨.bl true, H, I.tok _, rfl, q⟩
  | some w' =>
    obtain ⟨u', e⟩ := findBy_some hm hk
    rw [e]
    rw [hk] at q
    exact ⟨.bl false, H, I.tok _, rfl, q⟩
theorem ix_ki (hl : X.K.lookup d = some ⟨.type "dict", none, .dict es n, #[]⟩) (hm : dictRows es = some m) : IxR X (fun x y H Q => ∃ i v : Int, x = .ref d ∧ y = .int i ∧ m.lookup i = some v ∧ Q (.int v) H) := by
  intro value slice pins s σ H x y v u Q I rx ry h hs
  obtain ⟨i, v', rfl, rfl, e, q⟩ := h
  cases rx
  obtain ⟨t, rfl⟩ := ry
  obtain ⟨u', e'⟩ := findBy_some hm e
  have hmm := mapOf_KI (prog := X.prog) (w := X.w) I.kIn hl hm
  exact tail_any hmm.typeIs slot_dict_getitem.lookup (wpAny_getItem_of (intKind_is X.prog X.w i t) hmm e' ⟨.int v', H, I.tok _, ⟨_, rfl⟩, q⟩) hs
end
section
variable {P : Program} {w : World} {K : PySem.W.Frag} {mg : Str → Option Value} {base : Heap}
def optI : Option Nat → V
  | none => .non
  | some n => .int (n : Int)
def spWhole (K : PySem.W.Frag) : Sp := fun vs H Q _ => ∃ (a : Addr) (u : List Nat), vs = [.ref a] ∧ SqL K H a (nis u) ∧ u.length ≤ 1000 ∧ Q (optI (Ma.wholeM u)) H
theorem dval_take {u : List Nat} {i : Nat} {x : Nat} (h : u[i]? = some x) : Ma.dval 0 (u.take (i + 1)) = 10 * Ma.dval 0 (u.take i) + (x - 48) := by
  rw [List.take_add_one, h]
  exact Ma.dval_append _ _ _
theorem ok_whole_of (T : Txt K mg) : FnOk P w K mg base CX0 1 T.f_whole_of T.e_whole_of ["digits"] (spWhole K) := by
  obtain ⟨t0, g0⟩ := T.g_DIGIT_0
  obtain ⟨t9, g9⟩ := T.g_DIGIT_9
  refine T.d_whole_of.F.ok sc_whole_of (fun vs H Q E h => ?_) (fun cdv A outer s H vs Q E hr h => ?_)
  · obtain ⟨a, u, rfl, _⟩ := h
    rfl
  · obtain ⟨a, u, rfl, ha, hu, q⟩ := h
    refine ⟨_, pss_cons (ps_if (pt_cmpR op_eq (pe_callB call_len_seq (by rfl) T.z_len PySem.boot_len (pa_cons (pv 0) pa_nil)) pe_int (nomark _)) (pss_one (ps_ret pe_non)) pss_nil)
      (pss_cons (ps_if ((pw_and (pt_cmpR op_eq (pe_ix ix_list (pv 0) pe_int (fun _ _ => rfl)) (pe_glob (v := .int 48) (by rfl) g0 ⟨_, rfl⟩) (nomark _)) (pw_and1 (pt_cmpR op_gt (pe_callB call_len_seq (by rfl) T.z_len PySem.boot_len (pa_cons (pv 0) pa_nil)) pe_int (nomark _)))).pt) (pss_one (ps_ret pe_non)) pss_nil)
      (pss_cons (ps_set (i := 1) sc_whole_of.nd rfl (.inl rfl) pe_int)
      (pss_cons (ps_for PassesOwn.never rfl (pi_list (pv 0)) (pg_name (i := 2) sc_whole_of.nd rfl (.inl rfl))
        (pss_cons (ps_if ((pw_or (pt_cmpR op_lt (pv 2) (pe_glob (v := .int 48) (by rfl) g0 ⟨_, rfl⟩) (nomark _)) (pw_or1 (pt_cmpR op_gt (pv 2) (pe_glob (v := .int 57) (by rfl) g9 ⟨_, rfl⟩) (nomark _)))).pt) (pss_one (ps_ret pe_non)) pss_nil)
        (pss_one (ps_set (i := 1) sc_whole_of.nd rfl (.inl rfl) (pe_op op_sub (pe_op op_add (pe_op op_mul (pv 1) pe_int) (pv 2)) (pe_glob (v := .int 48) (by rfl) g0 ⟨_, rfl⟩))))))
      (pss_one (ps_ret (pv 1)))))), ?_⟩
    refine ⟨_, rfl, a, _, rfl, .inl ha, rfl, _, rfl, ite2 (fun e => ?_) (fun e => ?_)⟩
    · have e1 : ((nis u).length : Int) = 0 := V.int.inj (of_decide_eq_true e)
      have u0 : u = [] := List.eq_nil_of_length_eq_zero (by rw [List.length_map] at e1; omega)
      have : Ma.wholeM u = none := by unfold Ma.wholeM; rw [if_pos u0]
      rw [this] at q
      exact q
    · have e1 : ¬ u.length = 0 := fun h => e (decide_eq_true (by rw [List.length_map, h]; rfl))
      have hne : u ≠ [] := by intro e; rw [e] at e1; exact e1 rfl
      obtain ⟨x0, u', hu'⟩ : ∃ x0 u', u = x0 :: u' := by
        cases u with
        | nil => exact absurd rfl hne
        | cons x0 u' => exact ⟨x0, u', rfl⟩
      refine ⟨_, rfl, a, _, 0, .int (x0 : Int), rfl, rfl, ha, atI_nat (j := 0) (by rw [hu']; rfl), rfl, _, rfl, ?_⟩
      have rest : ¬ (x0 = 48 ∧ 1 < u.length) → tSeq (tAsg (tC (.int 0)) (gName 1)) (tSeq (tFor (iList K (tVar 0)) (gName 2) (tSeq (tIfS (tOr (tTest (tOp (rI0 fun i j => .bl (decide (i < j))) (tVar 2) (tC (.int 48)))) (tTest (tOp (rI0 fun i j => .bl (decide (j < i))) (tVar 2) (tC (.int 57))))) (tRet (tC .non)) tNext) (tAsg (tOp (rI0 fun i j => .int (i - j)) (tOp (rI0 fun i j => .int (i + j)) (tOp (rI CMul fun i j => .int (i * j)) (tVar 1) (tC (.int 10))) (tVar 2)) (tC (.int 48))) (gName 1)))) (tRet (tVar 1))) { nx := fun _ H' => Q .non H', rt := Q } [some (.ref a), none, none] H := by
        intro hz
        refine ⟨_, rfl, a, rfl, ⟨_, ha⟩, ?_⟩
        refine for_list (K := K) (a := a) (xs := nis u) (fun i σ H' => ∃ y2, σ = [some (.ref a), some (.int ((Ma.dval 0 (u.take i) : Nat) : Int)), y2] ∧ H' = H ∧ ∀ x ∈ u.take i, Ma.isDig x = true)
          ⟨none, rfl, rfl, by simp⟩ (fun i σ H' _ h => by obtain ⟨_, _, rfl, _⟩ := h; exact ha) ?_ ?_
        · rintro i v σ H' hv ⟨y2, rfl, rfl, hd⟩
          rw [List.getElem?_map] at hv
          obtain ⟨x, hx, rfl⟩ := Option.map_eq_some_iff.mp hv
          have bad : Ma.isDig x = false → Q .non H' := by
            intro hb
            have : Ma.wholeM u = none := by
              unfold Ma.wholeM
              rw [if_neg hne]
              split
              · rfl
              · rw [if_neg]
                intro h
                have := List.all_eq_true.mp h x (List.mem_of_getElem? hx)
                rw [hb] at this; cases this
            rw [this] at q
            exact q
          refine ⟨_, rfl, _, _, rfl, rfl, _, rfl, ite2 (fun c => ?_) (fun c => ?_)⟩
          · have c1 : (x : Int) < 48 := of_decide_eq_true c
            refine iteT ?_
            exact bad (by unfold Ma.isDig; simp; omega)
          · have c1 : ¬ (x : Int) < 48 := fun h => c (decide_eq_true h)
            refine ⟨_, rfl, _, _, rfl, rfl, _, rfl, ite2 (fun c2 => ?_) (fun c2 => ?_)⟩
            · have c3 : (57 : Int) < (x : Int) := of_decide_eq_true c2
              exact bad (by unfold Ma.isDig; simp; omega)
            · have c3 : ¬ (57 : Int) < (x : Int) := fun h => c2 (decide_eq_true h)
              refine ⟨_, rfl, _, _, rfl, rfl, .inr (by show -(2 ^ 64) < (10 : Int) ∧ (10 : Int) < 2 ^ 64; decide), _, rfl, _, _, rfl, rfl, _, _, rfl, rfl, some (.int (x : Int)), ?_, rfl, ?_⟩
              · rw [dval_take hx]
                have : ((Ma.dval 0 (u.take i) : Nat) : Int) * 10 + (x : Int) - 48 = ((10 * Ma.dval 0 (u.take i) + (x - 48) : Nat) : Int) := by omega
                show [some (V.ref a), some (V.int (((Ma.dval 0 (u.take i) : Nat) : Int) * 10 + (x : Int) - 48)), some (.int (x : Int))] = _
                rw [this]
              · intro y hy
                rw [List.take_add_one, hx, List.mem_append] at hy
                rcases hy with hy | hy
                · exact hd y hy
                · simp at hy
                  subst hy
                  unfold Ma.isDig; simp; omega
        · rintro σ H' ⟨y2, rfl, rfl, hd⟩
          rw [List.length_map, List.take_length] at hd ⊢
          have : Ma.wholeM u = some (Ma.dval 0 u) := by
            unfold Ma.wholeM
            rw [if_neg hne, if_neg (by rw [hu'] at hz ⊢; exact hz), if_pos (List.all_eq_true.mpr hd)]
          rw [this] at q
          exact ⟨_, rfl, q⟩
      refine ite2 (fun c => ?_) (fun c => ?_)
      · have c1 : (x0 : Int) = 48 := V.int.inj (of_decide_eq_true c)
        refine ⟨_, rfl, a, _, rfl, .inl ha, _, _, rfl, rfl, _, rfl, ite2 (fun c2 => ?_) (fun c2 => ?_)⟩
        · have c3 : (1 : Int) < ((nis u).length : Int) := of_decide_eq_true c2
          rw [List.length_map] at c3
          have : Ma.wholeM u = none := by
            unfold Ma.wholeM
            rw [if_neg hne, if_pos ⟨by rw [hu']; show x0 = 48; omega, by omega⟩]
          rw [this] at q
          exact q
        · have c3 : ¬ (1 : Int) < ((nis u).length : Int) := fun h => c2 (decide_eq_true h)
          rw [List.length_map] at c3
          exact rest (by omega)
      · have c1 : ¬ x0 = 48 := fun h => c (decide_eq_true (by rw [h]; rfl))
        refine iteF ?_
        exact rest (fun h => c1 h.1)
end
end W
set_option maxRecDepth 100000
namespace W
open PySem PySem.Spec PyProof.Rows L2
theorem nis_flat (u : List Nat) : (nis u).all flatV = true := by
  rw [List.all_eq_true]
  intro v hv
  rw [List.mem_map] at hv
  obtain ⟨x, _, rfl⟩ := hv
  rfl
theorem inV_nis (k : Nat) (u : List Nat) : inV (.int (k : Int)) (nis u) = decide (k ∈ u) := by
  unfold inV
  induction u with
  | nil => simp
  | cons x u ih =>
    show (eqV (.int (x : Int)) (.int (k : Int)) || (nis u).any _) = _
    rw [ih]
    show (((x : Int) == (k : Int)) || decide (k ∈ u)) = _
    rw [Bool.eq_iff_iff]
    simp only [Bool.or_eq_true, beq_iff_eq, decide_eq_true_eq, List.mem_cons]
    constructor
    · rintro (h | h)
      · exact .inl (by omega)
      · exact .inr h
    · rintro (h | h)
      · exact .inl (by omega)
      · exact .inr h
def OptR (K : PySem.W.Frag) (H : Hp) (v : V) : Option Rat → Prop
  | none => v = .non
  | some c => RatV K H v c
theorem OptR.same {K : PySem.W.Frag} {H H' : Hp} {v : V} {o : Option Rat} (e : Same H H') (h : OptR K H v o) : OptR K H' v o := by
  cases o with
  | none => exact h
  | some c => exact RatV.same h e
theorem idx_first {u : List Nat} {k m : Nat} (h : m < u.idxOf k) : ∀ x, u[m]? = some x → x ≠ k := by
  intro x hx e
  subst e
  have hm : m < u.length := (List.getElem?_eq_some_iff.mp hx).1
  have := List.not_of_lt_findIdx (p := (· == x)) (xs := u) (i := m) h
  obtain ⟨_, h2⟩ := List.getElem?_eq_some_iff.mp hx
  rw [h2] at this
  simp at this
section
variable {P : Program} {w : World} {K : PySem.W.Frag} {mg : Str → Option Value} {base : Heap}
def spUns (K : PySem.W.Frag) (f : List Nat → Option Rat) : Sp := fun vs H Q _ => ∃ (a : Addr) (u : List Nat), vs = [.ref a] ∧ SqL K H a (nis u) ∧ u.length ≤ 1000 ∧ ∀ H' v, Same H H' → OptR K H' v (f u) → Q v H'
theorem ok_unsigned_of (T : Txt K mg) : FnOk P w K mg base CX0 2 T.f_unsigned_of T.e_unsigned_of ["text"] (spUns K Ma.unsignedM) := by
  obtain ⟨ts, gs⟩ := T.g_SLASH
  refine T.d_unsigned_of.F.ok sc_unsigned_of (fun vs H Q E h => ?_) (fun cdv A outer s H vs Q E hr h => ?_)
  · obtain ⟨a, u, rfl, _⟩ := h
    rfl
  · obtain ⟨a, u, rfl, ha, hu, q⟩ := h
    refine ⟨_, pss_cons (ps_if (pt_cmpR op_notIn_seq (pe_glob (v := .int 47) (by rfl) gs ⟨_, rfl⟩) (pv 0) rfl)
        (pss_cons (ps_set (i := 1) sc_unsigned_of.nd rfl (.inl rfl) (pe_D T.d_whole_of (ok_whole_of T) hr (pa_cons (pv 0) pa_nil)))
        (pss_one (ps_ret (pe_ifExp (pt_cmp (pc_isN (pv 1))) pe_non (pe_tup (pa_cons (pv 1) (pa_cons pe_int pa_nil))))))) pss_nil)
      (pss_cons (ps_set (i := 2) sc_unsigned_of.nd rfl (.inl rfl) (pe_bm PySem.F.plainAttrs_list PySem.F.slot_list_index PySem.F.type_list_index mt_index (pv 0) (pa_cons (pe_glob (v := .int 47) (by rfl) gs ⟨_, rfl⟩) pa_nil)))
      (pss_cons (ps_set (i := 3) sc_unsigned_of.nd rfl (.inl rfl) (pe_D T.d_whole_of (ok_whole_of T) hr (pa_cons (pe_slice sl_list (pv 0) po_none (po_some (pv 2))) pa_nil)))
      (pss_cons (ps_set (i := 4) sc_unsigned_of.nd rfl (.inl rfl) (pe_D T.d_whole_of (ok_whole_of T) hr (pa_cons (pe_slice sl_list (pv 0) (po_some (pe_op op_add (pv 2) pe_int)) po_none) pa_nil)))
      (pss_cons (ps_if ((pw_or (pt_cmp (pc_isN (pv 3))) (pw_or (pt_cmp (pc_isN (pv 4))) (pw_or1 (pt_cmpR op_lt (pv 4) pe_int (nomark _))))).pt) (pss_one (ps_ret pe_non)) pss_nil)
      (pss_one (ps_ret (pe_ifExp (pt_cmpR op_eq (pe_D T.d_whole_common (ok_whole_common T) hr (pa_cons (pv 3) (pa_cons (pv 4) pa_nil))) pe_int (nomark _)) (pe_tup (pa_cons (pv 3) (pa_cons (pv 4) pa_nil))) pe_non))))))), ?_⟩
    refine ⟨_, rfl, a, _, rfl, .inl ha, rfl, nis_flat u, _, rfl, ?_⟩
    rw [show inV (V.int 47) (nis u) = decide (47 ∈ u) from inV_nis 47 u]
    by_cases h47 : 47 ∈ u
    · rw [decide_eq_true h47]
      refine iteF ?_
      have hlt := List.idxOf_lt_length_of_mem h47
      refine ⟨_, rfl, .inl ⟨rfl, _, ha⟩, a, nis u, .int 47, u.idxOf 47, .int 47, rfl, rfl, ha, rfl, nis_flat u, ?_, rfl, ?_, ?_⟩
      · rw [List.getElem?_map, List.getElem?_eq_getElem hlt]
        have : u[u.idxOf 47] = 47 := List.getElem_idxOf hlt
        rw [this]; rfl
      · intro m z hm hz
        rw [List.getElem?_map] at hz
        obtain ⟨x, hx, rfl⟩ := Option.map_eq_some_iff.mp hz
        have := idx_first hm x hx
        show ((x : Int) == (47 : Int)) = false
        rw [beq_eq_false_iff_ne]
        omega
      · have hcu : Ma.unsignedM u = (Ma.wholeM (u.take (u.idxOf 47))).bind fun t => (Ma.wholeM (u.drop (u.idxOf 47 + 1))).bind fun b => Ma.fracM t b := by
          unfold Ma.unsignedM; rw [if_pos h47]
        refine ⟨_, rfl, _, rfl, _, rfl, a, _, rfl, ha, fun p1 n1 => ?_⟩
        rw [cut_to]
        have s1 := same_upd (o := .lst ((nis u).take (u.idxOf 47))) n1
        have h1 : SqL K (upd H p1 (.lst ((nis u).take (u.idxOf 47)))) p1 (nis (u.take (u.idxOf 47))) := SqL.of (by rw [upd_same]; unfold nis; rw [List.map_take])
        generalize upd H p1 (.lst ((nis u).take (u.idxOf 47))) = H1 at s1 h1
        refine ⟨p1, _, rfl, h1, by rw [List.length_take]; omega, ?_⟩
        refine ⟨_, rfl, _, rfl, _, _, rfl, rfl, _, rfl, a, _, rfl, s1.seq ha, fun p2 n2 => ?_⟩
        have ei : ((u.idxOf 47 : Nat) : Int) + 1 = ((u.idxOf 47 + 1 : Nat) : Int) := by omega
        rw [ei, cut_from]
        have s2 := same_upd (o := .lst ((nis u).drop (u.idxOf 47 + 1))) n2
        have h2 : SqL K (upd H1 p2 (.lst ((nis u).drop (u.idxOf 47 + 1)))) p2 (nis (u.drop (u.idxOf 47 + 1))) := SqL.of (by rw [upd_same]; unfold nis; rw [List.map_drop])
        generalize upd H1 p2 (.lst ((nis u).drop (u.idxOf 47 + 1))) = H2 at s2 h2
        refine ⟨p2, _, rfl, h2, by rw [List.length_drop]; omega, ?_⟩
        have s12 := s1.trans s2
        cases ht : Ma.wholeM (u.take (u.idxOf 47)) with
        | none =>
          rw [ht] at hcu
          refine ⟨_, rfl, true, rfl, iteT (iteT ?_)⟩
          exact q H2 .non s12 (by rw [hcu]; rfl)
        | some t =>
          refine ⟨_, rfl, false, rfl, iteF ?_⟩
          cases hb : Ma.wholeM (u.drop (u.idxOf 47 + 1)) with
          | none =>
            rw [ht, hb] at hcu
            refine ⟨_, rfl, true, rfl, iteT (iteT ?_)⟩
            exact q H2 .non s12 (by rw [hcu]; rfl)
          | some b =>
            rw [ht, hb] at hcu
            have hcu' : Ma.unsignedM u = Ma.fracM t b := hcu
            refine ⟨_, rfl, false, rfl, iteF ?_⟩
            refine ⟨_, rfl, _, _, rfl, rfl, _, rfl, ite2 (fun c => ?_) (fun c => ?_)⟩
            · have c1 : (b : Int) < 2 := of_decide_eq_true c
              refine q H2 .non s12 ?_
              rw [hcu']
              unfold Ma.fracM
              rw [dif_neg (by omega)]; rfl
            · have c1 : ¬ (b : Int) < 2 := fun h => c (decide_eq_true h)
              refine ⟨_, rfl, _, rfl, t, b, rfl, rfl, _, rfl, ite2 (fun c2 => ?_) (fun c2 => ?_)⟩
              · have c3 : ((Nat.gcd t b : Nat) : Int) = 1 := V.int.inj (of_decide_eq_true c2)
                refine ⟨_, rfl, _, rfl, (by show 2 ≤ sizeLine; decide), fun p3 n3 => ?_⟩
                refine q _ _ (s12.trans (same_upd n3)) ?_
                rw [hcu']
                unfold Ma.fracM
                rw [dif_pos ⟨by omega, by omega⟩]
                exact ⟨p3, rfl, SqT.of upd_same⟩
              · have c3 : ¬ Nat.gcd t b = 1 := fun h => c2 (decide_eq_true (by rw [h]; rfl))
                refine q H2 .non s12 ?_
                rw [hcu']
                unfold Ma.fracM
                rw [dif_neg (fun h => c3 h.2)]; rfl
    · rw [decide_eq_false h47]
      refine iteT ?_
      have hcu : Ma.unsignedM u = (Ma.wholeM u).map fun (n : Nat) => ((n : Nat) : Rat) := by
        unfold Ma.unsignedM; rw [if_neg h47]
      refine ⟨_, rfl, a, u, rfl, ha, hu, ?_⟩
      cases hw : Ma.wholeM u with
      | none =>
        rw [hw] at hcu
        refine ⟨_, rfl, true, rfl, iteT ?_⟩
        exact q H .non (Same.refl H) (by rw [hcu]; rfl)
      | some n =>
        rw [hw] at hcu
        refine ⟨_, rfl, false, rfl, iteF ?_⟩
        refine ⟨_, rfl, (by show 2 ≤ sizeLine; decide), fun p3 n3 => ?_⟩
        refine q _ _ (same_upd n3) ?_
        rw [hcu]
        exact ⟨p3, rfl, SqT.of upd_same⟩
theorem ok_number_of (T : Txt K mg) : FnOk P w K mg base CX0 3 T.f_number_of T.e_number_of ["text"] (spUns K Ma.numberM) := by
  obtain ⟨tm, gm⟩ := T.g_MINUS
  refine T.d_number_of.F.ok sc_number_of (fun vs H Q E h => ?_) (fun cdv A outer s H vs Q E hr h => ?_)
  · obtain ⟨a, u, rfl, _⟩ := h
    rfl
  · obtain ⟨a, u, rfl, ha, hu, q⟩ := h
    refine ⟨_, pss_cons (ps_if (pt_cmpR (op_neD (hu64 hr)) (pe_slice sl_list (pv 0) po_none (po_some pe_int)) (pe_lst (pa_cons (pe_glob (v := .int 45) (by rfl) gm ⟨_, rfl⟩) pa_nil)) (nomark _))
        (pss_one (ps_ret (pe_D T.d_unsigned_of (ok_unsigned_of T) hr (pa_cons (pv 0) pa_nil)))) pss_nil)
      (pss_cons (ps_set (i := 1) sc_number_of.nd rfl (.inl rfl) (pe_D T.d_unsigned_of (ok_unsigned_of T) hr (pa_cons (pe_slice sl_list (pv 0) (po_some pe_int) po_none) pa_nil)))
      (pss_cons (ps_if ((pw_or (pt_cmp (pc_isN (pv 1))) (pw_or1 (pt_cmpR op_eq (pe_ix ix_tup (pv 1) pe_int (fun _ _ => rfl)) pe_int (nomark _)))).pt) (pss_one (ps_ret pe_non)) pss_nil)
      (pss_one (ps_ret (pe_tup (pa_cons (pe_un un_neg (pe_ix ix_tup (pv 1) pe_int (fun _ _ => rfl))) (pa_cons (pe_ix ix_tup (pv 1) pe_int (fun _ _ => rfl)) pa_nil))))))), ?_⟩
    refine ⟨_, rfl, 1, rfl, a, _, rfl, ha, fun p1 n1 => ?_⟩
    rw [show cutV (nis u) none (some 1) = (nis u).take 1 from cut_to (c := 1)]
    have s1 := same_upd (o := .lst ((nis u).take 1)) n1
    have h1 : SqL K (upd H p1 (.lst ((nis u).take 1))) p1 (nis (u.take 1)) := SqL.of (by rw [upd_same]; unfold nis; rw [List.map_take])
    generalize upd H p1 (.lst ((nis u).take 1)) = H1 at s1 h1
    refine ⟨(by show 1 ≤ sizeLine; decide), fun p2 n2 => ?_⟩
    have s2 := same_upd (o := .lst [.int 45]) n2
    have h2 : SqL K (upd H1 p2 (.lst [.int 45])) p2 (nis [45]) := SqL.of upd_same
    have h12 := s2.seq h1
    generalize upd H1 p2 (.lst [.int 45]) = H2 at s2 h2 h12
    have s12 := s1.trans s2
    have dpi : ∀ (l : List Nat) (b : Addr), SqL K H2 b (nis l) → Dp K H2 (.ref b) (.list (l.map fun (x : Nat) => PyData.int (x : Int))) := by
      intro l b hb
      refine .lst hb ?_
      clear hb
      induction l with
      | nil => exact .nil
      | cons x l ih => exact .cons (.int _) ih
    have sh : ∀ l : List Nat, SeqAt.shaped (.list (l.map fun (x : Nat) => PyData.int (x : Int))) = true := by
      intro l
      have : PyData.canLayAll0 (l.map fun (x : Nat) => PyData.int (x : Int)) = true ∧ PyData.depthAll (l.map fun (x : Nat) => PyData.int (x : Int)) = 0 := by
        induction l with
        | nil => exact ⟨rfl, rfl⟩
        | cons x l ih =>
          refine ⟨?_, ?_⟩
          · show (true && PyData.canLayAll0 (l.map fun (x : Nat) => PyData.int (x : Int))) = true
            rw [ih.1]; rfl
          · show max 0 (PyData.depthAll (l.map fun (x : Nat) => PyData.int (x : Int))) = 0
            rw [ih.2]; rfl
      show (PyData.canLayAll0 (l.map fun (x : Nat) => PyData.int (x : Int)) && decide (PyData.depthAll (l.map fun (x : Nat) => PyData.int (x : Int)) + 1 ≤ 64)) = true
      rw [this.1, this.2]; rfl
    have eqi : ∀ l m : List Nat, PyData.eqv (.list (l.map fun (x : Nat) => PyData.int (x : Int))) (.list (m.map fun (x : Nat) => PyData.int (x : Int))) = decide (l = m) := by
      intro l
      show ∀ m, PyData.eqvAll _ _ = _
      induction l with
      | nil => intro m; cases m <;> rfl
      | cons x l ih =>
        intro m
        cases m with
        | nil => rfl
        | cons y m =>
          show (((x : Int) == (y : Int)) && PyData.eqvAll (l.map fun (x : Nat) => PyData.int (x : Int)) (m.map fun (x : Nat) => PyData.int (x : Int))) = _
          rw [ih m, Bool.eq_iff_iff]
          simp only [Bool.and_eq_true, beq_iff_eq, decide_eq_true_eq, List.cons.injEq]
          constructor
          · rintro ⟨h, h'⟩; exact ⟨by omega, h'⟩
          · rintro ⟨h, h'⟩; exact ⟨by omega, h'⟩
    refine ⟨_, _, dpi _ _ h12, dpi _ _ h2, sh _, sh _, _, rfl, ?_⟩
    rw [eqi]
    by_cases h45 : u.take 1 = [45]
    · rw [decide_eq_true h45]
      refine iteF ?_
      have hcu : Ma.numberM u = (Ma.unsignedM (u.drop 1)).bind fun c => if c.num = 0 then none else some (-c) := by
        unfold Ma.numberM; rw [if_pos h45]
      refine ⟨_, rfl, 1, rfl, a, _, rfl, s12.seq ha, fun p3 n3 => ?_⟩
      rw [show cutV (nis u) (some 1) none = (nis u).drop 1 from cut_from (c := 1)]
      have s3 := same_upd (o := .lst ((nis u).drop 1)) n3
      have h3 : SqL K (upd H2 p3 (.lst ((nis u).drop 1))) p3 (nis (u.drop 1)) := SqL.of (by rw [upd_same]; unfold nis; rw [List.map_drop])
      generalize upd H2 p3 (.lst ((nis u).drop 1)) = H3 at s3 h3
      refine ⟨p3, _, rfl, h3, by rw [List.length_drop]; omega, fun H4 v4 s4 h4 => ?_⟩
      have s14 := s12.trans (s3.trans s4)
      cases hs : Ma.unsignedM (u.drop 1) with
      | none =>
        rw [hs] at h4 hcu
        have e4 : v4 = .non := h4
        subst e4
        refine ⟨_, rfl, true, rfl, iteT (iteT ?_)⟩
        exact q H4 .non s14 (by rw [hcu]; rfl)
      | some c =>
        rw [hs] at h4 hcu
        have hcu' : Ma.numberM u = if c.num = 0 then none else some (-c) := hcu
        obtain ⟨p4, rfl, hp4⟩ : RatV K H4 v4 c := h4
        refine ⟨_, rfl, false, rfl, iteF ?_⟩
        refine ⟨_, rfl, p4, _, 0, _, rfl, rfl, hp4, atI_nat (j := 0) rfl, rfl, _, rfl, ite2 (fun c2 => ?_) (fun c2 => ?_)⟩
        · have c3 : c.num = 0 := V.int.inj (of_decide_eq_true c2)
          refine q H4 .non s14 ?_
          rw [hcu', if_pos c3]; rfl
        · have c3 : ¬ c.num = 0 := fun h => c2 (decide_eq_true (by rw [h]))
          refine ⟨_, rfl, p4, _, 0, _, rfl, rfl, hp4, atI_nat (j := 0) rfl, _, rfl, _, rfl, p4, _, 1, _, rfl, rfl, hp4, atI_nat (j := 1) rfl, (by show 2 ≤ sizeLine; decide), fun p5 n5 => ?_⟩
          refine q _ _ (s14.trans (same_upd n5)) ?_
          rw [hcu', if_neg c3]
          exact ⟨p5, rfl, SqT.of upd_same⟩
    · rw [decide_eq_false h45]
      refine iteT ?_
      have hcu : Ma.numberM u = Ma.unsignedM u := by unfold Ma.numberM; rw [if_neg h45]
      refine ⟨_, rfl, a, u, rfl, s12.seq ha, hu, fun H3 v3 s3 h3 => q H3 v3 (s12.trans s3) (by rw [hcu]; exact h3)⟩
end
end W
set_option maxRecDepth 100000
namespace W
open PySem PySem.Spec PyProof.Rows L2
/-! the mathematics -/
def notOk (c : Rat) : Bool := !Al09.numberOk c
def refM (ws : List (List Nat)) : Int := if (ws.map Ma.numberM).any Option.isNone then -1 else if (ws.map Ma.numberM).any (fun o => match o with | none => false | some c => notOk c) then -2 else 0
theorem mapM_none {ws : List (List Nat)} : (ws.map Ma.numberM).any Option.isNone = true ↔ ws.mapM AlOne.readNum = none := by
  induction ws with
  | nil => simp
  | cons x ws ih =>
    rw [List.map_cons, List.any_cons, List.mapM_cons, ← Ma.numberM_read]
    cases h : Ma.numberM x with
    | none => simp
    | some c =>
      simp only [Option.isNone_some, Bool.false_or]
      rw [ih]
      cases h2 : ws.mapM AlOne.readNum with
      | none => simp
      | some cs => simp
theorem mapM_some {ws : List (List Nat)} {cs : List Rat} (h : ws.mapM AlOne.readNum = some cs) : ws.map Ma.numberM = cs.map some := by
  induction ws generalizing cs with
  | nil => simp at h; subst h; rfl
  | cons x ws ih =>
    rw [List.mapM_cons, ← Ma.numberM_read] at h
    cases hx : Ma.numberM x with
    | none => rw [hx] at h; simp at h
    | some c =>
      rw [hx] at h
      cases h2 : ws.mapM AlOne.readNum with
      | none => rw [h2] at h; simp at h
      | some ds =>
        rw [h2] at h
        simp at h
        subst h
        rw [List.map_cons, hx, ih h2]; rfl
theorem any_notOk (cs : List Rat) : ((cs.map some).any fun o => match o with | none => false | some c => notOk c) = !cs.all Al09.numberOk := by
  induction cs with
  | nil => rfl
  | cons c cs ih =>
    rw [List.map_cons, List.any_cons, List.all_cons, ih]
    show (notOk c || _) = _
    unfold notOk
    cases Al09.numberOk c <;> simp
/-- what the texts of numbers are refused by, as the specification says -/
theorem nums_ref (ws : List (List Nat)) (go : List Rat → Al09.Ans) : Al09.nums ws go = if refM ws = 0 then go ((ws.mapM AlOne.readNum).getD []) else Al09.no (refM ws) := by
  unfold Al09.nums refM
  cases h : ws.mapM AlOne.readNum with
  | none =>
    rw [if_pos (mapM_none.mpr h), if_neg (by decide)]
  | some cs =>
    have hn : ¬ (ws.map Ma.numberM).any Option.isNone = true := fun h2 => by rw [mapM_none.mp h2] at h; cases h
    rw [if_neg hn, mapM_some h, any_notOk]
    show (if cs.all Al09.numberOk = false then Al09.no (-2) else go cs) = _
    cases hall : cs.all Al09.numberOk with
    | false => simp
    | true => simp
theorem ref_zero {ws : List (List Nat)} (h : refM ws = 0) : ∃ cs, ws.mapM AlOne.readNum = some cs ∧ ws.map Ma.numberM = cs.map some ∧ cs.all Al09.numberOk = true := by
  unfold refM at h
  split at h
  · cases h
  · rename_i hn
    cases h2 : ws.mapM AlOne.readNum with
    | none => exact absurd (mapM_none.mpr h2) hn
    | some cs =>
      have e := mapM_some h2
      rw [e, any_notOk] at h
      refine ⟨cs, rfl, e, ?_⟩
      cases hall : cs.all Al09.numberOk with
      | true => rfl
      | false => rw [hall] at h; simp at h
theorem ok_small {c : Rat} (h : Al09.numberOk c = true) : Ma.Small c := by
  unfold Al09.numberOk at h
  rw [Bool.and_eq_true, decide_eq_true_eq, decide_eq_true_eq] at h
  have : (10 : Nat) ^ 6 ≤ 2 ^ 20 := by decide
  exact ⟨by omega, by omega⟩
theorem rowsOf_map (n : Nat) : ∀ (k : Nat) (l : List Rat), Al09.rowsOf n k l = (List.range k).map fun i => (l.drop (i * n)).take n
  | 0, _ => rfl
  | k + 1, l => by
    show l.take n :: Al09.rowsOf n k (l.drop n) = _
    rw [rowsOf_map n k (l.drop n), List.range_succ_eq_map, List.map_cons, List.map_map]
    congr 1
    · simp
    · refine List.map_congr_left fun i _ => ?_
      show ((l.drop n).drop (i * n)).take n = (l.drop ((i + 1) * n)).take n
      rw [List.drop_drop, Nat.succ_mul, Nat.add_comm]
theorem sq_rowsOf {n : Nat} {l : List Rat} (h : l.length = n * n) : Ma.Sq n (Al09.rowsOf n n l) := by
  rw [rowsOf_map]
  refine ⟨by simp, ?_⟩
  intro r hr
  rw [List.mem_map] at hr
  obtain ⟨i, hi, e⟩ := hr
  rw [List.mem_range] at hi
  rw [← e, List.length_take, List.length_drop, h]
  have : (i + 1) * n ≤ n * n := Nat.mul_le_mul_right _ hi
  rw [Nat.succ_mul] at this
  omega
theorem small_rowsOf {n k : Nat} {l : List Rat} (h : l.all Al09.numberOk = true) : Ma.SmallT (Al09.rowsOf n k l) := by
  rw [rowsOf_map]
  intro r hr c hc
  rw [List.mem_map] at hr
  obtain ⟨i, _, e⟩ := hr
  rw [← e] at hc
  exact ok_small (List.all_eq_true.mp h c (List.mem_of_mem_drop (List.mem_of_mem_take hc)))
/-! texts in the heap -/
def Texts (K : PySem.W.Frag) (H : Hp) : List V → List (List Nat) → Prop
  | [], [] => True
  | v :: vs, u :: us => (∃ b, v = .ref b ∧ SqL K H b (nis u)) ∧ Texts K H vs us
  | _, _ => False
theorem Texts.same {K : PySem.W.Frag} {H H' : Hp} (e : Same H H') : ∀ {vs : List V} {us : List (List Nat)}, Texts K H vs us → Texts K H' vs us
  | [], [], _ => trivial
  | _ :: _, _ :: _, h => by
    obtain ⟨⟨b, h1, h2⟩, h3⟩ := h
    exact ⟨⟨b, h1, e.seq h2⟩, Texts.same e h3⟩
  | [], _ :: _, h => h.elim
  | _ :: _, [], h => h.elim
theorem Texts.len {K : PySem.W.Frag} {H : Hp} : ∀ {vs : List V} {us : List (List Nat)}, Texts K H vs us → vs.length = us.length
  | [], [], _ => rfl
  | _ :: _, _ :: _, h => by rw [List.length_cons, List.length_cons, Texts.len h.2]
  | [], _ :: _, h => h.elim
  | _ :: _, [], h => h.elim
theorem Texts.get {K : PySem.W.Frag} {H : Hp} : ∀ {vs : List V} {us : List (List Nat)} {i : Nat} {v : V}, Texts K H vs us → vs[i]? = some v → ∃ b u, v = .ref b ∧ us[i]? = some u ∧ SqL K H b (nis u)
  | _ :: _, c :: _, 0, v, h, e => by
    have e' := Option.some.inj e
    subst e'
    obtain ⟨⟨b, h1, h2⟩, _⟩ := h
    exact ⟨b, c, h1, rfl, h2⟩
  | _ :: vs, _ :: l, i + 1, v, h, e => Texts.get (vs := vs) (us := l) (i := i) h.2 e
  | [], [], _, _, _, e => by simp at e
  | [], _ :: _, _, _, h, _ => h.elim
  | _ :: _, [], _, _, h, _ => h.elim
def Opts (K : PySem.W.Frag) (H : Hp) : List V → List (Option Rat) → Prop
  | [], [] => True
  | v :: vs, o :: os => OptR K H v o ∧ Opts K H vs os
  | _, _ => False
section
variable {K : PySem.W.Frag} {H H' : Hp}
theorem Opts.same (e : Same H H') : ∀ {vs : List V} {os : List (Option Rat)}, Opts K H vs os → Opts K H' vs os
  | [], [], _ => trivial
  | _ :: _, _ :: _, h => ⟨h.1.same e, Opts.same e h.2⟩
  | [], _ :: _, h => h.elim
  | _ :: _, [], h => h.elim
theorem Opts.len : ∀ {vs : List V} {os : List (Option Rat)}, Opts K H vs os → vs.length = os.length
  | [], [], _ => rfl
  | _ :: _, _ :: _, h => by rw [List.length_cons, List.length_cons, Opts.len h.2]
  | [], _ :: _, h => h.elim
  | _ :: _, [], h => h.elim
theorem Opts.snoc : ∀ {vs : List V} {os : List (Option Rat)} {v : V} {o : Option Rat}, Opts K H vs os → OptR K H v o → Opts K H (vs ++ [v]) (os ++ [o])
  | [], [], _, _, _, h2 => ⟨h2, trivial⟩
  | _ :: _, _ :: _, _, _, h, h2 => ⟨h.1, Opts.snoc h.2 h2⟩
  | [], _ :: _, _, _, h, _ => h.elim
  | _ :: _, [], _, _, h, _ => h.elim
theorem OptR.updL {k : Addr} {us ws : List V} {v : V} {o : Option Rat} (hk : H k = some (.lst us)) (h : OptR K H v o) : OptR K (upd H k (.lst ws)) v o := by
  cases o with
  | none => exact h
  | some c => exact RatV.updL hk h
theorem Opts.updL {k : Addr} {us ws : List V} (hk : H k = some (.lst us)) : ∀ {vs : List V} {os : List (Option Rat)}, Opts K H vs os → Opts K (upd H k (.lst ws)) vs os
  | [], [], _ => trivial
  | _ :: _, _ :: _, h => ⟨h.1.updL hk, Opts.updL hk h.2⟩
  | [], _ :: _, h => h.elim
  | _ :: _, [], h => h.elim
theorem Opts.get : ∀ {vs : List V} {os : List (Option Rat)} {i : Nat} {v : V}, Opts K H vs os → vs[i]? = some v → ∃ o, os[i]? = some o ∧ OptR K H v o
  | _ :: _, c :: _, 0, v, h, e => by
    have e' := Option.some.inj e
    subst e'
    exact ⟨c, rfl, h.1⟩
  | _ :: vs, _ :: l, i + 1, v, h, e => Opts.get (vs := vs) (os := l) (i := i) h.2 e
  | [], [], _, _, _, e => by simp at e
  | [], _ :: _, _, _, h, _ => h.elim
  | _ :: _, [], _, _, h, _ => h.elim
theorem Opts.rats : ∀ {vs : List V} {cs : List Rat}, Opts K H vs (cs.map some) → Rats K H vs cs
  | [], [], _ => trivial
  | _ :: _, _ :: _, h => ⟨h.1, Opts.rats h.2⟩
  | [], _ :: _, h => h.elim
  | _ :: _, [], h => h.elim
def datO : Option Rat → PyData
  | none => .none
  | some c => datR c
theorem OptR.dp {v : V} {o : Option Rat} (h : OptR K H v o) : Dp K H v (datO o) := by
  cases o with
  | none =>
    have e : v = .non := h
    subst e; exact .non
  | some c => exact RatV.dp h
theorem Opts.dp : ∀ {vs : List V} {os : List (Option Rat)}, Opts K H vs os → DpAll K H vs (os.map datO)
  | [], [], _ => .nil
  | _ :: _, _ :: _, h => .cons h.1.dp (Opts.dp h.2)
  | [], _ :: _, h => h.elim
  | _ :: _, [], h => h.elim
end
theorem lay_datO (l : List (Option Rat)) : PyData.canLayAll0 (l.map datO) = true ∧ PyData.depthAll (l.map datO) ≤ 1 := by
  induction l with
  | nil => exact ⟨rfl, by decide⟩
  | cons c l ih =>
    refine ⟨?_, ?_⟩
    · show (PyData.canLay0 (datO c) && PyData.canLayAll0 (l.map datO)) = true
      rw [ih.1]; cases c <;> rfl
    · show max (PyData.depth (datO c)) (PyData.depthAll (l.map datO)) ≤ 1
      have : PyData.depth (datO c) ≤ 1 := by cases c with
        | none => show 0 ≤ 1; omega
        | some c => show 1 ≤ 1; omega
      omega
theorem shaped_datO (l : List (Option Rat)) : SeqAt.shaped (.list (l.map datO)) = true := by
  have h := lay_datO l
  show (PyData.canLayAll0 (l.map datO) && decide (PyData.depthAll (l.map datO) + 1 ≤ 64)) = true
  rw [h.1, decide_eq_true (by omega)]; rfl
theorem any_none (l : List (Option Rat)) : ((l.map datO).any fun z => PyData.eqv z .none) = l.any Option.isNone := by
  rw [List.any_map]
  congr 1
  funext o
  cases o <;> rfl
section
variable {P : Program} {w : World} {K : PySem.W.Frag} {mg : Str → Option Value} {base : Heap}
def spLong (K : PySem.W.Frag) : Sp := fun vs H Q _ => ∃ (x : V) (c : Rat), vs = [x] ∧ RatV K H x c ∧ Q (.bl (notOk c)) H
theorem ok_is_long (T : Txt K mg) : FnOk P w K mg base CX0 1 T.f_is_long T.e_is_long ["number"] (spLong K) := by
  obtain ⟨tm, gm⟩ := T.g_MOST
  refine T.d_is_long.F.ok sc_is_long (fun vs H Q E h => ?_) (fun cdv A outer s H vs Q E hr h => ?_)
  · obtain ⟨x, c, rfl, _⟩ := h
    rfl
  · obtain ⟨x, c, rfl, ⟨p, rfl, hp⟩, q⟩ := h
    refine ⟨_, pss_one (ps_ret (pe_or (pe_cmpR op_gt (pe_callB call_abs (by rfl) T.z_abs (by decide +kernel) (pa_cons (pe_ix ix_tup (pv 0) pe_int (fun _ _ => rfl)) pa_nil)) (pe_glob (v := .int 999999) (by rfl) gm ⟨_, rfl⟩) (nomark _))
      (pe_one (pe_cmpR op_gt (pe_ix ix_tup (pv 0) pe_int (fun _ _ => rfl)) (pe_glob (v := .int 999999) (by rfl) gm ⟨_, rfl⟩) (nomark _))))), ?_⟩
    refine ⟨_, rfl, p, _, 0, _, rfl, rfl, hp, atI_nat (j := 0) rfl, _, rfl, _, _, rfl, rfl, _, rfl, ?_⟩
    rw [abs_nat]
    refine ite2 (fun e => ?_) (fun e => ?_)
    · have e1 : (999999 : Int) < (c.num.natAbs : Int) := of_decide_eq_true e
      have : notOk c = true := by
        unfold notOk Al09.numberOk
        rw [decide_eq_false (by omega)]; rfl
      rw [this] at q; exact q
    · have e1 : ¬ (999999 : Int) < (c.num.natAbs : Int) := fun h => e (decide_eq_true h)
      refine ⟨_, rfl, p, _, 1, _, rfl, rfl, hp, atI_nat (j := 1) rfl, _, _, rfl, rfl, ?_⟩
      have : notOk c = decide ((999999 : Int) < (c.den : Int)) := by
        unfold notOk Al09.numberOk
        rw [decide_eq_true (show c.num.natAbs < 10 ^ 6 by omega), Bool.true_and]
        by_cases h : (c.den : Int) ≤ 999999
        · rw [decide_eq_true (show c.den < 10 ^ 6 by omega), decide_eq_false (by omega)]; rfl
        · rw [decide_eq_false (show ¬ c.den < 10 ^ 6 by omega), decide_eq_true (by omega)]; rfl
      rw [this] at q; exact q
/-- the number of each text, None where it isn't a number's -/
def spNumsOf (K : PySem.W.Frag) : Sp := fun vs H Q _ => ∃ (a : Addr) (ts : List V) (us : List (List Nat)), vs = [.ref a] ∧ SqL K H a ts ∧ Texts K H ts us ∧ (∀ u ∈ us, u.length ≤ 1000) ∧ us.length ≤ 100 ∧
  ∀ H' D acc, Same H H' → H D = none → H' D = some (.lst acc) → Opts K H' acc (us.map Ma.numberM) → Q (.ref D) H'
theorem ok_numbers_of (T : Txt K mg) : FnOk P w K mg base CX0 4 T.f_numbers_of T.e_numbers_of ["texts"] (spNumsOf K) := by
  refine T.d_numbers_of.F.ok sc_numbers_of (fun vs H Q E h => ?_) (fun cdv A outer s H vs Q E hr h => ?_)
  · obtain ⟨a, ts, us, rfl, _⟩ := h
    rfl
  · obtain ⟨a, ts, us, rfl, ha, hT, hl, hn, q⟩ := h
    refine ⟨_, pss_one (ps_ret (pe_lc (own := [("text", 1)]) (g := gName 1) (tt := tYes) rfl sc_numbers_of.nd (pi_list (pv 0)) (blkOk_by (N := n_numbers_of) (sc := defScope s_numbers_of) (by decide +kernel)) (fun _ _ _ _ _ => pg_name (i := 1) sc_numbers_of.nd rfl (Or.inl rfl)) (fun _ _ _ _ _ => pts_nil)
          (fun _ _ _ _ _ => pe_D T.d_number_of (ok_number_of T) hr (pa_cons (pv 1) pa_nil)))), ?_⟩
    have hTl := hT.len
    refine ⟨_, rfl, a, rfl, ⟨ts, ha⟩, fun D nD => ?_⟩
    refine lc_list (K := K) (a := a) (xs := ts) (fun i H' => Same H H' ∧ ∃ acc, H' D = some (.lst acc) ∧ Opts K H' acc ((us.take i).map Ma.numberM)) ⟨same_upd nD, [], upd_same, trivial⟩ (fun i H' _ h => h.1.seq ha) ?_ ?_
    · rintro i x H' hx ⟨sm, acc, hD, hacc⟩
      obtain ⟨b, u, rfl, hu, hb⟩ := hT.get hx
      refine ⟨rfl, _, rfl, b, u, rfl, sm.seq hb, hl u (List.mem_of_getElem? hu), fun H2 v2 s2 h2 => ⟨acc, s2 _ _ hD, ?_, ?_, _, upd_same, ?_⟩⟩
      · rw [hacc.len, List.length_map, List.length_take]
        exact small1000 (by omega)
      · intro b' o e
        rw [upd_ne (ne_of_none e nD)]
        exact s2 _ _ (sm _ _ e)
      · rw [List.take_add_one, hu, List.map_append]
        exact ((hacc.same s2).snoc h2).updL (s2 _ _ hD)
    · rintro H1 ⟨s1, acc, hD, hacc⟩
      rw [hTl, List.take_length] at hacc
      exact q H1 D acc s1 nD hD hacc
def spRefusal (K : PySem.W.Frag) (f : List (List Nat) → Int) : Sp := fun vs H Q _ => ∃ (a : Addr) (ts : List V) (us : List (List Nat)), vs = [.ref a] ∧ SqL K H a ts ∧ Texts K H ts us ∧ (∀ u ∈ us, u.length ≤ 1000) ∧ us.length ≤ 100 ∧
  ∀ H', Same H H' → Q (.int (f us)) H'
theorem ok_numbers_refusal (T : Txt K mg) : FnOk P w K mg base CX0 5 T.f_numbers_refusal T.e_numbers_refusal ["texts"] (spRefusal K refM) := by
  obtain ⟨t1, g1⟩ := T.g_WRONG_TEXT
  obtain ⟨t2, g2⟩ := T.g_TOO_LARGE
  refine T.d_numbers_refusal.F.ok sc_numbers_refusal (fun vs H Q E h => ?_) (fun cdv A outer s H vs Q E hr h => ?_)
  · obtain ⟨a, ts, us, rfl, _⟩ := h
    rfl
  · obtain ⟨a, ts, us, rfl, ha, hT, hl, hn, q⟩ := h
    have hu65 : A.units + 3 + 65 < cLine := by have := hr.un; exact Nat.lt_of_le_of_lt (by show A.units + 3 + 65 ≤ A.units + 3 + 16 * 4 + 200; omega) this
    refine ⟨_, pss_cons (ps_set (i := 1) sc_numbers_refusal.nd rfl (.inl rfl) (pe_D T.d_numbers_of (ok_numbers_of T) hr (pa_cons (pv 0) pa_nil)))
      (pss_cons (ps_if (pt_cmpR (op_inD hu65) pe_non (pv 1) rfl) (pss_one (ps_ret (pe_glob (v := .int (-1)) (by rfl) g1 ⟨_, rfl⟩))) pss_nil)
      (pss_cons (ps_if (pt_val (pe_callB (cr_any rfl) (by rfl) T.z_any (by decide +kernel) (pa_cons (pe_lc (own := [("number", 2)]) (g := gName 2) (tt := tYes) rfl sc_numbers_refusal.nd (pi_list (pv 1)) (blkOk_by (N := n_numbers_refusal) (sc := defScope s_numbers_refusal) (by decide +kernel)) (fun _ _ _ _ _ => pg_name (i := 2) sc_numbers_refusal.nd rfl (Or.inl rfl)) (fun _ _ _ _ _ => pts_nil)
          (fun _ _ _ _ _ => pe_D T.d_is_long (ok_is_long T) hr (pa_cons (pv 2) pa_nil))) pa_nil))) (pss_one (ps_ret (pe_glob (v := .int (-2)) (by rfl) g2 ⟨_, rfl⟩))) pss_nil)
      (pss_one (ps_ret pe_int)))), ?_⟩
    have hTl := hT.len
    refine ⟨_, rfl, a, ts, us, rfl, ha, hT, hl, hn, fun H1 D acc s1 nD hD hacc => ?_⟩
    · skip
      refine ⟨_, rfl, .none, _, .non, .lst (SqL.of hD) hacc.dp, rfl, shaped_datO _, _, rfl, ?_⟩
      rw [any_none]
      refine ite2 (fun c => ?_) (fun c => ?_)
      · have : refM us = -1 := by unfold refM; rw [if_pos c]
        have := q H1 s1
        rw [‹refM us = -1›] at this; exact this
      · refine ⟨_, rfl, D, rfl, ⟨acc, SqL.of hD⟩, fun B nB => ?_⟩
        refine lc_list (K := K) (a := D) (xs := acc) (fun i H' => Same H1 H' ∧ H' B = some (.lst ((((us.map Ma.numberM).take i).map fun o => match o with | none => false | some c => notOk c).map V.bl))) ⟨same_upd nB, upd_same⟩ (fun i H' _ h => SqL.of (h.1 _ _ hD)) ?_ ?_
        · rintro i x H' hx ⟨sm, hB⟩
          obtain ⟨o, ho, hv⟩ := hacc.get hx
          cases o with
          | none =>
            exfalso
            apply c
            rw [List.any_eq_true]
            exact ⟨none, List.mem_of_getElem? ho, rfl⟩
          | some c0 =>
            refine ⟨rfl, _, rfl, x, c0, rfl, RatV.same hv sm, _, hB, ?_, fun b' o' e => ?_, ?_⟩
            · rw [List.length_map, List.length_map, List.length_take, List.length_map]
              exact small1000 (by omega)
            · rw [upd_ne (ne_of_none e nB)]
              exact sm _ _ e
            · rw [upd_same, List.take_add_one, ho, List.map_append, List.map_append]; rfl
        · rintro H2 ⟨s2, hB⟩
          rw [List.take_of_length_le (by rw [hacc.len]; exact Nat.le_refl _)] at hB
          refine ⟨B, _, rfl, SqL.of hB, _, rfl, ?_⟩
          rw [List.any_map]
          have e3 : (us.map Ma.numberM).any (id ∘ fun o => match o with | none => false | some c => notOk c) = (us.map Ma.numberM).any (fun o => match o with | none => false | some c => notOk c) := rfl
          rw [e3]
          refine ite2 (fun c2 => ?_) (fun c2 => ?_)
          · have e4 : refM us = -2 := by unfold refM; rw [if_neg c, if_pos c2]
            have := q H2 (s1.trans s2)
            rw [e4] at this; exact this
          · have e4 : refM us = 0 := by unfold refM; rw [if_neg c, if_neg c2]
            have := q H2 (s1.trans s2)
            rw [e4] at this; exact this
end
end W
set_option maxRecDepth 100000
namespace W
open PySem PySem.Spec PyProof.Rows L2
open TL (tl numL numL_lt numL_step tl_num tl_append len_tl ext_tl)
/-! the mathematics -/
def sideRows : List (Int × Int) := [(1, 1), (4, 2), (9, 3), (16, 4)]
theorem side_all : ∀ k : Nat, k ≤ 100 → (sideRows.lookup (k : Int)) = (Al09.sideOf k).map fun (n : Nat) => (n : Int) := by decide +kernel
theorem side_sq : ∀ k : Nat, k ≤ 100 → ∀ n, Al09.sideOf k = some n → n * n = k ∧ 1 ≤ n ∧ n ≤ 4 := by
  intro k _ n h
  unfold Al09.sideOf at h
  have h1 := List.find?_some h
  have h2 := List.mem_of_find?_eq_some h
  simp at h1 h2
  refine ⟨h1, ?_⟩
  rcases h2 with e | e | e | e <;> omega
def tabRef (us : List (List Nat)) : Int := match Al09.sideOf us.length with
  | none => -6
  | some _ => refM us
theorem cut_mid {xs : List V} {a b : Nat} (h : a ≤ b) : cutV xs (some (a : Int)) (some (b : Int)) = (xs.drop a).take (b - a) := by
  unfold cutV
  rw [HT.sIx_nat, HT.sIx_nat]
  by_cases ha : a ≤ xs.length
  · rw [Nat.min_eq_left ha]
    by_cases hb : b ≤ xs.length
    · rw [Nat.min_eq_left hb]
    · rw [Nat.min_eq_right (by omega), List.take_of_length_le (by rw [List.length_drop]; omega), List.take_of_length_le (by rw [List.length_drop]; omega)]
  · rw [Nat.min_eq_right (by omega), Nat.min_eq_right (by omega), List.drop_of_length_le (Nat.le_refl _), List.drop_of_length_le (by omega)]; simp
theorem Rats.drop {K : PySem.W.Frag} {H : Hp} : ∀ {vs : List V} {l : List Rat} (n : Nat), Rats K H vs l → Rats K H (vs.drop n) (l.drop n)
  | vs, l, 0, h => h
  | [], [], _ + 1, _ => trivial
  | _ :: _, _ :: _, n + 1, h => Rats.drop n h.2
  | [], _ :: _, _ + 1, h => h.elim
  | _ :: _, [], _ + 1, h => h.elim
theorem Rats.take {K : PySem.W.Frag} {H : Hp} : ∀ {vs : List V} {l : List Rat} (n : Nat), Rats K H vs l → Rats K H (vs.take n) (l.take n)
  | vs, l, 0, h => by simp only [List.take_zero]; exact trivial
  | [], [], _ + 1, _ => trivial
  | _ :: _, _ :: _, n + 1, h => ⟨h.1, Rats.take n h.2⟩
  | [], _ :: _, _ + 1, h => h.elim
  | _ :: _, [], _ + 1, h => h.elim
section
variable {P : Program} {w : World} {K : PySem.W.Frag} {mg : Str → Option Value} {base : Heap}
theorem ok_table_refusal (T : Txt K mg) : FnOk P w K mg base CX0 6 T.f_table_refusal T.e_table_refusal ["texts"] (spRefusal K tabRef) := by
  obtain ⟨t1, g1⟩ := T.g_NOT_SO_MANY
  refine T.d_table_refusal.F.ok sc_table_refusal (fun vs H Q E h => ?_) (fun cdv A outer s H vs Q E hr h => ?_)
  · obtain ⟨a, ts, us, rfl, _⟩ := h
    rfl
  · obtain ⟨a, ts, us, rfl, ha, hT, hl, hn, q⟩ := h
    refine ⟨_, pss_cons (ps_if (pt_cmpR (op_notIn_ki T.l_ROWS T.o_ROWS T.v_ROWS) (pe_callB call_len_seq (by rfl) T.z_len PySem.boot_len (pa_cons (pv 0) pa_nil)) (pe_glob (v := .ref T.a_ROWS) (by rfl) T.g_ROWS rfl) rfl) (pss_one (ps_ret (pe_glob (v := .int (-6)) (by rfl) g1 ⟨_, rfl⟩))) pss_nil)
      (pss_one (ps_ret (pe_D T.d_numbers_refusal (ok_numbers_refusal T) hr (pa_cons (pv 0) pa_nil)))), ?_⟩
    have hTl := hT.len
    refine ⟨_, rfl, a, ts, rfl, .inl ha, _, rfl, rfl, _, rfl, ?_⟩
    have e1 : ([(1, 1), (4, 2), (9, 3), (16, 4)] : List (Int × Int)).lookup (ts.length : Int) = (Al09.sideOf us.length).map fun (n : Nat) => (n : Int) := by
      rw [hTl]; exact side_all us.length (by omega)
    rw [e1]
    cases hs : Al09.sideOf us.length with
    | none =>
      refine iteT ?_
      have e2 : tabRef us = -6 := by unfold tabRef; rw [hs]
      have := q H (Same.refl H)
      rw [e2] at this; exact this
    | some n =>
      refine iteF ?_
      refine ⟨_, rfl, a, ts, us, rfl, ha, hT, hl, hn, fun H' s' => ?_⟩
      have e2 : tabRef us = refM us := by unfold tabRef; rw [hs]
      have := q H' s'
      rw [e2] at this; exact this
def spTableOfN (K : PySem.W.Frag) : Sp := fun vs H Q _ => ∃ (a : Addr) (ts : List V) (us : List (List Nat)) (n : Nat) (cs : List Rat), vs = [.ref a] ∧ SqL K H a ts ∧ Texts K H ts us ∧ (∀ u ∈ us, u.length ≤ 1000) ∧ us.length ≤ 100 ∧ Al09.sideOf us.length = some n ∧ us.map Ma.numberM = cs.map some ∧
  ∀ H' r, Same H H' → TabN K H' (fun b => H b = none) r (Al09.rowsOf n n cs) → Q (.ref r) H'
theorem ok_table_ofN (T : Txt K mg) : FnOk P w K mg base CX0 5 T.f_table_of T.e_table_of ["texts"] (spTableOfN K) := by
  refine T.d_table_of.F.ok sc_table_of (fun vs H Q E h => ?_) (fun cdv A outer s H vs Q E hr h => ?_)
  · obtain ⟨a, ts, us, n, cs, rfl, _⟩ := h
    rfl
  · obtain ⟨a, ts, us, n, cs, rfl, ha, hT, hl, hn, hsd, hcs, q⟩ := h
    refine ⟨_, pss_cons (ps_set (i := 1) sc_table_of.nd rfl (.inr rfl) (pe_ix (ix_ki T.l_ROWS T.v_ROWS) (pe_glob (v := .ref T.a_ROWS) (by rfl) T.g_ROWS rfl) (pe_callB call_len_seq (by rfl) T.z_len PySem.boot_len (pa_cons (pv 0) pa_nil)) (fun _ _ => rfl)))
      (pss_cons (ps_set (i := 2) sc_table_of.nd rfl (.inr rfl) (pe_D T.d_numbers_of (ok_numbers_of T) hr (pa_cons (pv 0) pa_nil)))
      (pss_one (ps_ret (pe_lc (own := [("at", 3)]) (g := gName 3) (tt := tYes) rfl sc_table_of.nd (pi_range1 (by rfl) T.z_range (pa_cons (pv 1) pa_nil)) (blkOk_by (N := n_table_of) (sc := defScope s_table_of) (by decide +kernel)) (fun _ _ _ _ _ => pg_name (i := 3) sc_table_of.nd rfl (Or.inl rfl)) (fun _ _ _ _ _ => pts_nil)
          (fun _ _ _ _ _ => pe_slice (show SlR _ (rSlL K) from sl_list) (pv 2) (po_some (pe_op op_mul (pv 3) (pv 1))) (po_some (pe_op op_mul (pe_op op_add (pv 3) pe_int) (pv 1)))))))), ?_⟩
    have hTl := hT.len
    obtain ⟨hsq, hn1, hn4⟩ := side_sq us.length hn n hsd
    have e1 : ([(1, 1), (4, 2), (9, 3), (16, 4)] : List (Int × Int)).lookup (ts.length : Int) = some (n : Int) := by
      have := side_all us.length (by omega)
      rw [hsd] at this
      rw [hTl]; exact this
    refine ⟨_, rfl, a, ts, rfl, .inl ha, _, _, rfl, rfl, e1, ?_⟩
    refine ⟨_, rfl, a, ts, us, rfl, ha, hT, hl, hn, fun H1 D acc s1 nDH hD hacc => ?_⟩
    · rw [hcs] at hacc
      have hR := hacc.rats
      refine ⟨_, rfl, _, rfl, (by omega), (by omega), fun B nB => ?_⟩
      have hBD : B ≠ D := by intro e; rw [e, hD] at nB; cases nB
      refine lc_range (lo := 0) (n := ((n : Nat) : Int).toNat) (fun i H' => Same H1 H' ∧ ∃ bs, H' B = some (.lst bs) ∧ PolsN K H' (fun b => b ≠ B ∧ H b = none) bs ((List.range i).map fun i => (cs.drop (i * n)).take n)) ⟨same_upd nB, [], upd_same, trivial⟩ ?_ ?_
      · rintro i H' hi ⟨sm, bs, hB, hbs⟩
        have hin : i < n := by omega
        have ei : (0 : Int) + ((i : Nat) : Int) = ((i : Nat) : Int) := by omega
        rw [ei]
        have hm1 : ((i : Nat) : Int) * ((n : Nat) : Int) = ((i * n : Nat) : Int) := by rw [Int.natCast_mul]
        have hm2 : (((i : Nat) : Int) + 1) * ((n : Nat) : Int) = (((i + 1) * n : Nat) : Int) := by rw [Int.natCast_mul]; rfl
        refine ⟨rfl, _, rfl, _, rfl, _, rfl, _, _, rfl, rfl, .inl (by constructor <;> omega), _, rfl, _, rfl, _, _, rfl, rfl, _, rfl, _, _, rfl, rfl, .inl (by constructor <;> omega), _, rfl, D, acc, rfl, SqL.of (sm _ _ hD), fun p np => ?_⟩
        rw [hm1, hm2, cut_mid (Nat.mul_le_mul_right _ (by omega)), show (i + 1) * n - i * n = n by rw [Nat.succ_mul]; omega]
        have sp := same_upd (o := .lst ((acc.drop (i * n)).take n)) np
        have hp : PolV K (upd H' p (.lst ((acc.drop (i * n)).take n))) p ((cs.drop (i * n)).take n) := ⟨_, upd_same, (((hR.drop (i * n)).take n).same sm).same sp⟩
        generalize upd H' p (.lst ((acc.drop (i * n)).take n)) = H2 at sp hp
        have hpB : p ≠ B := by intro e; rw [e, hB] at np; cases np
        refine ⟨bs, sp _ _ hB, ?_, fun b' o e => ?_, _, upd_same, ?_⟩
        · rw [hbs.len, List.length_map, List.length_range]
          exact small1000 (by omega)
        · rw [upd_ne (ne_of_none e nB)]
          exact sp _ _ (sm _ _ e)
        · rw [List.range_succ, List.map_append]
          exact ((hbs.same sp).snoc (b := p) ⟨hpB, s1.free (sm.free np)⟩ hp).updN (sp _ _ hB) (fun _ h => h.1)
      · rintro H' ⟨sm, bs, hB, hbs⟩
        refine q H' B (s1.trans sm) ⟨s1.free nB, bs, hB, ?_⟩
        rw [rowsOf_map]
        rw [Int.toNat_natCast] at hbs
        exact hbs.mono fun _ h => h.2
def spTableOf (K : PySem.W.Frag) : Sp := fun vs H Q _ => ∃ (a : Addr) (ts : List V) (us : List (List Nat)) (n : Nat) (cs : List Rat), vs = [.ref a] ∧ SqL K H a ts ∧ Texts K H ts us ∧ (∀ u ∈ us, u.length ≤ 1000) ∧ us.length ≤ 100 ∧ Al09.sideOf us.length = some n ∧ us.map Ma.numberM = cs.map some ∧
  ∀ H' r, Same H H' → TabN K H' Any r (Al09.rowsOf n n cs) → Q (.ref r) H'
theorem ok_table_of (T : Txt K mg) : FnOk P w K mg base CX0 5 T.f_table_of T.e_table_of ["texts"] (spTableOf K) := (ok_table_ofN T).imp fun vs H Q E h => by
  obtain ⟨a, ts, us, n, cs, h1, h2, h3, h4, h5, h6, h7, q⟩ := h
  exact ⟨a, ts, us, n, cs, h1, h2, h3, h4, h5, h6, h7, fun H' r s' t => q H' r s' (t.mono fun _ _ => trivial)⟩
/-! the call -/
theorem text_of {n : Nat} {t : Al09.Table} (sq : Ma.Sq n t) (hn : n ≤ 4) (hs : Ma.SmallT t) : ∀ l ∈ Al09.forms t, Ma.Tr l ∧ l.length ≤ 5 ∧ ∀ c ∈ l, Wr c := by
  intro l hl
  rw [Ma.forms_val sq, List.mem_map] at hl
  obtain ⟨p, hp, rfl⟩ := hl
  unfold Ma.formsP at hp
  have hp := (List.mem_filter.mp hp).1
  rw [List.mem_map] at hp
  obtain ⟨k, hk, rfl⟩ := hp
  rw [List.mem_range, sq.rows] at hk
  have h := Ma.fP_ht sq hn hs hk
  refine ⟨(Ma.fP t k).2, h.2, fun c hc => ?_⟩
  have := (Ma.Ht.htP h.1).num c hc
  have h2 : (2 : Nat) ^ 598 ≤ 2 ^ 4400 := Nat.pow_le_pow_right (by omega) (by omega)
  exact ⟨Nat.le_trans this.1 h2, Nat.le_trans this.2 h2⟩
theorem text_len {l : List Rat} (h : Ma.Tr l) (h5 : l.length ≤ 5) (hw : ∀ c ∈ l, Wr c) : (AlOne.text l).length ≤ 20000 := by
  by_cases hne : l = []
  · subst hne; decide
  · rw [← TT_all h hne]
    have := TT_len (by omega) hw l.length (Nat.le_refl _)
    have : l.length * 4000 ≤ 5 * 4000 := Nat.mul_le_mul_right _ h5
    omega
theorem forms_len {n : Nat} {t : Al09.Table} (sq : Ma.Sq n t) : (Al09.forms t).length ≤ n := by
  rw [← formsTo_all sq]; exact formsTo_len t n
/-- an answer's list -/
def shown (a : Al09.Ans) : List Int := a.code :: a.texts.flatMap Al09Neutral.shownText
theorem told_shown (f : Int) : ∀ (zs : List Str) (ts : List (List Nat)), zs.map tl = ts → told f zs = shown ⟨f, ts⟩ := by
  intro zs ts h
  subst h
  unfold told shown
  congr 1
  rw [List.flatMap_map]
  congr 1
/-- the texts back from whole numbers -/
theorem nats_back (us : List (List Nat)) : (us.map fun u => u.map fun (x : Nat) => (x : Int)).map Al09Neutral.nats = us := by
  rw [List.map_map]
  conv => rhs; rw [← List.map_id us]
  refine List.map_congr_left fun u _ => ?_
  show (u.map fun (x : Nat) => (x : Int)).map Int.toNat = u
  rw [List.map_map]
  conv => rhs; rw [← List.map_id u]
  exact List.map_congr_left fun x _ => Int.toNat_natCast x
theorem with1_no {us : List (List Nat)} (go : Al09.Table → Al09.Ans) (h : tabRef us ≠ 0) : Al09.with1 us go = Al09.no (tabRef us) := by
  unfold Al09.with1
  unfold tabRef at *
  cases hs : Al09.sideOf us.length with
  | none => rfl
  | some n =>
    rw [hs] at h
    show Al09.nums us _ = _
    rw [nums_ref, if_neg h]
theorem with1_ok {us : List (List Nat)} (h : tabRef us = 0) : ∃ n cs, Al09.sideOf us.length = some n ∧ us.map Ma.numberM = cs.map some ∧ cs.all Al09.numberOk = true ∧ cs.length = us.length ∧
    ∀ go : Al09.Table → Al09.Ans, Al09.with1 us go = go (Al09.rowsOf n n cs) := by
  unfold tabRef at h
  cases hs : Al09.sideOf us.length with
  | none => rw [hs] at h; cases h
  | some n =>
    rw [hs] at h
    obtain ⟨cs, h1, h2, h3⟩ := ref_zero h
    refine ⟨n, cs, rfl, h2, h3, ?_, fun go => ?_⟩
    · have := congrArg List.length h2
      rw [List.length_map, List.length_map] at this
      exact this.symm
    · unfold Al09.with1
      rw [hs]
      show Al09.nums us _ = _
      rw [nums_ref, if_pos h, h1]; rfl
theorem tabRef_neg {us : List (List Nat)} (h : tabRef us ≠ 0) : tabRef us < 0 := by
  unfold tabRef refM at *
  split
  · decide
  · rename_i e
    rw [e] at h
    simp only at h
    split
    · decide
    · rename_i h1
      rw [if_neg h1] at h
      split
      · decide
      · rename_i h2
        rw [if_neg h2] at h
        exact absurd rfl h
def spTop (K : PySem.W.Frag) (due : List (List Nat) → List Int) : Sp := fun vs H Q _ => ∃ (a : Addr) (ts : List V) (us : List (List Nat)), vs = [.ref a] ∧ SqL K H a ts ∧ Texts K H ts us ∧ (∀ u ∈ us, u.length ≤ 1000) ∧ us.length ≤ 100 ∧
  ∀ H' r, H' r = some (.lst ((due us).map V.int)) → Q (.ref r) H'
end
end W
set_option maxRecDepth 100000
namespace W
open PySem PySem.Spec PyProof.Rows L2
open PySem.W (WData Codec)
/-! the request -/
def unZ (l : List Int) : List Nat := l.map Int.toNat
theorem unZ_back {l : List Int} (h : ∀ x ∈ l, 0 ≤ x) : (unZ l).map (fun (x : Nat) => (x : Int)) = l := by
  unfold unZ
  rw [List.map_map]
  conv => rhs; rw [← List.map_id l]
  refine List.map_congr_left fun x hx => ?_
  show ((x.toNat : Nat) : Int) = x
  have := h x hx
  omega
theorem texts_dw {K : PySem.W.Frag} {H : Hp} : ∀ (a : List (List Int)) (vs : List V), (∀ l ∈ a, ∀ x ∈ l, 0 ≤ x) → DwAll K H vs (a.map fun l => WData.list (l.map WData.int)) → Texts K H vs (a.map unZ)
  | [], vs, _, h => by cases h; exact trivial
  | l :: a, vs, hp, h => by
    cases h with
    | cons h1 h2 =>
      cases h1 with
      | lst hs ha =>
        have e := ints_dw l _ ha
        subst e
        refine ⟨⟨_, rfl, ?_⟩, texts_dw a _ (fun l hl => hp l (by simp [hl])) h2⟩
        have e2 : nis (unZ l) = l.map V.int := by
          conv => rhs; rw [← unZ_back (hp l (by simp))]
          unfold nis
          rw [List.map_map]; rfl
        rw [e2]; exact hs
theorem rows_in {a : List (List Int)} (h : (a.all fun l => Codec.inLen 0 1000 l && l.all (Codec.inInt 0 255)) = true) : ∀ l ∈ a, l.length ≤ 1000 ∧ ∀ x ∈ l, (0 : Int) ≤ x := by
  intro l hl
  have := List.all_eq_true.mp h l hl
  rw [Bool.and_eq_true] at this
  refine ⟨(Codec.inNat_iff.mp this.1).2, fun x hx => ?_⟩
  have h9 := List.all_eq_true.mp this.2 x hx
  unfold Codec.inInt at h9
  rw [Bool.and_eq_true, decide_eq_true_eq] at h9
  exact h9.1
theorem unZ_len {a : List (List Int)} (h : ∀ l ∈ a, l.length ≤ 1000 ∧ ∀ x ∈ l, (0 : Int) ≤ x) : ∀ u ∈ a.map unZ, u.length ≤ 1000 := by
  intro u hu
  rw [List.mem_map] at hu
  obtain ⟨l, hl, rfl⟩ := hu
  unfold unZ
  rw [List.length_map]; exact (h l hl).1
theorem unZ_all {a : List (List Int)} (h : ∀ l ∈ a, l.length ≤ 1000 ∧ ∀ x ∈ l, (0 : Int) ≤ x) : ((a.map unZ).map fun u => u.map fun (x : Nat) => (x : Int)) = a := by
  rw [List.map_map]
  conv => rhs; rw [← List.map_id a]
  exact List.map_congr_left fun l hl => unZ_back (h l hl).2
end W
set_option maxRecDepth 100000
namespace W
open PySem PySem.Spec PyProof.Rows L2
/-! so many texts, beside n -/
theorem refM_neg {us : List (List Nat)} (h : refM us ≠ 0) : refM us < 0 := by
  unfold refM at *
  split
  · decide
  · rename_i h1
    rw [if_neg h1] at h
    split
    · decide
    · rename_i h2
      rw [if_neg h2] at h
      exact absurd rfl h
def cntRef (n c : Nat) (us : List (List Nat)) : Int := if n < 1 ∨ 4 < n ∨ us.length ≠ c then -6 else refM us
theorem cntRef_neg {n c : Nat} {us : List (List Nat)} (h : cntRef n c us ≠ 0) : cntRef n c us < 0 := by
  unfold cntRef at *
  split
  · decide
  · rename_i h1
    rw [if_neg h1] at h
    exact refM_neg h
theorem withN_no {n t m : Nat} {us : List (List Nat)} (go : List Rat → Al09.Ans) (h : cntRef n (t * (n * n) + m) us ≠ 0) : Al09.withN n t m us go = Al09.no (cntRef n (t * (n * n) + m) us) := by
  unfold Al09.withN
  unfold cntRef at *
  by_cases hc : n < 1 ∨ 4 < n ∨ us.length ≠ t * (n * n) + m
  · rw [if_pos hc, if_pos hc]
  · rw [if_neg hc] at h
    rw [if_neg hc, if_neg hc, nums_ref, if_neg h]
theorem withN_ok {n t m : Nat} {us : List (List Nat)} (h : cntRef n (t * (n * n) + m) us = 0) : 1 ≤ n ∧ n ≤ 4 ∧ us.length = t * (n * n) + m ∧ ∃ cs, us.map Ma.numberM = cs.map some ∧ cs.all Al09.numberOk = true ∧ cs.length = us.length ∧
    ∀ go : List Rat → Al09.Ans, Al09.withN n t m us go = go cs := by
  unfold cntRef at h
  by_cases hc : n < 1 ∨ 4 < n ∨ us.length ≠ t * (n * n) + m
  · rw [if_pos hc] at h; cases h
  · rw [if_neg hc] at h
    obtain ⟨cs, h1, h2, h3⟩ := ref_zero h
    have hc1 : ¬ n < 1 := fun x => hc (.inl x)
    have hc2 : ¬ 4 < n := fun x => hc (.inr (.inl x))
    have hc3 : us.length = t * (n * n) + m := by
      by_cases e : us.length = t * (n * n) + m
      · exact e
      · exact absurd (.inr (.inr e)) hc
    refine ⟨by omega, by omega, hc3, cs, h2, h3, ?_, fun go => ?_⟩
    · have := congrArg List.length h2
      rw [List.length_map, List.length_map] at this
      exact this.symm
    · unfold Al09.withN
      rw [if_neg hc, nums_ref, if_pos h, h1]; rfl
theorem side_of {n : Nat} (h1 : 1 ≤ n) (h4 : n ≤ 4) : Al09.sideOf (n * n) = some n := by
  have : ∀ n : Nat, n ≤ 4 → 1 ≤ n → Al09.sideOf (n * n) = some n := by decide +kernel
  exact this n h4 h1
theorem sq_le {n : Nat} (h4 : n ≤ 4) : n * n ≤ 16 := Nat.mul_le_mul h4 h4
theorem rowsOf_take {n : Nat} (cs : List Rat) : Al09.rowsOf n n (cs.take (n * n)) = Al09.rowsOf n n cs := by
  rw [rowsOf_map, rowsOf_map]
  refine List.map_congr_left fun i hi => ?_
  rw [List.mem_range] at hi
  have h1 : (i + 1) * n ≤ n * n := Nat.mul_le_mul_right _ hi
  rw [Nat.succ_mul] at h1
  rw [List.drop_take, List.take_take, Nat.min_eq_left (by omega)]
theorem Texts.take {K : PySem.W.Frag} {H : Hp} : ∀ {vs : List V} {us : List (List Nat)} (k : Nat), Texts K H vs us → Texts K H (vs.take k) (us.take k)
  | vs, us, 0, h => by simp only [List.take_zero]; exact trivial
  | [], [], _ + 1, _ => trivial
  | _ :: _, _ :: _, k + 1, h => ⟨h.1, Texts.take k h.2⟩
  | [], _ :: _, _ + 1, h => h.elim
  | _ :: _, [], _ + 1, h => h.elim
theorem Texts.drop {K : PySem.W.Frag} {H : Hp} : ∀ {vs : List V} {us : List (List Nat)} (k : Nat), Texts K H vs us → Texts K H (vs.drop k) (us.drop k)
  | vs, us, 0, h => h
  | [], [], _ + 1, _ => trivial
  | _ :: _, _ :: _, k + 1, h => Texts.drop k h.2
  | [], _ :: _, _ + 1, h => h.elim
  | _ :: _, [], _ + 1, h => h.elim
section
variable {P : Program} {w : World} {K : PySem.W.Frag} {mg : Str → Option Value} {base : Heap}
def spCnt (K : PySem.W.Frag) : Sp := fun vs H Q _ => ∃ (a : Addr) (ts : List V) (us : List (List Nat)) (n c : Nat), vs = [.int n, .ref a, .int c] ∧ SqL K H a ts ∧ Texts K H ts us ∧ (∀ u ∈ us, u.length ≤ 1000) ∧ us.length ≤ 100 ∧
  ∀ H', Same H H' → Q (.int (cntRef n c us)) H'
/-- a call of n and texts -/
def spTop2 (K : PySem.W.Frag) (due : Nat → List (List Nat) → List Int) : Sp := fun vs H Q _ => ∃ (a : Addr) (ts : List V) (us : List (List Nat)) (n : Nat), vs = [.int n, .ref a] ∧ n < 2 ^ 32 ∧ SqL K H a ts ∧ Texts K H ts us ∧ (∀ u ∈ us, u.length ≤ 1000) ∧ us.length ≤ 100 ∧
  ∀ H' r, H' r = some (.lst ((due n us).map V.int)) → Q (.ref r) H'
theorem mulN {a b i j : Nat} (ha : i < 2 ^ a) (hb : j < 2 ^ b) (h : a + b < 1000000) : CMulW (i : Int) (j : Int) :=
  mulW (a := a) (b := b) (by rw [Int.natAbs_natCast]; omega) (by rw [Int.natAbs_natCast]; omega) h
theorem sq32 {n : Nat} (h : n < 2 ^ 32) : n * n < 2 ^ 64 := by
  have h1 : n * n ≤ (2 ^ 32 - 1) * (2 ^ 32 - 1) := Nat.mul_le_mul (by omega) (by omega)
  exact Nat.lt_of_le_of_lt h1 (by decide)
end
end W
set_option maxRecDepth 100000
namespace W
open PySem PySem.Spec PyProof.Rows L2
/-! tables of numbers whose rows are lists of their own -/
def Rws (K : PySem.W.Frag) (H : Hp) : List Addr → List (List Rat) → Prop
  | [], [] => True
  | b :: bs, l :: ls => PolV K H b l ∧ Rws K H bs ls
  | _, _ => False
section
variable {K : PySem.W.Frag} {H H' : Hp}
theorem Rws.same (e : Same H H') : ∀ {bs : List Addr} {ls : List (List Rat)}, Rws K H bs ls → Rws K H' bs ls
  | [], [], _ => trivial
  | _ :: _, _ :: _, h => ⟨h.1.same e, Rws.same e h.2⟩
  | [], _ :: _, h => h.elim
  | _ :: _, [], h => h.elim
theorem Rws.len : ∀ {bs : List Addr} {ls : List (List Rat)}, Rws K H bs ls → bs.length = ls.length
  | [], [], _ => rfl
  | _ :: _, _ :: _, h => by rw [List.length_cons, List.length_cons, Rws.len h.2]
  | [], _ :: _, h => h.elim
  | _ :: _, [], h => h.elim
theorem Rws.snoc : ∀ {bs : List Addr} {ls : List (List Rat)} {b : Addr} {l : List Rat}, Rws K H bs ls → PolV K H b l → Rws K H (bs ++ [b]) (ls ++ [l])
  | [], [], _, _, _, h2 => ⟨h2, trivial⟩
  | _ :: _, _ :: _, _, _, h, h2 => ⟨h.1, Rws.snoc h.2 h2⟩
  | [], _ :: _, _, _, h, _ => h.elim
  | _ :: _, [], _, _, h, _ => h.elim
theorem Rws.at : ∀ {bs : List Addr} {ls : List (List Rat)} {i : Nat} {l : List Rat}, Rws K H bs ls → ls[i]? = some l → ∃ b, bs[i]? = some b ∧ PolV K H b l
  | b :: _, l :: _, 0, m, h, e => by
    have e' := Option.some.inj e
    subst e'
    exact ⟨b, rfl, h.1⟩
  | _ :: bs, _ :: ls, i + 1, m, h, e => Rws.at (bs := bs) (ls := ls) (i := i) h.2 e
  | [], [], _, _, _, e => by simp at e
  | [], _ :: _, _, _, h, _ => h.elim
  | _ :: _, [], _, _, h, _ => h.elim
theorem Rws.isL : ∀ {bs : List Addr} {ls : List (List Rat)} {b : Addr}, Rws K H bs ls → b ∈ bs → ∃ ws, H b = some (.lst ws)
  | c :: bs, l :: ls, b, h, hb => by
    rcases List.mem_cons.mp hb with e | e
    · subst e
      obtain ⟨ws, h1, _⟩ := h.1
      exact ⟨ws, h1⟩
    · exact Rws.isL (bs := bs) (ls := ls) h.2 e
  | [], [], _, _, hb => by cases hb
  | [], _ :: _, _, h, _ => h.elim
  | _ :: _, [], _, h, _ => h.elim
theorem Rws.updN {D : Addr} {us ws : List V} (hD : H D = some (.lst us)) : ∀ {bs : List Addr} {ls : List (List Rat)}, D ∉ bs → Rws K H bs ls → Rws K (upd H D (.lst ws)) bs ls
  | [], [], _, _ => trivial
  | b :: bs, _ :: ls, hn, h => ⟨h.1.updN hD (fun e => hn (by rw [e]; exact List.mem_cons_self)), Rws.updN hD (fun e => hn (List.mem_cons_of_mem _ e)) h.2⟩
  | [], _ :: _, _, h => h.elim
  | _ :: _, [], _, h => h.elim
theorem Rws.set {b : Addr} {us ws : List V} {l : List Rat} (hD : H b = some (.lst us)) (hw : Rats K H ws l) : ∀ {bs : List Addr} {ls : List (List Rat)} {i : Nat}, bs.Nodup → bs[i]? = some b → Rws K H bs ls → Rws K (upd H b (.lst ws)) bs (ls.set i l)
  | c :: bs, m :: ls, 0, hn, e, h => by
    have e' := Option.some.inj e
    subst e'
    exact ⟨⟨ws, upd_same, hw.updL hD⟩, Rws.updN hD (List.nodup_cons.mp hn).1 h.2⟩
  | c :: bs, m :: ls, i + 1, hn, e, h => by
    have hn' := List.nodup_cons.mp hn
    have hb : b ∈ bs := List.mem_of_getElem? (by simpa using e)
    exact ⟨h.1.updN hD (fun x => hn'.1 (by rw [x]; exact hb)), Rws.set hD hw (bs := bs) (ls := ls) (i := i) hn'.2 (by simpa using e) h.2⟩
  | [], [], _, _, e, _ => by simp at e
  | [], _ :: _, _, _, _, h => h.elim
  | _ :: _, [], _, _, _, h => h.elim
theorem Rws.pols {N : Addr → Prop} : ∀ {bs : List Addr} {ls : List (List Rat)}, (∀ b ∈ bs, N b) → Rws K H bs ls → PolsN K H N (bs.map V.ref) ls
  | [], [], _, _ => trivial
  | b :: bs, _ :: ls, hn, h => ⟨⟨b, rfl, hn b List.mem_cons_self, h.1⟩, Rws.pols (fun c hc => hn c (List.mem_cons_of_mem _ hc)) h.2⟩
  | [], _ :: _, _, h => h.elim
  | _ :: _, [], _, h => h.elim
def Grd (K : PySem.W.Frag) (H : Hp) (N : Addr → Prop) (a : Addr) (M : List (List Rat)) : Prop := N a ∧ ∃ bs : List Addr, H a = some (.lst (bs.map V.ref)) ∧ bs.Nodup ∧ (∀ b ∈ bs, N b ∧ b ≠ a) ∧ Rws K H bs M
theorem Grd.same {N : Addr → Prop} {a : Addr} {M : List (List Rat)} (h : Grd K H N a M) (e : Same H H') : Grd K H' N a M := by
  obtain ⟨h0, bs, h1, h2, h3, h4⟩ := h
  exact ⟨h0, bs, e _ _ h1, h2, h3, h4.same e⟩
theorem Grd.mono {N N' : Addr → Prop} {a : Addr} {M : List (List Rat)} (h : Grd K H N a M) (hN : ∀ b, N b → N' b) : Grd K H N' a M := by
  obtain ⟨h0, bs, h1, h2, h3, h4⟩ := h
  exact ⟨hN _ h0, bs, h1, h2, fun b hb => ⟨hN _ (h3 b hb).1, (h3 b hb).2⟩, h4⟩
theorem Grd.tab {N : Addr → Prop} {a : Addr} {M : List (List Rat)} (h : Grd K H N a M) : TabN K H N a M := by
  obtain ⟨h0, bs, h1, h2, h3, h4⟩ := h
  exact ⟨h0, _, h1, h4.pols fun b hb => (h3 b hb).1⟩
/-- a row, and what becomes of the table when a place of it is set -/
theorem Grd.row {N : Addr → Prop} {a : Addr} {n : Nat} {M : List (List Rat)} (h : Grd K H N a M) (sq : Ma.Sq n M) {i : Nat} (hi : i < n) : ∃ (vs : List V) (b : Addr) (ws : List V), H a = some (.lst vs) ∧ vs[i]? = some (.ref b) ∧ H b = some (.lst ws) ∧ ws.length = n ∧ N b ∧
    (∀ j, j < n → ∃ v, ws[j]? = some v ∧ RatV K H v (Ma.E M i j)) ∧
    ∀ (j : Nat) (v : V) (c : Rat), RatV K H v c → Grd K (upd H b (.lst (ws.set j v))) N a (Ma.setE M i j c) := by
  obtain ⟨h0, bs, h1, h2, h3, h4⟩ := h
  obtain ⟨r, hr, lr⟩ := sq.row hi
  obtain ⟨b, hb, ws, hws, hR⟩ := h4.at hr
  have hbm := List.mem_of_getElem? hb
  refine ⟨_, b, ws, h1, by rw [List.getElem?_map, hb]; rfl, hws, by rw [hR.len, lr], (h3 b hbm).1, fun j hj => ?_, fun j v c hv => ?_⟩
  · have hj' : j < r.length := by omega
    obtain ⟨v, h5, h6⟩ := hR.at (List.getElem?_eq_getElem hj')
    refine ⟨v, h5, ?_⟩
    rw [Ma.E_of hr (List.getElem?_eq_getElem hj')]; exact h6
  · refine ⟨h0, bs, ?_, h2, h3, ?_⟩
    · rw [upd_ne (fun e => (h3 b hbm).2 e.symm)]; exact h1
    · unfold Ma.setE
      have : M.getD i [] = r := by rw [List.getD_eq_getElem?_getD, hr]; rfl
      rw [this]
      exact Rws.set hws (hR.set hv) h2 hb h4
end
section
variable {P : Program} {w : World} {K : PySem.W.Frag} {mg : Str → Option Value} {base : Heap}
/-- zeros -/
def zeroT (n : Nat) : List (List Rat) := List.replicate n (List.replicate n 0)
def spEmpty (K : PySem.W.Frag) : Sp := fun vs H Q _ => ∃ n : Nat, vs = [.int n] ∧ n ≤ 100 ∧ ∀ H' r, Same H H' → Grd K H' (fun b => H b = none) r (zeroT n) → Q (.ref r) H'
/-- the table of a polynomial put in -/
def putF (M : List (List Rat)) (s : Nat) (l : List Rat) (i j : Nat) : Rat :=
  if s ≤ i ∧ i < s + (l.length - 1) ∧ j + 1 = s + (l.length - 1) then -(l.getD (i - s) 0) else if s ≤ j ∧ j + 1 < s + (l.length - 1) ∧ i = j + 1 then 1 else Ma.E M i j
def spPut (K : PySem.W.Frag) : Sp := fun vs H Q _ => ∃ (a f : Addr) (s N : Nat) (M : List (List Rat)) (l : List Rat) (H0 : Hp), vs = [.ref a, .int s, .ref f] ∧ Same H0 H ∧ Grd K H (fun b => H0 b = none) a M ∧ PolV K H0 f l ∧ Ma.Sq N M ∧ 2 ≤ l.length ∧ s + (l.length - 1) ≤ N ∧ N ≤ 100 ∧
  ∀ H' M', Same H0 H' → Grd K H' (fun b => H0 b = none) a M' → Ma.Sq N M' → (∀ i j, Ma.E M' i j = putF M s l i j) → Q .non H'
/-- tables along the diagonal -/
def spAlong (K : PySem.W.Frag) : Sp := fun vs H Q _ => ∃ (a : Addr) (ws : List V) (fs : List (List Rat)), vs = [.ref a] ∧ H a = some (.lst ws) ∧ PolsN K H Any ws fs ∧ (∀ l ∈ fs, 2 ≤ l.length ∧ l.length ≤ 5) ∧ fs.length ≤ 4 ∧
  ∀ H' r, Same H H' → TabN K H' Any r (Ma.dia fs) → Q (.ref r) H'
theorem degs_le : ∀ (fs : List (List Rat)), (∀ l ∈ fs, 2 ≤ l.length ∧ l.length ≤ 5) → Ma.degs fs ≤ 4 * fs.length
  | [], _ => by simp [Ma.degs]
  | f :: fs, h => by
    have ih := degs_le fs fun l hl => h l (List.mem_cons_of_mem _ hl)
    have := (h f List.mem_cons_self).2
    rw [Ma.degs_cons, List.length_cons]
    unfold AlOne.degree
    omega
theorem degs_take {fs : List (List Rat)} {i : Nat} {f : List Rat} (h : fs[i]? = some f) : Ma.degs (fs.take (i + 1)) = Ma.degs (fs.take i) + (f.length - 1) := by
  rw [List.take_add_one, h]
  exact Ma.degs_snoc _ _
theorem degs_mono : ∀ (fs : List (List Rat)) (i : Nat), Ma.degs (fs.take i) ≤ Ma.degs fs
  | [], i => by simp
  | f :: fs, 0 => by simp [Ma.degs]
  | f :: fs, i + 1 => by
    rw [List.take_succ_cons, Ma.degs_cons, Ma.degs_cons]
    have := degs_mono fs i
    omega
theorem degs_sum (fs : List (List Rat)) : ((fs.map fun f => ((f.length : Int) - 1)).sum = (Ma.degs fs : Int)) ∨ ∃ f ∈ fs, f.length = 0 := by
  induction fs with
  | nil => exact .inl rfl
  | cons f fs ih =>
    rcases ih with h | ⟨g, h1, h2⟩
    · by_cases h0 : f.length = 0
      · exact .inr ⟨f, List.mem_cons_self, h0⟩
      · refine .inl ?_
        rw [List.map_cons, List.sum_cons, h, Ma.degs_cons]
        unfold AlOne.degree
        omega
    · exact .inr ⟨g, List.mem_cons_of_mem _ h1, h2⟩
theorem zeroT_map (n : Nat) : zeroT n = (List.range n).map fun _ => (List.range n).map fun _ => (0 : Rat) := by
  unfold zeroT
  have : ∀ (A : Type) (c : A), List.replicate n c = (List.range n).map fun _ => c := by
    intro A c
    apply List.ext_getElem <;> simp
  rw [this (List Rat), this Rat]
end
end W
set_option maxRecDepth 100000
namespace W
open PySem PySem.Spec PyProof.Rows L2
open TL (tl numL numL_lt numL_step tl_num tl_append len_tl ext_tl)
/-! a table's answer -/
section
variable {P : Program} {w : World} {K : PySem.W.Frag} {mg : Str → Option Value} {base : Heap}
theorem tabFlat_len {n : Nat} : ∀ (M : List (List Rat)), (∀ r ∈ M, r.length ≤ n) → (M.flatMap fun r => r).length ≤ n * M.length
  | [], _ => by simp
  | r :: M, h => by
    have ih := tabFlat_len M fun x hx => h x (List.mem_cons_of_mem _ hx)
    have := h r List.mem_cons_self
    rw [List.flatMap_cons, List.length_append, List.length_cons, Nat.mul_succ]
    omega
def spTableA (K : PySem.W.Frag) : Sp := fun vs H Q _ => ∃ (a : Addr) (M : List (List Rat)), vs = [.ref a] ∧ TabN K H Any a M ∧ M.length ≤ 16 ∧ (∀ r ∈ M, r.length ≤ 16) ∧ (∀ r ∈ M, ∀ c ∈ r, Wr c) ∧
  ∀ H' p, Same H H' → H' p = some (.lst ((shown (Al09.toldTable M)).map V.int)) → Q (.ref p) H'
end
end W
set_option maxRecDepth 100000
namespace W
open PySem PySem.Spec PyProof.Rows L2
/-! rows times columns -/
/-- every step of a row times a column is within the size -/
def RowOk (r c : List Rat) : Prop := ∀ t, t < r.length → Fits LIM (r.getD t 0) ∧ Fits LIM (c.getD t 0) ∧ Fits LIM (r.getD t 0 * c.getD t 0) ∧ Fits LIM (Ma.sm t (fun k => r.getD k 0 * c.getD k 0))
theorem getD_of {l : List Rat} {i : Nat} {c : Rat} (h : l[i]? = some c) : l.getD i 0 = c := by rw [List.getD_eq_getElem?_getD, h]; rfl
section
variable {P : Program} {w : World} {K : PySem.W.Frag} {mg : Str → Option Value} {base : Heap}
def spRowT (K : PySem.W.Frag) : Sp := fun vs H Q _ => ∃ (a b : Addr) (r c : List Rat), vs = [.ref a, .ref b] ∧ PolV K H a r ∧ PolV K H b c ∧ r.length = c.length ∧ RowOk r c ∧
  ∀ H' v, Same H H' → RatV K H' v (Al09.dot r c) → Q v H'
def spCol (K : PySem.W.Frag) : Sp := fun vs H Q _ => ∃ (a : Addr) (M : List (List Rat)) (j : Nat), vs = [.ref a, .int j] ∧ TabN K H Any a M ∧ M.length ≤ 100 ∧ (∀ r ∈ M, j < r.length) ∧
  ∀ H' p, Same H H' → H p = none → PolV K H' p (Al09.column j M) → Q (.ref p) H'
def spProd (K : PySem.W.Frag) : Sp := fun vs H Q _ => ∃ (a b : Addr) (A B : List (List Rat)) (n : Nat), vs = [.ref a, .ref b] ∧ TabN K H Any a A ∧ TabN K H Any b B ∧ Ma.Sq n A ∧ Ma.Sq n B ∧ n ≤ 4 ∧ (∀ r ∈ A, ∀ j, j < n → RowOk r (Al09.column j B)) ∧
  ∀ H' p, Same H H' → Grd K H' (fun b => H b = none) p (Al09.times A B) → Q (.ref p) H'
/-- every step of a polynomial of a table is within the size -/
def PolyOk (n : Nat) (M : List (List Rat)) (p : List Rat) : Prop := ∀ i, i < p.length → (∀ r ∈ Al09.valueAt M (p.drop (i + 1)), ∀ j, j < n → RowOk r (Al09.column j M)) ∧ Fits LIM (p.getD i 0) ∧
  ∀ k, k < n → Fits LIM (Ma.E (Al09.times (Al09.valueAt M (p.drop (i + 1))) M) k k)
def spPolyAt (K : PySem.W.Frag) : Sp := fun vs H Q _ => ∃ (a b : Addr) (p : List Rat) (M : List (List Rat)) (n : Nat), vs = [.ref a, .ref b] ∧ PolV K H a p ∧ TabN K H Any b M ∧ Ma.Sq n M ∧ n ≤ 4 ∧ PolyOk n M p ∧
  ∀ H' r, Same H H' → TabN K H' Any r (Al09.valueAt M p) → Q (.ref r) H'
end
end W
set_option maxRecDepth 100000
namespace W
open PySem PySem.Spec PyProof.Rows L2
/-! tables behind one another -/
/-- so many tables -/
def Tbs (K : PySem.W.Frag) (H : Hp) (N : Addr → Prop) (vs : List V) (n : Nat) (cs : List Rat) : Prop := ∀ k, k < vs.length → ∃ b, vs[k]? = some (.ref b) ∧ TabN K H N b (Al09.tableOf n k cs)
theorem rgc_sq {n t : Nat} (h1 : 1 ≤ n) (h4 : n ≤ 4) (h2 : 2 ≤ t) (h3 : t ≤ 3) : RgC 0 ((t * (n * n) : Nat) : Int) ((n * n : Nat) : Int) t := by
  have hn : n = 1 ∨ n = 2 ∨ n = 3 ∨ n = 4 := by omega
  have ht : t = 2 ∨ t = 3 := by omega
  rcases hn with e | e | e | e <;> rcases ht with f | f <;> subst e <;> subst f <;> exact ⟨by decide, by decide, by decide, by decide⟩
theorem Tbs.snoc {K : PySem.W.Frag} {H : Hp} {N : Addr → Prop} {vs : List V} {n : Nat} {cs : List Rat} {b : Addr} (h : Tbs K H N vs n cs) (hb : TabN K H N b (Al09.tableOf n vs.length cs)) : Tbs K H N (vs ++ [.ref b]) n cs := by
  intro k hk
  rw [List.length_append] at hk
  simp only [List.length_singleton] at hk
  by_cases e : k = vs.length
  · subst e
    exact ⟨b, by simp, hb⟩
  · obtain ⟨c, h1, h2⟩ := h k (by omega)
    refine ⟨c, ?_, h2⟩
    rw [List.getElem?_append_left (by omega)]; exact h1
theorem sqsm {n t k : Nat} {cs : List Rat} (hall : cs.all Al09.numberOk = true) (hl : cs.length = t * (n * n)) (hk : k < t) : Ma.Sq n (Al09.tableOf n k cs) ∧ Ma.SmallT (Al09.tableOf n k cs) := by
  have e : Al09.rowsOf n n ((cs.drop (k * (n * n))).take (n * n)) = Al09.tableOf n k cs := rowsOf_take _
  have h1 : (k + 1) * (n * n) ≤ t * (n * n) := Nat.mul_le_mul_right _ hk
  rw [Nat.succ_mul] at h1
  have l1 : ((cs.drop (k * (n * n))).take (n * n)).length = n * n := by rw [List.length_take, List.length_drop]; omega
  have a1 : ((cs.drop (k * (n * n))).take (n * n)).all Al09.numberOk = true := List.all_eq_true.mpr fun c hc => List.all_eq_true.mp hall c (List.mem_of_mem_drop (List.mem_of_mem_take hc))
  have sq := sq_rowsOf (n := n) l1
  have sm := small_rowsOf (n := n) (k := n) a1
  rw [e] at sq sm
  exact ⟨sq, sm⟩
section
variable {P : Program} {w : World} {K : PySem.W.Frag} {mg : Str → Option Value} {base : Heap}
def spTablesOf (K : PySem.W.Frag) : Sp := fun vs H Q _ => ∃ (a : Addr) (ts : List V) (us : List (List Nat)) (n t : Nat) (cs : List Rat), vs = [.int n, .ref a] ∧ SqL K H a ts ∧ Texts K H ts us ∧ (∀ u ∈ us, u.length ≤ 1000) ∧ 1 ≤ n ∧ n ≤ 4 ∧ 2 ≤ t ∧ t ≤ 3 ∧ us.length = t * (n * n) ∧ us.map Ma.numberM = cs.map some ∧
  ∀ H' r bs, Same H H' → H' r = some (.lst bs) → bs.length = t → Tbs K H' Any bs n cs → Q (.ref r) H'
end
/-! tables of polynomials as data -/
def datT (ls : List (List Rat)) : List PyData := ls.map fun l => .list (l.map datR)
theorem PolsN.dp {K : PySem.W.Frag} {H : Hp} {N : Addr → Prop} : ∀ {vs : List V} {ls : List (List Rat)}, PolsN K H N vs ls → DpAll K H vs (datT ls)
  | [], [], _ => .nil
  | _ :: _, _ :: _, h => by
    obtain ⟨⟨b, rfl, _, hb⟩, h2⟩ := h
    exact .cons hb.dp (PolsN.dp h2)
  | [], _ :: _, h => h.elim
  | _ :: _, [], h => h.elim
theorem lay_datT (ls : List (List Rat)) : PyData.canLayAll0 (datT ls) = true ∧ PyData.depthAll (datT ls) ≤ 2 := by
  induction ls with
  | nil => exact ⟨rfl, by decide⟩
  | cons l ls ih =>
    have hl := lay_dat l
    refine ⟨?_, ?_⟩
    · show (PyData.canLayAll0 (l.map datR) && PyData.canLayAll0 (datT ls)) = true
      rw [ih.1, hl.1]; rfl
    · show max (PyData.depthAll (l.map datR) + 1) (PyData.depthAll (datT ls)) ≤ 2
      omega
theorem shaped_datT (ls : List (List Rat)) : SeqAt.shaped (.list (datT ls)) = true := by
  have h := lay_datT ls
  show (PyData.canLayAll0 (datT ls) && decide (PyData.depthAll (datT ls) + 1 ≤ 64)) = true
  rw [h.1, decide_eq_true (by omega)]; rfl
theorem eqvAll_datT : ∀ (l m : List (List Rat)), PyData.eqvAll (datT l) (datT m) = decide (l = m)
  | [], [] => rfl
  | [], _ :: _ => rfl
  | _ :: _, [] => rfl
  | a :: l, b :: m => by
    show (PyData.eqv (.list (a.map datR)) (.list (b.map datR)) && PyData.eqvAll (datT l) (datT m)) = _
    rw [eqv_dat, eqvAll_datT l m]
    by_cases h1 : a = b
    · by_cases h2 : l = m
      · simp [h1, h2]
      · simp [h1, h2]
    · simp [h1]
theorem eqv_datT (l m : List (List Rat)) : PyData.eqv (.list (datT l)) (.list (datT m)) = decide (l = m) := eqvAll_datT l m
end W
set_option maxRecDepth 100000
namespace W
open PySem PySem.Spec PyProof.Rows L2
/-! what two have in common: sizes -/
theorem mul_fit8 {a b : Nat} {x y : Rat} (hx : Fits a x) (hy : Fits b y) (h : a + b ≤ 8800) : MulC x y := by
  refine ⟨hx.mono (by show a ≤ 100000; omega), hy.mono (by show b ≤ 100000; omega), .inl ?_⟩
  have := Nat.mul_le_mul hx.2 hy.2
  rw [← Nat.pow_add] at this
  exact Nat.le_trans this (Nat.pow_le_pow_right (by omega) h)
theorem sum_fit8 {a b : Nat} {x y : Rat} (hx : Fits a x) (hy : Fits b y) (h : a + b ≤ 8800) : SumC x y := by
  refine ⟨hx.mono (by show a ≤ 100000; omega), hy.mono (by show b ≤ 100000; omega), .inl ?_⟩
  have := Nat.mul_le_mul hx.2 hy.2
  rw [← Nat.pow_add] at this
  exact Nat.le_trans this (Nat.pow_le_pow_right (by omega) h)
theorem fits_mulW {m k : Nat} {x y : Rat} (hx : Fits m x) (hy : Fits k y) : Fits (m + k) (x * y) := by
  rw [← Ma.mul_divInt]
  obtain ⟨h1, h2⟩ := low_parts (t := x.num * y.num) (b := (x.den : Int) * (y.den : Int)) den_ne
  have hl : 0 < (Ma.lowS (x.num * y.num) ((x.den : Int) * (y.den : Int))).natAbs := Int.natAbs_pos.mpr (Ma.lowS_ne (t := x.num * y.num) den_ne)
  constructor
  · have h3 := congrArg Int.natAbs h1
    rw [Int.natAbs_mul, Int.natAbs_mul] at h3
    have h4 := Nat.le_mul_of_pos_left (Rat.divInt (x.num * y.num) ((x.den : Int) * (y.den : Int))).num.natAbs hl
    have h5 := Nat.mul_le_mul hx.1 hy.1
    rw [← Nat.pow_add] at h5
    omega
  · have h3 := congrArg Int.natAbs h2
    rw [Int.natAbs_mul, Int.natAbs_mul, Int.natAbs_natCast, Int.natAbs_natCast, Int.natAbs_natCast] at h3
    have h4 := Nat.le_mul_of_pos_left (Rat.divInt (x.num * y.num) ((x.den : Int) * (y.den : Int))).den hl
    have h5 := Nat.mul_le_mul hx.2 hy.2
    rw [← Nat.pow_add] at h5
    omega
/-- by x and a number -/
theorem RS_low (p : List Rat) (c : Rat) : ∀ (t k : Nat), k < p.length - 1 - t → Ma.RS p [c, 1] (p.length + 1 - [c, (1 : Rat)].length) t k = Ma.co p k
  | 0, k, _ => rfl
  | t + 1, k, h => by
    rw [Ma.RS_succ, if_neg (by show ¬ (p.length + 1 - 2 - 1 - t ≤ k ∧ _); omega)]
    exact RS_low p c t k (by omega)
theorem div_lin {p : List Rat} {c : Rat} {a b : Nat} (tp : Ma.Tr p) (lp : p.length ≤ 400) (hp : Ma.HtP p a) (hq : Ma.HtP [c, 1] b) (hs : 2 * a + (p.length - 1) * (b + 1) ≤ 8800) : DivG p [c, 1] := by
  have tq : Ma.Tr [c, 1] := Ma.tr_cons (Ma.tr_cons Ma.tr_nil fun _ => by decide) fun h => by cases h
  have hl : AlOne.lead [c, (1 : Rat)] = 1 := rfl
  obtain ⟨D, hD, hDa, hpl⟩ := id hp
  obtain ⟨E, hE, hEb, hql⟩ := id hq
  have hRS : ∀ t k, Fits (a + t * (b + 1)) (Ma.RS p [c, 1] (p.length + 1 - [c, (1 : Rat)].length) t k) := fun t k => by
    obtain ⟨Dt, h1, h2, h3⟩ := Ma.RS_ht hD hE hpl hql (by rw [hl]; decide) hDa (N := p.length + 1 - [c, (1 : Rat)].length) t
    obtain ⟨y, e, hy⟩ := h3 k
    exact Ma.num_den_le h1 h2 e hy
  have hc : Fits b c := hq.num c (by simp)
  have hf : ∀ t, Ma.fct p [c, 1] (p.length + 1 - [c, (1 : Rat)].length) t = Ma.RS p [c, 1] (p.length + 1 - [c, (1 : Rat)].length) t (p.length + 1 - [c, (1 : Rat)].length - 1 - t + [c, (1 : Rat)].length - 1) := fun t => by
    unfold Ma.fct
    rw [hl]
    grind
  have hlen : [c, (1 : Rat)].length = 2 := rfl
  have hmul : ∀ t, t < p.length + 1 - [c, (1 : Rat)].length → (t + 1) * (b + 1) ≤ (p.length - 1) * (b + 1) := fun t ht => Nat.mul_le_mul_right _ (by rw [hlen] at ht; omega)
  refine ⟨tp, tq, by simp, lp, by simp, fun t ht => ?_, fun t j ht hj => ?_, fun t j ht hj => ?_⟩
  · have h1 := hmul t ht
    rw [Nat.succ_mul] at h1
    have h2 := hRS t (p.length + 1 - [c, (1 : Rat)].length - 1 - t + [c, (1 : Rat)].length - 1)
    rw [hl]
    refine ⟨h2.mono (by show a + t * (b + 1) ≤ 100000; omega), fits_one _, by decide, .inl ?_⟩
    have h3 : (1 : Rat).num.natAbs = 1 := rfl
    rw [h3, Nat.mul_one]
    exact Nat.le_trans h2.2 (Nat.pow_le_pow_right (by omega) (by omega))
  · have h1 := hmul t ht
    rw [Nat.succ_mul] at h1
    have hj2 : j = 0 ∨ j = 1 := by rw [hlen] at hj; omega
    rcases hj2 with e | e
    · subst e
      rw [hf t]
      exact mul_fit8 (hRS t _) (show Fits b (Ma.co [c, 1] 0) from hc) (by omega)
    · subst e
      rw [hf t]
      exact mul_fit8 (b := 0) (hRS t _) (show Fits 0 (Ma.co [c, 1] 1) from fits_one _) (by omega)
  · have h1 := hmul t ht
    rw [Nat.succ_mul] at h1
    have hj2 : j = 0 ∨ j = 1 := by rw [hlen] at hj; omega
    rcases hj2 with e | e
    · subst e
      rw [RS_low p c t _ (by rw [hlen] at ht ⊢; omega), hf t]
      have f1 : Fits a (Ma.co p (p.length + 1 - [c, (1 : Rat)].length - 1 - t + 0)) := by
        generalize p.length + 1 - [c, (1 : Rat)].length - 1 - t + 0 = k
        obtain ⟨y, e, hy⟩ := hpl k
        exact Ma.num_den_le hD hDa e hy
      exact sum_fit8 f1 (fits_mulW (hRS t _) (show Fits b (Ma.co [c, 1] 0) from hc)).neg (by omega)
    · subst e
      have e2 : p.length + 1 - [c, (1 : Rat)].length - 1 - t + 1 = p.length + 1 - [c, (1 : Rat)].length - 1 - t + [c, (1 : Rat)].length - 1 := by rw [hlen]; omega
      have e3 : Ma.co [c, (1 : Rat)] 1 = 1 := rfl
      rw [hf t, e2, e3]
      have h2 := hRS t (p.length + 1 - [c, (1 : Rat)].length - 1 - t + [c, (1 : Rat)].length - 1)
      generalize Ma.RS p [c, 1] (p.length + 1 - [c, (1 : Rat)].length) t (p.length + 1 - [c, (1 : Rat)].length - 1 - t + [c, (1 : Rat)].length - 1) = x at h2
      have e4 : x * 1 = x := by grind
      rw [e4]
      have e5 : x + -x = 0 := by grind
      refine ⟨h2.mono (by show a + t * (b + 1) ≤ 100000; omega), h2.neg.mono (by show a + t * (b + 1) ≤ 100000; omega), .inr (by rw [e5]; exact fits_zero _)⟩
/-! sizes on Euclid's way -/
def Tn (lf lg A C l : Nat) : Nat := (lg + 1 - l) * A + (lf + 1 - l) * C + 24
def aMax (lf lg A C Cg l : Nat) : Nat := if l = 1 then 0 else if l = lg then Cg else Tn lf lg A C (l + 1)
/-- the numbers fit -/
def chk (lf lg A C Cg : Nat) : Bool := (List.range 6).all fun l => decide (l = 0) || decide (lg < l) || (decide (aMax lf lg A C Cg l + l ≤ LIM) && (List.range l).all fun s =>
  if s = 0 then true else if s = 1 then true else decide (Tn lf lg A C l ≤ LIM) && (if s = 2 then decide (2 * aMax lf lg A C Cg l + (l - 1) * (Tn lf lg A C l + 1) ≤ 8800) else decide (aMax lf lg A C Cg l + (l + 1 - s) * (Tn lf lg A C l + 1) ≤ LIM)))
theorem Tn_mono {lf lg A C l m : Nat} (h : l ≤ m) : Tn lf lg A C m ≤ Tn lf lg A C l := by
  unfold Tn
  have h1 := Nat.mul_le_mul_right A (show lg + 1 - m ≤ lg + 1 - l by omega)
  have h2 := Nat.mul_le_mul_right C (show lf + 1 - m ≤ lf + 1 - l by omega)
  omega
theorem topG_of {p : List Rat} {a : Nat} (h : Ma.HtP p a) (ha : a ≤ LIM) (tp : Ma.Tr p) (hl : p.length ≤ 1000) : TopG p := TopOk.gen ⟨fun c hc => Fits.mono (h.num c hc) ha, hl, fun hne => Ma.lead_ne tp hne⟩
theorem topG_one {p : List Rat} {a : Nat} (h : Ma.HtP p a) (ha : a ≤ BIG) (tp : Ma.Tr p) (hl : p.length = 1) : TopG p := by
  refine ⟨by omega, fun c hc => ?_⟩
  obtain ⟨d, rfl⟩ : ∃ d, p = [d] := List.length_eq_one_iff.mp hl
  have hcd : c = d := by simpa using hc
  subst hcd
  have hne : c ≠ 0 := Ma.tr_one_ne tp
  have hf : Fits BIG c := Fits.mono (h.num c hc) ha
  have e : AlOne.lead [c] = c := rfl
  rw [e]
  refine ⟨hf, hf, hne, .inr ?_⟩
  have : c / c = 1 := by rw [Rat.div_def, Rat.mul_inv_cancel c hne]
  rw [this]; exact fits_one _
theorem euc_chain {f g : Ma.P} {D1 D2 A C Cg : Nat} (hf : f ≠ 0) (hf5 : f.len ≤ 5) (hg5 : g.len ≤ 5) (hgf : g.len ≤ f.len) (hD1 : 0 < D1) (hD2 : 0 < D2) (h1 : Ma.HtD f D1 A) (h3 : Ma.HtD g D2 C) (hck : chk f.len g.len A C Cg = true) :
    ∀ (n : Nat) (L S : Ma.P), S.len ≤ n → (S ≠ 0 → Ma.Ch f g L S ∧ S.ld = 1) → S.len < L.len → L.len ≤ g.len → Ma.HtP L.1 (aMax f.len g.len A C Cg L.len) → EucG L.1 S.1 := by
  intro n
  induction n with
  | zero =>
    intro L S hn hc hlt hLg hL
    have hS : S = 0 := Ma.zero_of_len hn
    have e : S.1 = [] := Ma.P.eq_zero_iff.mp hS
    rw [e]
    have hl6 : L.len < 6 := by omega
    have := List.all_eq_true.mp hck L.len (List.mem_range.mpr hl6)
    have hL0 : ¬ L.len = 0 := by omega
    have hLg' : ¬ g.len < L.len := by omega
    rw [decide_eq_false hL0, decide_eq_false hLg', Bool.false_or, Bool.false_or, Bool.and_eq_true, decide_eq_true_eq] at this
    exact .fin L.2 (topG_of hL (by omega) L.2 (by show L.len ≤ 1000; omega))
  | succ n ih =>
    intro L S hn hc hlt hLg hL
    have hl6 : L.len < 6 := by omega
    have hk := List.all_eq_true.mp hck L.len (List.mem_range.mpr hl6)
    have hL0 : ¬ L.len = 0 := by omega
    have hLg' : ¬ g.len < L.len := by omega
    rw [decide_eq_false hL0, decide_eq_false hLg', Bool.false_or, Bool.false_or, Bool.and_eq_true, decide_eq_true_eq] at hk
    by_cases hS : S = 0
    · have e : S.1 = [] := Ma.P.eq_zero_iff.mp hS
      rw [e]
      exact .fin L.2 (topG_of hL (by omega) L.2 (by show L.len ≤ 1000; omega))
    · obtain ⟨hch, hld⟩ := hc hS
      have hSp := Ma.P.len_pos hS
      have hSne : S.1 ≠ [] := fun e => hS (Ma.P.eq_zero_iff.mpr e)
      have hs := List.all_eq_true.mp hk.2 S.len (List.mem_range.mpr hlt)
      rw [if_neg (by omega)] at hs
      -- how large S is
      have hSz : Ma.HtP S.1 (if S.len = 1 then 0 else Tn f.len g.len A C L.len) := by
        split
        · rename_i e1
          have := Ma.P.eq_cst e1
          rw [hld] at this
          have e2 : S.1 = [1] := by
            rw [this]
            show AlOne.trim [1] = [1]
            rw [Ma.trim_cons]; simp [AlOne.trim]
          rw [e2]; exact Ma.htP_one 0
        · exact Ma.ch_size hch hf hld hS hlt (by omega) hLg (by omega) hf5 hg5 hD1 hD2 h1 h3
      obtain ⟨q, R, hdm, eLR, hR⟩ := Ma.divMod_spec L S hS
      have eR : AlOne.rest L.1 S.1 = R.1 := by unfold AlOne.rest; rw [hdm]
      have hRht : Ma.HtP R.1 (aMax f.len g.len A C Cg L.len + (L.len + 1 - S.len) * ((if S.len = 1 then 0 else Tn f.len g.len A C L.len) + 1)) := by
        rw [← eR]
        exact Ma.rest_ht L.2 S.2 hSne hL hSz
      have hmon : AlOne.monic R.1 = (Ma.mon R).1 := rfl
      have hTS : (if S.len = 1 then 0 else Tn f.len g.len A C L.len) ≤ aMax f.len g.len A C Cg S.len := by
        unfold aMax
        split
        · omega
        · rw [if_neg (by omega)]
          exact Tn_mono (by omega)
      have hnext : EucG S.1 (Ma.mon R).1 := by
        refine ih S (Ma.mon R) ?_ (fun hm => ?_) ?_ (by omega) (hSz.mono hTS)
        · by_cases hR0 : R = 0
          · rw [hR0, Ma.mon_zero, Ma.P.len_zero]; omega
          · rw [(Ma.mon_spec hR0).2.1]; omega
        · have hR0 : R ≠ 0 := fun e => hm (by rw [e, Ma.mon_zero])
          exact ⟨Ma.ch_next hch hS hlt eLR hR hR0, (Ma.mon_spec hR0).1⟩
        · by_cases hR0 : R = 0
          · rw [hR0, Ma.mon_zero, Ma.P.len_zero]; omega
          · rw [(Ma.mon_spec hR0).2.1]; exact hR
      have hLl : L.1.length = L.len := rfl
      have hSl : S.1.length = S.len := rfl
      have hRl : R.1.length = R.len := rfl
      refine .turn hSne ?_ ?_ (by rw [eR, hmon]; exact hnext)
      · by_cases e1 : S.len = 1
        · rw [if_pos e1] at hSz
          refine DivOk.gen ⟨L.2, S.2, hSne, by omega, by omega, _, _, hL, hSz, ?_, by decide⟩
          rw [hLl, hSl, e1]; omega
        · rw [if_neg e1] at hSz
          rw [if_neg e1, Bool.and_eq_true, decide_eq_true_eq] at hs
          by_cases e2 : S.len = 2
          · rw [if_pos e2, decide_eq_true_eq] at hs
            obtain ⟨c, d, e3⟩ : ∃ c d, S.1 = [c, d] := by
              match hS1 : S.1, hSl.trans e2 with
              | [c, d], _ => exact ⟨c, d, rfl⟩
            have hd : d = 1 := by
              have : AlOne.lead S.1 = 1 := hld
              rw [e3] at this
              exact this
            rw [e3, hd]
            rw [e3, hd] at hSz
            exact div_lin L.2 (by omega) hL hSz (by rw [hLl]; exact hs.2)
          · rw [if_neg e2, decide_eq_true_eq] at hs
            refine DivOk.gen ⟨L.2, S.2, hSne, by omega, by omega, _, _, hL, hSz, ?_, hs.1⟩
            rw [hLl, hSl]; exact hs.2
      · rw [eR]
        by_cases hR0 : R = 0
        · rw [Ma.P.eq_zero_iff.mp hR0]
          exact ⟨by simp, fun c hc => by cases hc⟩
        · have hRp := Ma.P.len_pos hR0
          by_cases e1 : S.len = 1
          · omega
          · rw [if_neg e1] at hRht
            rw [if_neg e1, Bool.and_eq_true, decide_eq_true_eq] at hs
            by_cases e2 : S.len = 2
            · rw [if_pos e2, decide_eq_true_eq] at hs
              refine topG_one hRht ?_ R.2 (by omega)
              rw [e2]
              have : (L.len + 1 - 2) * (Tn f.len g.len A C L.len + 1) = (L.len - 1) * (Tn f.len g.len A C L.len + 1) := by congr 1
              show _ ≤ 100000
              omega
            · rw [if_neg e2, decide_eq_true_eq] at hs
              exact topG_of hRht (by omega) R.2 (by omega)
/-- from the start, the second one not the longer one -/
theorem euc_start {f g : Ma.P} {D1 D2 A C Cf Cg : Nat} (hg : g ≠ 0) (hf5 : f.len ≤ 5) (hg5 : g.len ≤ 5) (hgf : g.len ≤ f.len) (hD1 : 0 < D1) (hD2 : 0 < D2) (h1 : Ma.HtD f D1 A) (h3 : Ma.HtD g D2 C) (hcf : Ma.HtP f.1 Cf) (hcg : Ma.HtP g.1 Cg) (hg1 : g.len = 1 → Ma.HtP g.1 0) (hck : chk f.len g.len A C Cg = true) (hfit : Cf + (f.len + 1 - g.len) * (Cg + 1) ≤ LIM) : EucG f.1 g.1 := by
  have hgp := Ma.P.len_pos hg
  have hf : f ≠ 0 := fun e => by rw [e, Ma.P.len_zero] at hgf; omega
  have hgne : g.1 ≠ [] := fun e => hg (Ma.P.eq_zero_iff.mpr e)
  obtain ⟨q, R, hdm, eLR, hR⟩ := Ma.divMod_spec f g hg
  have eR : AlOne.rest f.1 g.1 = R.1 := by unfold AlOne.rest; rw [hdm]
  have hfl : f.1.length = f.len := rfl
  have hgl : g.1.length = g.len := rfl
  have hRl : R.1.length = R.len := rfl
  have hRht : Ma.HtP R.1 (Cf + (f.len + 1 - g.len) * (Cg + 1)) := by
    rw [← eR]
    exact Ma.rest_ht f.2 g.2 hgne hcf hcg
  have hCg : Cg ≤ LIM := by
    have := Nat.mul_le_mul_right (Cg + 1) (show 1 ≤ f.len + 1 - g.len by omega)
    omega
  refine .turn hgne (DivOk.gen ⟨f.2, g.2, hgne, by omega, by omega, _, _, hcf, hcg, hfit, hCg⟩) ?_ ?_
  · rw [eR]
    exact topG_of hRht hfit R.2 (by omega)
  · rw [eR]
    show EucG g.1 (Ma.mon R).1
    have hmlen : (Ma.mon R).len ≤ R.len := by
      by_cases hR0 : R = 0
      · rw [hR0, Ma.mon_zero]; omega
      · rw [(Ma.mon_spec hR0).2.1]; omega
    refine euc_chain hf hf5 hg5 hgf hD1 hD2 h1 h3 hck (Ma.mon R).len g (Ma.mon R) (Nat.le_refl _) (fun hm => ?_) (by omega) (Nat.le_refl _) ?_
    · have hR0 : R ≠ 0 := fun e => hm (by rw [e, Ma.mon_zero])
      exact ⟨Ma.ch_first hg hgf eLR hR hR0, (Ma.mon_spec hR0).1⟩
    · unfold aMax
      by_cases e : g.len = 1
      · rw [if_pos e]; exact hg1 e
      · rw [if_neg e, if_pos rfl]; exact hcg
/-! the forms -/
def bt (l : Nat) : Nat := if l = 5 then 418 else 598
theorem form_ht {n : Nat} {t : Al09.Table} (sq : Ma.Sq n t) (hn : n ≤ 4) (hs : Ma.SmallT t) {f : Ma.P} (hf : f ∈ Ma.formsP t) : f.ld = 1 ∧ 2 ≤ f.len ∧ f.len ≤ 5 ∧ f ≠ 0 ∧ ∃ D, 0 < D ∧ D ≤ 2 ^ bt f.len ∧ Ma.HtD f D (bt f.len) := by
  unfold Ma.formsP at hf
  obtain ⟨hm, h2⟩ := List.mem_filter.mp hf
  have h2' : 2 ≤ f.len := of_decide_eq_true h2
  rw [List.mem_map] at hm
  obtain ⟨k, hk, rfl⟩ := hm
  rw [List.mem_range, sq.rows] at hk
  have hht := Ma.fP_ht sq hn hs hk
  have hall := Ma.fP_all sq hk
  have hne := Ma.fP_ne sq hk
  refine ⟨hall.2.1, h2', hht.2, hne, ?_⟩
  by_cases h5 : (Ma.fP t k).len = 5
  · have hct := Ma.charP_top sq
    have hcl := hall.2.2.2.len (Ma.charP_ne sq)
    have heq : Ma.charP t = Ma.fP t k := by
      obtain ⟨h, eh⟩ := hall.2.2.2
      have hh0 : h ≠ 0 := fun z => Ma.charP_ne sq (by rw [eh, z]; grind)
      have l1 := Ma.P.len_mul hne hh0
      rw [← eh, hct.1] at l1
      have l2 := Ma.P.len_pos hh0
      have l3 : h.len = 1 := by omega
      have l4 := Ma.P.ld_mul hne hh0
      rw [← eh, hct.2, hall.2.1] at l4
      have l5 : h.ld = 1 := by grind
      have l6 := Ma.P.eq_cst l3
      rw [l5, Ma.cst_one] at l6
      rw [eh, l6]; grind
    have hmem : Ma.charP t ∈ Ma.minorsP t n := by rw [Ma.minors_last sq]; simp
    obtain ⟨D, h1, h2, z, h3, h4⟩ := (Ma.minor_ht sq hn hs hmem).1
    rw [heq] at h3
    unfold bt
    rw [if_pos h5]
    exact ⟨D, h1, h2, z, h3, h4⟩
  · obtain ⟨D, h1, h2, z, h3, h4⟩ := hht.1
    unfold bt
    rw [if_neg h5]
    exact ⟨D, h1, h2, z, h3, h4⟩
theorem htP_of {p : Ma.P} {D m : Nat} (h1 : 0 < D) (h2 : D ≤ 2 ^ m) (h : Ma.HtD p D m) : Ma.HtP p.1 m := Ma.Ht.htP (h.ht h1 h2 (Nat.le_refl _))
theorem chk_forms : ∀ lf, lf < 6 → ∀ lg, lg < 6 → lf < 2 ∨ lg < 2 ∨ lf < lg ∨ (chk lf lg (bt lf) (bt lg) (bt lg) = true ∧ bt lf + (lf + 1 - lg) * (bt lg + 1) ≤ LIM) := by decide +kernel
/-- **of two forms** -/
theorem euc_forms {n m : Nat} {t s : Al09.Table} (sq : Ma.Sq n t) (hn : n ≤ 4) (hs : Ma.SmallT t) (sq' : Ma.Sq m s) (hn' : m ≤ 4) (hs' : Ma.SmallT s) {f g : Ma.P} (hf : f ∈ Ma.formsP t) (hg : g ∈ Ma.formsP s) : EucG f.1 g.1 := by
  have key : ∀ {n m : Nat} {t s : Al09.Table} (sq : Ma.Sq n t) (hn : n ≤ 4) (hs : Ma.SmallT t) (sq' : Ma.Sq m s) (hn' : m ≤ 4) (hs' : Ma.SmallT s) {f g : Ma.P} (hf : f ∈ Ma.formsP t) (hg : g ∈ Ma.formsP s), g.len ≤ f.len → EucG f.1 g.1 := by
    intro n m t s sq hn hs sq' hn' hs' f g hf hg hle
    obtain ⟨a1, a2, a3, a4, D1, a5, a6, a7⟩ := form_ht sq hn hs hf
    obtain ⟨b1, b2, b3, b4, D2, b5, b6, b7⟩ := form_ht sq' hn' hs' hg
    rcases chk_forms f.len (by omega) g.len (by omega) with h | h | h | h
    · omega
    · omega
    · omega
    · exact euc_start b4 a3 b3 hle a5 b5 a7 b7 (htP_of a5 a6 a7) (htP_of b5 b6 b7) (fun e => by omega) h.1 h.2
  by_cases hle : g.len ≤ f.len
  · exact key sq hn hs sq' hn' hs' hf hg hle
  · obtain ⟨a1, a2, a3, a4, D1, a5, a6, a7⟩ := form_ht sq hn hs hf
    obtain ⟨b1, b2, b3, b4, D2, b5, b6, b7⟩ := form_ht sq' hn' hs' hg
    have hfl : f.1.length = f.len := rfl
    have hgl : g.1.length = g.len := rfl
    have hgne : g.1 ≠ [] := fun e => b4 (Ma.P.eq_zero_iff.mpr e)
    have er : AlOne.rest f.1 g.1 = f.1 := by unfold AlOne.rest; rw [Ma.div_short f.2 g.2 (by omega)]
    have em : AlOne.monic f.1 = f.1 := congrArg Subtype.val (Ma.mon_of_ld a1)
    refine .turn hgne ⟨f.2, g.2, hgne, by omega, by omega, fun t ht => by omega, fun t j ht => by omega, fun t j ht => by omega⟩ ?_ ?_
    · rw [er]
      refine topG_of (htP_of a5 a6 a7) ?_ f.2 (by omega)
      unfold bt
      split <;> decide
    · rw [er, em]
      exact key sq' hn' hs' sq hn hs hg hf (by omega)
end W
set_option maxRecDepth 100000
set_option maxHeartbeats 4000000
/-! rules of our own: list(reversed(xs)), set(xs) of whole numbers -/
namespace W
open PySem PySem.Spec PyProof.Rows L2
section
variable {prog : Program} {w : World} {A : Around} {E : Value → Shared → Prop} {s : Shared}
/-- a list told backwards into a new one: the second half, when the new list is there -/
theorem fill_rev {R : Result → Shared → Prop} {it src out : Addr} {vals : Array Value} (hh : A.handled = none) (h1 : s.heap.IsRevIter it src ((vals.size : Int) - 1)) (h2 : s.heap.IsList src vals) (h3 : src ≠ it) (h4 : out ≠ it) (h5 : out ≠ src) (h6 : vals.size ≤ sizeLine)
    (h7 : s.heap.get? out = some { cls := .type "list", data := .seq #[] })
    (fin : ∀ (h' : Heap) (tk : Nat) (got : Array Value) (c : Nat), (∀ b o, b ≠ it → b ≠ out → s.heap.get? b = some o → h'.get? b = some o) → h'.get? out = some { cls := .type "list", dict := none, data := .seq got c, slots := #[] } → ItemsOf (fun i v => vals[vals.size - 1 - i]? = some v) got vals.size → R (.ok (.ret .none)) { s with heap := h', toks := tk }) :
    wpAny (model prog w) A.in1 (Builtin.«list.__init__» ⟨[.ref out, .ref it], []⟩)
      (fun f s' => match f with | .done g => R (.ok g) s' | .again k => k.quiet = true ∧ codeAny (model prog w) A k R s') (fun e s' => R (.error e) s') s := by
  show wpAny _ A.in1 (Builtin.List.listItems (.ref out) >>= fun old => Builtin.List.listUpdate (.ref out) (fun _ => #[]) >>= fun _ => letGo old.toList.reverse >>= fun _ => Builtin.List.listExtendWith (.ref out) (.ref it) .none) _ _ s
  unfold Builtin.List.listItems
  refine wpAny_bind (wpAny_bind (wpAny_seqItems h7 rfl (wpAny_pure ?_)))
  show wpAny _ A.in1 (updateSeq out (fun _ => #[]) >>= fun _ => _) _ _ s
  refine wpAny_bind (wpAny_updateSeq h7 rfl (wpAny_bind (wpAny_letGo ?_)))
  have g7 := Heap.get?_update_self (Obj.mapSeq (fun _ => (#[] : Array Value))) h7 rfl
  have keep : ∀ b o, b ≠ out → s.heap.get? b = some o → (s.heap.update out (Obj.mapSeq (fun _ => (#[] : Array Value)))).get? b = some o := fun b o hb e => (Heap.get?_update_other _ _ (Ne.symm hb)).trans e
  have g1 : (s.heap.update out (Obj.mapSeq (fun _ => (#[] : Array Value)))).IsRevIter it src ((vals.size : Int) - 1) := h1.at fun o e => keep it o h4.symm e
  have g2 : (s.heap.update out (Obj.mapSeq (fun _ => (#[] : Array Value)))).IsList src vals := h2.at fun o e => keep src o h5.symm e
  generalize s.heap.update out (Obj.mapSeq (fun _ => (#[] : Array Value))) = hp at g7 keep g1 g2
  have ty : ({ s with heap := hp } : Shared).TypeIs (.ref it) "list_reverseiterator" := Heap.IsRevIter.typeIs (s := { s with heap := hp }) g1
  have ne1 : Builtin.List.listSameRef (.ref out) (.ref it) = false := by simp [Builtin.List.listSameRef, h4]
  have walk := (Walks.listRev (prog := prog) (w := w) (A := A.in1) hh it src h3 vals).toS
  unfold Builtin.List.listExtendWith
  refine wpAny_bind (wpAny_typeOf ty ?_)
  rw [if_neg (by rw [ne1]; decide)]
  refine wpAny_bind (wpAny_pyIter_revIter (s := { s with heap := hp }) g1 (wpAny_bind (wpAny_holding ?_)))
  unfold Builtin.List.listLengthHint
  refine wpAny_bind (wpAny_specialOf ty RT.nolen_lri ?_)
  show wpAny _ _ (specialOf (.ref it) (Str.ofString "__length_hint__") >>= _) _ _ _
  refine wpAny_bind (wpAny_specialOf ty RT.hint_lri ?_)
  generalize nm : ("list_reverseiterator.__length_hint__" : String) = who
  wp_delta
  rw [show splitId who = some ("list_reverseiterator", "__length_hint__") from by subst nm; decide +kernel]
  subst nm
  refine wpAny_bind (wpAny_isInstance (b := true) ty (by rw [isSubtype_type]; kernel_rfl) (wpAny_pure ?_))
  rw [if_neg (by decide)]
  refine wpAny_pure ⟨plainId_quiet F.plain_extend_loop _, codeAny_extend_loopS walk h6 out (by simp only [List.mem_cons, List.not_mem_nil, or_false, not_or]; exact ⟨h4, h5⟩) _ vals.size 0 _ _ _ rfl (Nat.zero_le _) ⟨Nat.zero_le _, by rw [show ((vals.size : Nat) : Int) - 1 - ((0 : Nat) : Int) = (vals.size : Int) - 1 by omega]; exact g1, g2⟩ g7 (ItemsOf.nil _) fun s2 got c mv gout items => ?_⟩
  rw [Moved.eq_with mv]
  refine fin s2.heap s2.toks got c (fun b o b1 b2 e => mv.heap b o (fun mem => ?_) (keep b o b2 e)) gout items
  rcases List.mem_cons.mp mem with e' | mem
  · exact b2 e'
  · exact b1 (List.mem_singleton.mp mem)
theorem list_rev {it src : Addr} {vals : Array Value} {Q : Value → Shared → Prop} (hh : A.handled = none) (h1 : s.heap.IsRevIter it src ((vals.size : Int) - 1)) (h2 : s.heap.IsList src vals) (h3 : src ≠ it) (h6 : vals.size ≤ sizeLine)
    (fin : ∀ (h' : Heap) (tk : Nat) (got : Array Value) (c : Nat), (∀ b o, b ≠ it → s.heap.get? b = some o → h'.get? b = some o) → h'.get? s.heap.objs.size = some { cls := .type "list", dict := none, data := .seq got c, slots := #[] } → ItemsOf (fun i v => vals[vals.size - 1 - i]? = some v) got vals.size → Q (.ref s.heap.objs.size) { s with heap := h', toks := tk }) :
    wpAny (model prog w) A (call (.type "list") [.ref it]) Q E s := by
  obtain ⟨oi, hoi, _⟩ := id h1
  obtain ⟨ol, hol, _⟩ := id h2
  refine callType_codes (Q₁ := fun v t => v = .ref s.heap.objs.size ∧ t = { s with heap := s.heap.push { cls := .type "list", data := .seq #[] } }) F.called_list (F.typeCall_list_1 _) F.entry_list_init (code_list_new _ ⟨rfl, rfl⟩) fun v t ⟨ev, et⟩ => ?_
  subst ev et
  have made : (s.heap.push { cls := .type "list", data := .seq #[] }).get? s.heap.objs.size = some { cls := .type "list", data := .seq #[] } := Heap.get?_push_size _ rfl
  refine ⟨⟨_, made, rfl⟩, F.args_list_init_2 _ _, fill_rev (A := A.in1) (s := { s with heap := s.heap.push { cls := .type "list", data := .seq #[] } }) hh (h1.at fun o e => Heap.get?_push_of_some _ e) (h2.push _) h3 (Nat.ne_of_gt (Heap.lt_size hoi)) (Nat.ne_of_gt (Heap.lt_size hol)) h6 made fun h' tk got c k1 k2 k3 => ⟨rfl, ?_⟩⟩
  exact fin h' tk got c (fun b o hb e => k1 b o hb (Nat.ne_of_lt (Heap.lt_size e)) (Heap.get?_push_of_some _ e)) k2 k3
end
section
variable {X : Cx}
/-- list(reversed(xs)) -/
def tListRev (K : PySem.W.Frag) (te : TE) : TE := fun σ H Q => te σ H fun v H1 => ∃ (a : Addr) (xs : List V), v = .ref a ∧ SqL K H1 a xs ∧ ∀ q, H1 q = none → Q (.ref q) (upd H1 q (.lst xs.reverse))
theorem pe_listRev {e : Expr} {te : TE} {p p2 pos pos2 : Pos} (hc : X.calm = true) (g1 : Gl X "list") (m1 : X.mg "list" = none) (g2 : Gl X "reversed") (m2 : X.mg "reversed" = none) (he : PE X e te)
    (s1 : starEach [e] X.env = (false, eval e X.env) :: starEach [] X.env := by rfl)
    (s2 : starEach [.Call (.Name "reversed" p2) [e] [] pos2] X.env = (false, eval (.Call (.Name "reversed" p2) [e] [] pos2) X.env) :: starEach [] X.env := by rfl) :
    PE X (.Call (.Name "list" p) [.Call (.Name "reversed" p2) [e] [] pos2] [] pos) (tListRev X.K te) := by
  refine ⟨fun pins s σ H Q I hw => ?_⟩
  refine Call_ (ld_blt I g1 m1 boot_list (callWith_type1 (args_cons (Call_ (ld_blt I g2 m2 boot_reversed (callWith_type1 (args_cons (thn (he.run pins s σ H _ I hw) fun u t ⟨v, H1, J, rv, qv⟩ => args_nil ?_) s1) s1 rfl))) s2) s2 rfl))
  obtain ⟨a, xs, ev, hq, q⟩ := qv
  subst ev
  obtain rfl : u = Value.ref a := rv
  obtain ⟨its, vs, pl, hz⟩ := J.list hq
  refine call_reversed_list pl.isList (args_nil ?_)
  have hl := pl.isList
  obtain ⟨ol, hol, _⟩ := id hl
  have hsz : its.toArray.size ≤ sizeLine := by rw [List.size_toArray, ← vs.length]; exact hz
  refine list_rev (s := { t with heap := t.heap.push (revObj a ((its.toArray.size : Int) - 1)) }) (J.ok.hd hc) ⟨_, Heap.get?_push_size _ rfl, rfl, rfl⟩ (hl.push _) (Nat.ne_of_lt (Heap.lt_size hol)) hsz fun h' tk got c k1 k2 k3 => ?_
  have esz : (t.heap.push (revObj a ((its.toArray.size : Int) - 1))).objs.size = t.heap.objs.size + 1 := Heap.size_push ..
  have old : ∀ b o, t.heap.get? b = some o → h'.get? b = some o := fun b o e => k1 b o (Nat.ne_of_lt (Heap.lt_size e)) (Heap.get?_push_of_some _ e)
  rw [esz] at k2 ⊢
  refine ⟨.ref (t.heap.objs.size + 1), upd H1 (t.heap.objs.size + 1) (.lst xs.reverse), J.laid (t' := tk) old (Nat.le_succ _) ⟨by rw [List.length_reverse]; exact hz, got.toList, c, RT.vals_rev vs k3, ?_⟩, rfl, q _ (J.hok.fresh (Nat.le_succ _))⟩
  rw [Array.toArray_toList]
  exact k2
/-- set(xs) of whole numbers -/
def rSetL (w : World) (K : PySem.W.Frag) : List V → Hp → VK → Prop := fun vs H Q => ∃ (a : Addr) (ns : List Int), vs = [V.ref a] ∧ SqL K H a (ns.map V.int) ∧ ns.length ≤ 1000 ∧
  ∀ (p : Addr) (n : Nat), H p = none → n ≤ ns.length → Q (.ref p) (upd H p (SetO w p (fun k => decide (k ∈ ns)) n))
end
section
variable {prog : Program} {w : World} {A : Around} {E : Value → Shared → Prop} {s : Shared}
/-- whole numbers of a list put into a new set: the second half -/
theorem fill_set {R : Result → Shared → Prop} {src out : Addr} {vals : Array Value} {ns : List Int} (hh : A.handled = none) (h1 : s.heap.IsList src vals) (hi : IntsAre vals.toList ns) (hb : ns.length + 1 < scanBound) (h2 : out ≠ src)
    (h3 : s.heap.get? out = some { cls := .type "set", dict := none, data := .set #[] 0 (.fresh 0 0 (!w.params.followText "set-order")) })
    (fin : ∀ (h' : Heap) (tk c : Nat), (∀ b o, b ≠ out → s.heap.get? b = some o → h'.get? b = some o) → SetR w h' out (fun j => decide (j ∈ ns)) c → c ≤ ns.length → R (.ok (.ret .none)) { s with heap := h', toks := tk }) :
    wpAny (model prog w) A.in1 (Builtin.«set.__init__» ⟨[.ref out, .ref src], []⟩)
      (fun f s' => match f with | .done g => R (.ok g) s' | .again k => k.quiet = true ∧ codeAny (model prog w) A k R s') (fun e s' => R (.error e) s') s := by
  have sz : vals.size = ns.length := by
    have := IntsAre.length hi
    rwa [Array.length_toList] at this
  obtain ⟨o, ho, hcl, m, hdt⟩ := id h1
  obtain ⟨ocls, odict, odata, oslots⟩ := o
  simp only at hcl hdt
  subst hcl hdt
  have n1 := F.sub_list_set
  have n2 := F.sub_list_frozenset
  have n3 : (Value.type "list" == Value.type "dict") = false := by decide
  unfold Builtin.«set.__init__» noKeywords Builtin.Frozenset.updateFrom
  generalize hit : pyIter = iter
  wp_walk
  subst hit
  have lt1 : out < s.heap.objs.size := Heap.lt_size h3
  have lt2 : src < s.heap.objs.size := Heap.lt_size ho
  refine wpAny_pyIter_list h1 (wpAny_bind (wpAny_runValue ?_))
  refine set_update_ints ((Walks.list (A := A.in1.in1) (by simp [hh]) s.heap.objs.size src (Nat.ne_of_lt lt2) vals).toS) out (by simp only [List.mem_cons, List.not_mem_nil, or_false, not_or]; exact ⟨Nat.ne_of_lt lt1, h2⟩) ns sz hb (fun i v hv => ?_) (vals.size - 0) 0 _ (by omega) (Nat.zero_le _) ⟨⟨_, Heap.get?_push_size _ rfl, rfl, rfl⟩, h1.push _⟩ ⟨0, Nat.le_refl 0, setR_new_at (Heap.get?_push_of_some _ h3)⟩ fun s2 c mv hc hS => ?_
  · have hi' : i < ns.length := by rw [← sz]; exact (Array.getElem?_eq_some_iff.mp hv).1
    obtain ⟨t, e⟩ := IntsAre.int_at hi i v (by rw [Array.getElem?_toList]; exact hv)
    refine ⟨ns[i], t, List.getElem?_eq_getElem hi', ?_⟩
    rw [e, List.getD_eq_getElem?_getD, List.getElem?_eq_getElem hi']; rfl
  · obtain ⟨hp, gn, dr, tk, os⟩ := s2
    obtain rfl : gn = s.gens := mv.gens
    obtain rfl : dr = s.drawn := mv.drawn
    obtain rfl : os = s.os := mv.os
    refine wpAny_pure (wpAny_pure (fin hp tk c (fun b o hb' e => mv.heap b o (fun mem => ?_) (Heap.get?_push_of_some _ e)) hS (by omega)))
    rcases List.mem_cons.mp mem with z | z
    · exact hb' z
    · exact absurd (Heap.lt_size e) (by rw [List.mem_singleton.mp z]; exact Nat.lt_irrefl _)
/-- set(xs) -/
theorem set_made {src : Addr} {vals : Array Value} {ns : List Int} {Q : Value → Shared → Prop} (hh : A.handled = none) (h1 : s.heap.IsList src vals) (hi : IntsAre vals.toList ns) (hb : ns.length + 1 < scanBound)
    (fin : ∀ (h' : Heap) (tk c : Nat), (∀ b o, s.heap.get? b = some o → h'.get? b = some o) → SetR w h' s.heap.objs.size (fun j => decide (j ∈ ns)) c → c ≤ ns.length → Q (.ref s.heap.objs.size) { s with heap := h', toks := tk }) :
    wpAny (model prog w) A (call (.type "set") [.ref src]) Q E s := by
  obtain ⟨m1, m2, mro⟩ := F.called_set.mro
  have a1 := F.called_set.made
  have a2 := F.called_set.sub
  have a3 := F.called_set.notType
  have a4 := F.called_set.canCreate
  have a5 := F.typeCall_set_1 (.ref src)
  refine wpAny_call (codeAny_of_tree (show wpAny _ _ (callAny (.type "set") _) _ _ _ from wpAny_pure ⟨Code.quiet_builtin _ (by decide +kernel), codeAny_builtin F.entry_type_call ?_⟩))
  rw [Around.under_plain (weight_type_call_type "set" [.ref src] []) rfl]
  repeat any_goals first | assumption | wp_step
  refine codeAny_mono (code_set_led1 (.ref src) (E := E) (Q₁ := fun v t => v = .ref s.heap.objs.size ∧ t = { s with heap := s.heap.push { cls := .type "set", dict := none, data := .set #[] 0 (.fresh 0 0 (!w.params.followText "set-order")) } }) ⟨rfl, rfl⟩) fun r t hr => ?_
  match r, hr with
  | .error e, hr => exact hr
  | .ok (.ret v), hr =>
    obtain ⟨ev, et⟩ := hr
    subst ev et
    have made : (s.heap.push { cls := .type "set", dict := none, data := .set #[] 0 (.fresh 0 0 (!w.params.followText "set-order")) }).get? s.heap.objs.size = some { cls := .type "set", dict := none, data := .set #[] 0 (.fresh 0 0 (!w.params.followText "set-order")) } := Heap.get?_push_size _ rfl
    have ty : Shared.TypeIs { s with heap := s.heap.push { cls := .type "set", dict := none, data := .set #[] 0 (.fresh 0 0 (!w.params.followText "set-order")) } } (.ref s.heap.objs.size) "set" := ⟨_, made, rfl⟩
    have b1 := F.called_set.init.lookup
    have b2 := F.called_set.init.bind (.ref s.heap.objs.size)
    repeat any_goals first | assumption | wp_step
    obtain ⟨ol, hol, _⟩ := id h1
    refine codeAny_mono (codeAny_call_builtin (R := wants (fun v t => v = .none ∧ Q (.ref s.heap.objs.size) t) E) F.called_set.init.plain F.entry_set_init (check_set_init_1 ty (fill_set (A := A.in1) (s := { s with heap := s.heap.push { cls := .type "set", dict := none, data := .set #[] 0 (.fresh 0 0 (!w.params.followText "set-order")) } }) hh (h1.push _) hi hb (Nat.ne_of_gt (Heap.lt_size hol)) made fun h' tk c k1 k2 k3 => ⟨rfl, fin h' tk c (fun b o e => k1 b o (Nat.ne_of_lt (Heap.lt_size e)) (Heap.get?_push_of_some _ e)) k2 k3⟩))) fun r2 t2 hr2 => ?_
    match r2, hr2 with
    | .error e, hr2 => exact hr2
    | .ok (.ret v2), hr2 =>
      obtain ⟨e2, hq⟩ := hr2
      subst e2
      repeat any_goals first | assumption | wp_step
end
section
variable {X : Cx}
theorem cr_setL (hc : X.calm = true) : CallR X (.type "set") (rSetL X.w X.K) := by
  intro pins s σ H vs us Q I r h
  obtain ⟨a, ns, rfl, hs, hl, q⟩ := h
  obtain ⟨its, rv, pl, hz⟩ := I.list hs
  rw [Vals.ref1 r]
  refine set_made (I.ok.hd hc) pl.isList (by rw [List.toList_toArray]; exact rv.ints) (by unfold scanBound; omega) fun h' tk c k1 k2 k3 => ?_
  exact ⟨.ref _, upd H s.heap.objs.size (SetO X.w s.heap.objs.size (fun k => decide (k ∈ ns)) c), I.laid (t' := tk) k1 (Nat.le_refl _) (setO_new k2), rfl, q _ c (I.hok.fresh (Nat.le_refl _)) k3⟩
end
end W
set_option maxRecDepth 100000
namespace W
open PySem PySem.Spec PyProof.Rows L2
/-! whole numbers: values, halving -/
theorem drop_step {p : List Rat} {c : Rat} {t : Nat} (ht : t < p.length) (hc : p[p.length - 1 - t]? = some c) : p.drop (p.length - (t + 1)) = c :: p.drop (p.length - t) := by
  have hil : p.length - 1 - t < p.length := by omega
  rw [show p.length - (t + 1) = p.length - 1 - t by omega, List.drop_eq_getElem_cons hil, show p.length - 1 - t + 1 = p.length - t by omega]
  congr 1
  have := List.getElem?_eq_getElem hil
  rw [hc] at this
  exact (Option.some.inj this).symm
theorem Wh.drop {A : Nat} {p : List Rat} (h : Ma.Wh A p) (k : Nat) : Ma.Wh A (p.drop k) := fun c hc => h c (List.mem_of_mem_drop hc)
section
variable {P : Program} {w : World} {K : PySem.W.Frag} {mg : Str → Option Value} {base : Heap}
def spWA (K : PySem.W.Frag) : Sp := fun vs H Q _ => ∃ (a : Addr) (p : List Rat) (z : Int), vs = [.ref a, .int z] ∧ PolV K H a p ∧ Ma.Wh 4000 p ∧ p.length ≤ 8 ∧ z.natAbs ≤ 2 ^ 4000 ∧ Q (.int (Ma.zv p z)) H
theorem ok_whole_at (T : Txt K mg) : FnOk P w K mg base CX0 1 T.f_whole_at T.e_whole_at ["p", "place"] (spWA K) := by
  refine T.d_whole_at.F.ok sc_whole_at (fun vs H Q E h => ?_) (fun cdv A outer s H vs Q E hr h => ?_)
  · obtain ⟨a, p, z, rfl, _⟩ := h
    rfl
  · obtain ⟨a, p, z, rfl, ⟨ps, hps, hpR⟩, hw, hl, hz, q⟩ := h
    have hpl := hpR.len
    refine ⟨_, pss_cons (ps_set (i := 2) sc_whole_at.nd rfl (.inl rfl) pe_int)
      (pss_cons (ps_for PassesOwn.never rfl (pi_reversed (by rfl) T.z_reversed (pa_cons (pv 0) pa_nil)) (pg_name (i := 3) sc_whole_at.nd rfl (.inl rfl))
        (pss_one (ps_set (i := 2) sc_whole_at.nd rfl (.inl rfl) (pe_op op_add (pe_op op_mulW (pv 2) (pv 1)) (pe_ix ix_tup (pv 3) pe_int (fun _ _ => rfl))))))
      (pss_one (ps_ret (pv 2)))), ?_⟩
    refine ⟨_, rfl, a, ps, rfl, SqL.of hps, ?_⟩
    refine for_it (walk_rev (K := K) (a := a) (xs := ps)) (fun t σ H' => ∃ (y3 : Option V), σ = [some (.ref a), some (.int z), some (.int (Ma.zv (p.drop (p.length - t)) z)), y3] ∧ H' = H)
      ⟨none, by rw [Nat.sub_zero, List.drop_length]; rfl, rfl⟩ (fun i σ H' _ h => by obtain ⟨_, _, rfl⟩ := h; exact SqL.of hps) ?_ ?_
    · rintro t x σ H' H'' ht ⟨y3, rfl, rfl⟩ ⟨rfl, hx⟩
      obtain ⟨c, hc, b, rfl, hb⟩ := hpR.get hx
      have htp : t < p.length := by omega
      rw [show ps.length - 1 - t = p.length - 1 - t by omega] at hc
      have hm : CMulW (Ma.zv (p.drop (p.length - t)) z) z := by
        have h1 := Ma.zv_bits hz (Wh.drop hw (p.length - t))
        rw [List.length_drop] at h1
        have h2 : (4000 + 1) * (p.length - (p.length - t)) ≤ 4001 * 8 := Nat.mul_le_mul_left _ (by omega)
        exact mulW h1 hz (by omega)
      refine ⟨_, rfl, _, rfl, _, _, rfl, rfl, hm, _, rfl, b, _, 0, _, rfl, rfl, hb, atI_nat (j := 0) rfl, _, _, rfl, rfl, ?_⟩
      refine ⟨some (V.ref b), ?_, rfl⟩
      rw [drop_step htp hc]
      rfl
    · rintro σ H' ⟨y3, rfl, rfl⟩
      refine ⟨_, rfl, ?_⟩
      rw [hpl, Nat.sub_self, List.drop_zero]
      exact q
/-- how far apart -/
def muC (σ : L2.St) (_ : Hp) : Nat := match σ with
  | [_, _, _, _, some (.int l), some (.int r), _] => (r - l).toNat
  | _ => 0
def spCross (K : PySem.W.Frag) : Sp := fun vs H Q _ => ∃ (a : Addr) (p : List Rat) (lo hi : Int), vs = [.ref a, .int lo, .int hi] ∧ PolV K H a p ∧ Ma.Wh 4000 p ∧ p.length ≤ 8 ∧ lo.natAbs ≤ 2 ^ 3999 ∧ hi.natAbs ≤ 2 ^ 3999 ∧ Ma.zv p lo * Ma.zv p hi < 0 ∧
  ∀ c, Ma.CrP p lo hi c → (c = lo ∨ (lo ≤ c ∧ c < hi)) → Q (.int c) H
theorem ok_crossing (T : Txt K mg) : FnOk P w K mg base CX0 2 T.f_crossing T.e_crossing ["p", "low", "high"] (spCross K) := by
  refine T.d_crossing.F.ok sc_crossing (fun vs H Q E h => ?_) (fun cdv A outer s H vs Q E hr h => ?_)
  · obtain ⟨a, p, lo, hi, rfl, _⟩ := h
    rfl
  · obtain ⟨a, p, lo, hi, rfl, hp, hw, hl, hlo, hhi, hneg, q⟩ := h
    refine ⟨_, pss_cons (ps_set (i := 3) sc_crossing.nd rfl (.inl rfl) (pe_cmpR op_lt (pe_D T.d_whole_at (ok_whole_at T) hr (pa_cons (pv 0) (pa_cons (pv 1) pa_nil))) pe_int (nomark _)))
      (pss_cons (ps_set (i := 4) sc_crossing.nd rfl (.inl rfl) (pv 1))
      (pss_cons (ps_set (i := 5) sc_crossing.nd rfl (.inl rfl) (pv 2))
      (pss_cons (ps_while PassesOwn.never (pt_cmpR op_gt (pe_op op_sub (pv 5) (pv 4)) pe_int (nomark _))
        (pss_cons (ps_set (i := 6) sc_crossing.nd rfl (.inl rfl) (pe_op op_fdivX (pe_op op_add (pv 4) (pv 5)) pe_int))
        (pss_one (ps_if (pt_cmpR op_eq (pe_cmpR op_gt (pe_D T.d_whole_at (ok_whole_at T) hr (pa_cons (pv 0) (pa_cons (pv 6) pa_nil))) pe_int (nomark _)) (pv 3) (nomark _))
          (pss_one (ps_set (i := 5) sc_crossing.nd rfl (.inl rfl) (pv 6)))
          (pss_one (ps_set (i := 4) sc_crossing.nd rfl (.inl rfl) (pv 6)))))))
      (pss_one (ps_ret (pv 4)))))), ?_⟩
    have hP : (2 : Nat) ^ 3999 ≤ 2 ^ 4000 := Nat.pow_le_pow_right (by omega) (by omega)
    refine ⟨_, rfl, _, rfl, a, p, lo, rfl, hp, hw, hl, Nat.le_trans hlo hP, _, _, rfl, rfl, _, rfl, _, rfl, ?_⟩
    have hsg : (Ma.zv p lo < 0 ∧ 0 < Ma.zv p hi) ∨ (0 < Ma.zv p lo ∧ Ma.zv p hi < 0) := by
      rcases Int.lt_trichotomy (Ma.zv p lo) 0 with h1 | h1 | h1
      · left
        refine ⟨h1, ?_⟩
        refine Classical.byContradiction fun hn => ?_
        have := Int.mul_nonneg_of_nonpos_of_nonpos (a := Ma.zv p lo) (b := Ma.zv p hi) (by omega) (by omega)
        omega
      · rw [h1, Int.zero_mul] at hneg; omega
      · right
        refine ⟨h1, ?_⟩
        refine Classical.byContradiction fun hn => ?_
        have := Int.mul_nonneg (a := Ma.zv p lo) (b := Ma.zv p hi) (by omega) (by omega)
        omega
    refine while_by (fun σ H' => ∃ (l r : Int) (y6 : Option V), σ = [some (.ref a), some (.int lo), some (.int hi), some (.bl (decide (Ma.zv p lo < 0))), some (.int l), some (.int r), y6] ∧ H' = H ∧
        (lo < hi → lo ≤ l ∧ l < r ∧ r ≤ hi) ∧ (¬ lo < hi → l = lo ∧ r = hi) ∧ ((Ma.zv p lo < 0 ∧ Ma.zv p l ≤ 0 ∧ 0 < Ma.zv p r) ∨ (0 < Ma.zv p lo ∧ 0 < Ma.zv p l ∧ Ma.zv p r ≤ 0))) muC
      ⟨lo, hi, none, rfl, rfl, fun h => ⟨Int.le_refl _, h, Int.le_refl _⟩, fun _ => ⟨rfl, rfl⟩, ?_⟩ ?_ ?_
    · rcases hsg with ⟨h1, h2⟩ | ⟨h1, h2⟩
      · exact .inl ⟨h1, by omega, h2⟩
      · exact .inr ⟨h1, h1, by omega⟩
    · rintro σ H' ⟨l, r, y6, rfl, rfl, i1, i2, i3⟩
      refine ⟨_, rfl, _, rfl, _, _, rfl, rfl, _, _, rfl, rfl, _, rfl, ite2 (fun e => ?_) (fun e => ?_)⟩
      · have hgt : (1 : Int) < r - l := of_decide_eq_true e
        have hlh : lo < hi := Classical.byContradiction fun hn => by have := i2 hn; omega
        obtain ⟨j1, j2, j3⟩ := i1 hlh
        have hdiv : (l + r).fdiv 2 = (l + r) / 2 := Int.fdiv_eq_ediv_of_nonneg _ (by decide)
        obtain ⟨m, hme⟩ : ∃ m, m = (l + r).fdiv 2 := ⟨_, rfl⟩
        have hm1 : l < m := by rw [hme, hdiv]; omega
        have hm2 : m < r := by rw [hme, hdiv]; omega
        refine ⟨_, rfl, _, rfl, _, _, rfl, rfl, _, _, rfl, rfl, ⟨by decide, PyProof.noPylong_of_log2 (by decide)⟩, ?_⟩
        show gName 6 (V.int ((l + r).fdiv 2)) _ _ _
        rw [← hme]
        have hmb : m.natAbs ≤ 2 ^ 4000 := by omega
        refine ⟨_, rfl, _, rfl, a, p, m, rfl, hp, hw, hl, hmb, _, _, rfl, rfl, _, rfl, rfl, _, rfl, ite2 (fun e2 => ?_) (fun e2 => ?_)⟩
        · have e3 : decide (Ma.zv p m > 0) = decide (Ma.zv p lo < 0) := V.bl.inj (of_decide_eq_true e2)
          refine ⟨_, rfl, ⟨l, m, _, rfl, rfl, fun _ => ⟨j1, hm1, by omega⟩, fun hn => absurd hlh hn, ?_⟩, ?_⟩
          · rcases i3 with ⟨a1, a2, a3⟩ | ⟨a1, a2, a3⟩
            · rw [decide_eq_true a1] at e3
              exact .inl ⟨a1, a2, of_decide_eq_true e3⟩
            · rw [decide_eq_false (by omega : ¬ Ma.zv p lo < 0)] at e3
              have := of_decide_eq_false e3
              exact .inr ⟨a1, a2, by omega⟩
          · show (m - l).toNat < (r - l).toNat
            omega
        · have e3 : ¬ decide (Ma.zv p m > 0) = decide (Ma.zv p lo < 0) := fun h => e2 (decide_eq_true (congrArg V.bl h))
          refine ⟨_, rfl, ⟨m, r, _, rfl, rfl, fun _ => ⟨by omega, hm2, j3⟩, fun hn => absurd hlh hn, ?_⟩, ?_⟩
          · rcases i3 with ⟨a1, a2, a3⟩ | ⟨a1, a2, a3⟩
            · rw [decide_eq_true a1] at e3
              have : ¬ Ma.zv p m > 0 := fun h => e3 (decide_eq_true h)
              exact .inl ⟨a1, by omega, a3⟩
            · rw [decide_eq_false (by omega : ¬ Ma.zv p lo < 0)] at e3
              have : Ma.zv p m > 0 := Classical.byContradiction fun h => e3 (decide_eq_false h)
              exact .inr ⟨a1, this, a3⟩
          · show (r - m).toNat < (r - l).toNat
            omega
      · have hle : ¬ (1 : Int) < r - l := fun h => e (decide_eq_true h)
        refine ⟨_, rfl, q l ⟨fun hlh => ?_, fun hn => (i2 hn).1⟩ ?_⟩
        · obtain ⟨j1, j2, j3⟩ := i1 hlh
          have er : r = l + 1 := by omega
          rw [er] at i3
          exact ⟨j1, by omega, i3⟩
        · by_cases hlh : lo < hi
          · right
            obtain ⟨j1, j2, j3⟩ := i1 hlh
            exact ⟨j1, by omega⟩
          · left; exact (i2 hlh).1
    · intro σ H' Q1 Q2 hq h
      obtain ⟨v, e1, v2, e2, i, j, e3, e4, i', j', e5, e6, c, e7, h⟩ := h
      exact ⟨v, e1, v2, e2, i, j, e3, e4, i', j', e5, e6, c, e7, hq _ _ h⟩
end
end W
set_option maxRecDepth 100000
namespace W
open PySem PySem.Spec PyProof.Rows L2
/-! places next to the roots -/
theorem gaps_get {B : Int} {turns : List Int} {i : Nat} {x y : Int} (hx : ((-B) :: turns.map fun t => t + 1)[i]? = some x) (hy : (turns ++ [B])[i]? = some y) : (Ma.gaps (-B) B turns)[i]? = some (x, y) := by
  rw [← Ma.gaps_zip, List.getElem?_zip_eq_some]
  exact ⟨hx, hy⟩
theorem gaps_len (hi : Int) : ∀ (turns : List Int) (lo : Int), (Ma.gaps lo hi turns).length = turns.length + 1
  | [], _ => rfl
  | t :: ts, lo => by show (Ma.gaps (t + 1) hi ts).length + 1 = _; rw [gaps_len hi ts (t + 1)]; rfl
section
variable {P : Program} {w : World} {K : PySem.W.Frag} {mg : Str → Option Value} {base : Heap}
def spNear (K : PySem.W.Frag) : Sp := fun vs H Q _ => ∃ (a b : Addr) (p : List Rat) (turns : List Int) (M : Nat), vs = [.ref a, .ref b] ∧ PolV K H a p ∧ Ma.Wh 3600 p ∧ 1 ≤ p.length ∧ p.length ≤ 8 ∧ H b = some (.lst (turns.map V.int)) ∧ (∀ t ∈ turns, t.natAbs ≤ M) ∧ 2 ^ 3600 + 1 ≤ M ∧ M + 1 ≤ 2 ^ 3999 ∧ turns.length ≤ 20 ∧
  ∀ H' r ns B, Same H H' → H r = none → H' r = some (.lst (ns.map V.int)) → ns.Pairwise (· ≤ ·) → 1 ≤ B → (∀ c ∈ p, (c.num.natAbs : Int) ≤ B - 1) → Ma.NearZ p B turns ns → (∀ n ∈ ns, n.natAbs ≤ M + 1) → ns.length ≤ 2 * turns.length + 1 → Q (.ref r) H'
theorem ok_near_roots (T : Txt K mg) : FnOk P w K mg base CX0 3 T.f_near_roots T.e_near_roots ["p", "turns"] (spNear K) := by
  refine T.d_near_roots.F.ok sc_near_roots (fun vs H Q E h => ?_) (fun cdv A outer s H vs Q E hr h => ?_)
  · obtain ⟨a, b, p, turns, M, rfl, _⟩ := h
    rfl
  · obtain ⟨a, b, p, turns, M, rfl, hp, hw, hl1, hl8, hb, hM, hM1, hM2, ht20, q⟩ := h
    obtain ⟨ps, hps, hpR⟩ := id hp
    have hpl := hpR.len
    have hw4 : Ma.Wh 4000 p := hw.mono (by decide)
    refine ⟨_, pss_cons (ps_set (i := 2) sc_near_roots.nd rfl (.inl rfl) (pe_op op_add pe_int (pe_callB (cr_max rfl) (by rfl) T.z_max boot_max (pa_cons
        (pe_lc (own := [("number", 3)]) (g := gName 3) (tt := tYes) rfl sc_near_roots.nd (pi_list (pv 0)) (blkOk_by (N := n_near_roots) (sc := defScope s_near_roots) (by decide +kernel)) (fun _ _ _ _ _ => pg_name (i := 3) sc_near_roots.nd rfl (Or.inl rfl)) (fun _ _ _ _ _ => pts_nil)
          (fun _ _ _ _ _ => pe_callB call_abs (by rfl) T.z_abs (by decide +kernel) (pa_cons (pe_ix (show IxR _ (rIxT K) from ix_tup) (pv 3) pe_int (fun _ _ => rfl)) pa_nil))) pa_nil))))
      (pss_cons (ps_set (i := 4) sc_near_roots.nd rfl (.inl rfl) (pe_op op_cat (pe_lst (pa_cons (pe_un un_neg (pv 2)) pa_nil))
        (pe_lc (own := [("turn", 5)]) (g := gName 5) (tt := tYes) rfl sc_near_roots.nd (pi_list (pv 1)) (blkOk_by (N := n_near_roots) (sc := defScope s_near_roots) (by decide +kernel)) (fun _ _ _ _ _ => pg_name (i := 5) sc_near_roots.nd rfl (Or.inl rfl)) (fun _ _ _ _ _ => pts_nil)
          (fun _ _ _ _ _ => pe_op op_add (pv 5) pe_int))))
      (pss_cons (ps_set (i := 6) sc_near_roots.nd rfl (.inl rfl) (pe_op op_cat (pv 1) (pe_lst (pa_cons (pv 2) pa_nil))))
      (pss_cons (ps_set (i := 7) sc_near_roots.nd rfl (.inl rfl) (pe_callTy call_list_of (by rfl) T.z_list boot_list (pa_cons (pv 1) pa_nil)))
      (pss_cons (ps_for PassesOwn.never rfl (pi_zip (by rfl) T.z_zip (pa_cons (pv 4) (pa_cons (pv 6) pa_nil))) (pg_tup rfl (pgs_cons (pg_name (i := 8) sc_near_roots.nd rfl (.inl rfl)) (pgs_cons (pg_name (i := 9) sc_near_roots.nd rfl (.inl rfl)) pgs_nil)))
        (pss_one (ps_if (pt_cmpR op_lt (pe_op op_mulW (pe_D T.d_whole_at (ok_whole_at T) hr (pa_cons (pv 0) (pa_cons (pv 8) pa_nil))) (pe_D T.d_whole_at (ok_whole_at T) hr (pa_cons (pv 0) (pa_cons (pv 9) pa_nil)))) pe_int (nomark _))
          (pss_one (ps_expr (pe_bm PySem.F.plainAttrs_list PySem.F.slot_list_append PySem.F.type_list_append mt_append (pv 7) (pa_cons (pe_D T.d_crossing (ok_crossing T) hr (pa_cons (pv 0) (pa_cons (pv 8) (pa_cons (pv 9) pa_nil)))) pa_nil)))) pss_nil)))
      (pss_one (ps_ret (pe_callB cr_sorted (by rfl) T.z_sorted (by decide +kernel) (pa_cons (pv 7) pa_nil)))))))), ?_⟩
    -- bound
    refine ⟨_, rfl, a, rfl, ⟨ps, SqL.of hps⟩, fun D nD => ?_⟩
    refine lc_list (K := K) (a := a) (xs := ps) (fun i H' => Same H H' ∧ H' D = some (.lst (((p.take i).map fun c => (c.num.natAbs : Int)).map V.int))) ⟨same_upd nD, upd_same⟩ (fun i H' _ h => SqL.of (h.1 _ _ hps)) ?_ ?_
    · rintro i x H' hx ⟨sm, hD⟩
      obtain ⟨c, hc, bx, rfl, hbx⟩ := hpR.get hx
      refine ⟨rfl, _, rfl, bx, _, 0, _, rfl, rfl, Same.seqT sm hbx, atI_nat (j := 0) rfl, _, rfl, _, hD, ?_, fun b' o e => ?_, ?_⟩
      · rw [List.length_map, List.length_map, List.length_take]
        exact small1000 (by omega)
      · rw [upd_ne (ne_of_none e nD)]; exact sm _ _ e
      · rw [upd_same, List.take_add_one, hc, abs_nat, List.map_append, List.map_append]; rfl
    rintro H1 ⟨s1, hD⟩
    rw [hpl, List.take_length] at hD
    refine ⟨D, _, rfl, SqL.of hD, by rw [List.length_map]; omega, fun m hm hmax => ?_⟩
    have hmb : m.natAbs ≤ 2 ^ 3600 := by
      rw [List.mem_map] at hm
      obtain ⟨c, hc, rfl⟩ := hm
      rw [Int.natAbs_natCast]; exact (hw c hc).2
    have hm0 : 0 ≤ m := by
      rw [List.mem_map] at hm
      obtain ⟨c, hc, rfl⟩ := hm
      omega
    refine ⟨_, _, rfl, rfl, ?_⟩
    have hB1 : (1 : Int) ≤ 1 + m := by omega
    have hBc : ∀ c ∈ p, (c.num.natAbs : Int) ≤ (1 + m) - 1 := fun c hc => by
      have := hmax _ (List.mem_map.mpr ⟨c, hc, rfl⟩)
      omega
    have hBM : (1 + m).natAbs ≤ M := by omega
    clear hm hmax
    show gName 2 (V.int (1 + m)) _ _ _
    generalize (1 : Int) + m = B at hB1 hBc hBM
    -- starts
    refine ⟨_, rfl, _, rfl, (by show 1 ≤ sizeLine; decide), fun S1 nS1 => ?_⟩
    dsimp only
    have s2 := same_upd (o := .lst [.int (-B)]) nS1
    have hS1 : (upd H1 S1 (.lst [.int (-B)])) S1 = some (.lst [.int (-B)]) := upd_same
    generalize upd H1 S1 (.lst [.int (-B)]) = H2 at s2 hS1
    have hb2 := s2 _ _ (s1 _ _ hb)
    refine ⟨_, rfl, b, rfl, ⟨_, SqL.of hb2⟩, fun D2 nD2 => ?_⟩
    refine lc_list (K := K) (a := b) (xs := turns.map V.int) (fun i H' => Same H2 H' ∧ H' D2 = some (.lst (((turns.take i).map fun t => t + 1).map V.int))) ⟨same_upd nD2, upd_same⟩ (fun i H' _ h => SqL.of (h.1 _ _ hb2)) ?_ ?_
    · rintro i x H' hx ⟨sm, hD2⟩
      rw [List.getElem?_map] at hx
      obtain ⟨t, htx, rfl⟩ := Option.map_eq_some_iff.mp hx
      refine ⟨rfl, _, rfl, _, _, rfl, rfl, _, hD2, ?_, fun b' o e => ?_, ?_⟩
      · rw [List.length_map, List.length_map, List.length_take]
        exact small1000 (by omega)
      · rw [upd_ne (ne_of_none e nD2)]; exact sm _ _ e
      · rw [upd_same, List.take_add_one, htx, List.map_append, List.map_append]; rfl
    rintro H3 ⟨s3, hD2⟩
    rw [List.length_map, List.take_length] at hD2
    refine ⟨S1, D2, _, _, rfl, rfl, s3 _ _ hS1, hD2, ?_, fun S2 nS2 => ?_⟩
    · rw [List.length_map, List.length_map]
      have h1000 : (1000 : Nat) ≤ sizeLine := by decide
      show 1 + turns.length ≤ sizeLine
      omega
    have s4 := same_upd (o := .lst ([.int (-B)] ++ (turns.map fun t => t + 1).map V.int)) nS2
    have hS2 : (upd H3 S2 (.lst ([.int (-B)] ++ (turns.map fun t => t + 1).map V.int))) S2 = some (.lst (((-B) :: turns.map fun t => t + 1).map V.int)) := upd_same
    generalize upd H3 S2 (.lst ([.int (-B)] ++ (turns.map fun t => t + 1).map V.int)) = H4 at s4 hS2
    have s24 : Same H2 H4 := s3.trans s4
    -- ends
    refine ⟨_, rfl, _, rfl, (by show 1 ≤ sizeLine; decide), fun E1 nE1 => ?_⟩
    have s5 := same_upd (o := .lst [.int B]) nE1
    have hE1 : (upd H4 E1 (.lst [.int B])) E1 = some (.lst [.int B]) := upd_same
    generalize upd H4 E1 (.lst [.int B]) = H5 at s5 hE1
    have hb5 := s5 _ _ (s24 _ _ hb2)
    refine ⟨b, E1, _, _, rfl, rfl, hb5, hE1, ?_, fun E2 nE2 => ?_⟩
    · rw [List.length_map]
      have h1000 : (1000 : Nat) ≤ sizeLine := by decide
      show turns.length + 1 ≤ sizeLine
      omega
    have s6 := same_upd (o := .lst (turns.map V.int ++ [.int B])) nE2
    have hE2 : (upd H5 E2 (.lst (turns.map V.int ++ [.int B]))) E2 = some (.lst ((turns ++ [B]).map V.int)) := by rw [upd_same, List.map_append]; rfl
    generalize upd H5 E2 (.lst (turns.map V.int ++ [.int B])) = H6 at s6 hE2
    have hS6 := s6 _ _ (s5 _ _ hS2)
    have hb6 := s6 _ _ hb5
    -- found
    refine ⟨_, rfl, b, _, rfl, .inl (SqL.of hb6), fun F nF => ?_⟩
    have s7 := same_upd (o := .lst (turns.map V.int)) nF
    have hF : (upd H6 F (.lst (turns.map V.int))) F = some (.lst (turns.map V.int)) := upd_same
    generalize upd H6 F (.lst (turns.map V.int)) = H7 at s7 hF
    have hS7 := s7 _ _ hS6
    have hE7 := s7 _ _ hE2
    have s16 : Same H H6 := s1.trans (s2.trans (s24.trans (s5.trans s6)))
    have s17 : Same H H7 := s16.trans s7
    have nFH : H F = none := s16.free nF
    have hFS : F ≠ S2 := by intro e; rw [e, hS6] at nF; cases nF
    have hFE : F ≠ E2 := by intro e; rw [e, hE2] at nF; cases nF
    refine ⟨_, rfl, _, rfl, S2, E2, _, _, rfl, SqL.of hS7, SqL.of hE7, ?_⟩
    refine for_it (walk_zip (K := K) (a := S2) (b := E2) (xs := ((-B) :: turns.map fun t => t + 1).map V.int) (ys := (turns ++ [B]).map V.int) (n := turns.length + 1) (by simp)) (fun i σ H' => ∃ (y3 y5 y8 y9 : Option V) (fs : List Int), σ = [some (.ref a), some (.ref b), some (.int B), y3, some (.ref S2), y5, some (.ref E2), some (.ref F), y8, y9] ∧ Same H H' ∧ H' S2 = some (.lst (((-B) :: turns.map fun t => t + 1).map V.int)) ∧ H' E2 = some (.lst ((turns ++ [B]).map V.int)) ∧ H' F = some (.lst (fs.map V.int)) ∧
        (∀ t ∈ turns, t ∈ fs) ∧ (∀ j g, j < i → (Ma.gaps (-B) B turns)[j]? = some g → Ma.zv p g.1 * Ma.zv p g.2 < 0 → ∃ c ∈ fs, Ma.CrP p g.1 g.2 c) ∧ (∀ n ∈ fs, n.natAbs ≤ M + 1) ∧ fs.length ≤ turns.length + i)
      ⟨_, _, none, none, turns, rfl, s17, hS7, hE7, hF, fun t h => h, fun j g hj => by omega, fun n hn => by have := hM n hn; omega, by omega⟩ (fun i σ H' _ h => by obtain ⟨_, _, _, _, _, _, _, h1, h2, _⟩ := h; exact ⟨SqL.of h1, SqL.of h2⟩) ?_ ?_
    · rintro i x σ H' H'' hi ⟨y3, y5, y8, y9, fs, rfl, sm, hS', hE', hF', i1, i2, i3, i4⟩ ⟨t, x1, x2, rfl, nt, rfl, hx1, hx2⟩
      have hx1 : (((-B) :: turns.map fun t => t + 1).map V.int)[i]? = some x1 := hx1
      have hx2 : ((turns ++ [B]).map V.int)[i]? = some x2 := hx2
      rw [List.getElem?_map] at hx1 hx2
      obtain ⟨lo, hlo, rfl⟩ := Option.map_eq_some_iff.mp hx1
      obtain ⟨hi', hhi, rfl⟩ := Option.map_eq_some_iff.mp hx2
      have hg := gaps_get hlo hhi
      have blo : lo.natAbs ≤ M + 1 := by
        have := List.mem_of_getElem? hlo
        rcases List.mem_cons.mp this with e | e
        · rw [e, Int.natAbs_neg]; omega
        · rw [List.mem_map] at e
          obtain ⟨u, hu, rfl⟩ := e
          have := hM u hu
          omega
      have bhi : hi'.natAbs ≤ M + 1 := by
        have := List.mem_of_getElem? hhi
        rcases List.mem_append.mp this with e | e
        · have := hM _ e; omega
        · rw [List.mem_singleton] at e; rw [e]; omega
      have st := same_upd (o := .tup [.int lo, .int hi']) nt
      refine ⟨t, _, rfl, SqT.of upd_same, rfl, _, _, rfl, _, _, rfl, rfl, ?_⟩
      have hS'' := st _ _ hS'
      have hE'' := st _ _ hE'
      have hF'' := st _ _ hF'
      generalize upd H' t (.tup [.int lo, .int hi']) = H8 at st hS'' hE'' hF''
      have s8 := sm.trans st
      have hp8 := hp.same s8
      have c1 : lo.natAbs ≤ 2 ^ 3999 := by omega
      have c2 : hi'.natAbs ≤ 2 ^ 3999 := by omega
      have hP : (2 : Nat) ^ 3999 ≤ 2 ^ 4000 := Nat.pow_le_pow_right (by omega) (by omega)
      have c1' := Nat.le_trans c1 hP
      have c2' := Nat.le_trans c2 hP
      have hmul : CMulW (Ma.zv p lo) (Ma.zv p hi') := by
        have h1 := Ma.zv_bits c1' hw4
        have h2 := Ma.zv_bits c2' hw4
        have h3 : (4000 + 1) * p.length ≤ 4001 * 8 := Nat.mul_le_mul_left _ hl8
        exact mulW h1 h2 (by omega)
      refine ⟨_, rfl, _, rfl, a, p, lo, rfl, hp8, hw4, hl8, c1', _, rfl, _, rfl, a, p, hi', rfl, hp8, hw4, hl8, c2', _, _, rfl, rfl, hmul, _, _, rfl, rfl, _, rfl, ite2 (fun e => ?_) (fun e => ?_)⟩
      · have hneg : Ma.zv p lo * Ma.zv p hi' < 0 := of_decide_eq_true e
        refine ⟨_, rfl, .inl ⟨rfl, _, SqL.of hF''⟩, _, rfl, _, rfl, _, rfl, a, p, lo, hi', rfl, hp8, hw4, hl8, c1, c2, hneg, fun c hc hcb => ?_⟩
        refine ⟨F, fs.map V.int, _, rfl, rfl, hF'', ?_, ?_⟩
        · rw [List.length_map]
          exact small1000 (by omega)
        · refine ⟨_, _, _, _, fs ++ [c], rfl, fun b' o eo => ?_, ?_, ?_, ?_, fun u hu => List.mem_append_left _ (i1 u hu), fun j g hj hgj hn => ?_, fun n hn => ?_, ?_⟩
          · rw [upd_ne (ne_of_none eo nFH)]; exact s8 _ _ eo
          · rw [upd_ne hFS.symm]; exact hS''
          · rw [upd_ne hFE.symm]; exact hE''
          · rw [upd_same, List.map_append]; rfl
          · by_cases hji : j = i
            · subst hji
              rw [hg] at hgj
              have eg := Option.some.inj hgj
              subst eg
              exact ⟨c, List.mem_append_right _ (List.mem_singleton.mpr rfl), hc⟩
            · obtain ⟨c', h1, h2⟩ := i2 j g (by omega) hgj hn
              exact ⟨c', List.mem_append_left _ h1, h2⟩
          · rcases List.mem_append.mp hn with h1 | h1
            · exact i3 n h1
            · rw [List.mem_singleton] at h1
              subst h1
              rcases hcb with h2 | h2
              · rw [h2]; exact blo
              · omega
          · rw [List.length_append, List.length_singleton]; omega
      · have hnn : ¬ Ma.zv p lo * Ma.zv p hi' < 0 := fun h => e (decide_eq_true h)
        refine ⟨_, _, _, _, fs, rfl, s8, hS'', hE'', hF'', i1, fun j g hj hgj hn => ?_, i3, by omega⟩
        by_cases hji : j = i
        · subst hji
          rw [hg] at hgj
          have eg := Option.some.inj hgj
          subst eg
          exact absurd hn hnn
        · exact i2 j g (by omega) hgj hn
    · rintro σ H' ⟨y3, y5, y8, y9, fs, rfl, sm, hS', hE', hF', i1, i2, i3, i4⟩
      refine ⟨_, rfl, F, fs, rfl, SqL.of hF', by omega, fun ns r perm rise nr => ?_⟩
      refine q _ r ns B (sm.trans (same_upd nr)) (sm.free nr) upd_same rise hB1 hBc ⟨fun t ht => perm.mem_iff.mpr (i1 t ht), fun g hg hn => ?_⟩ (fun n hn => i3 n (perm.mem_iff.mp hn)) (by rw [perm.length_eq]; omega)
      obtain ⟨j, hj⟩ := List.getElem?_of_mem hg
      have hjl : j < turns.length + 1 := by
        have := (List.getElem?_eq_some_iff.mp hj).1
        rw [gaps_len] at this
        exact this
      obtain ⟨c, h1, h2⟩ := i2 j g hjl hj hn
      exact ⟨c, perm.mem_iff.mpr h1, h2⟩
end
end W
set_option maxRecDepth 100000
namespace W
open PySem PySem.Spec PyProof.Rows L2
/-! slopes; whole roots -/
theorem co_get {l : List Rat} {i : Nat} (h : i < l.length) : l[i] = Ma.co l i := by
  unfold Ma.co
  rw [List.getD_eq_getElem?_getD, List.getElem?_eq_getElem h]; rfl
theorem slope_drop (p : List Rat) : ((List.range p.length).map fun k => ((k : Nat) : Rat) * Ma.co p k).drop 1 = Ma.slL p := by
  apply List.ext_getElem
  · rw [List.length_drop, List.length_map, List.length_range, Ma.slL_len]
  · intro i h1 h2
    rw [co_get h2, Ma.co_slL]
    simp [Nat.add_comm]
theorem ratN {K : PySem.W.Frag} {H : Hp} {t : Addr} {n : Nat} (h : H t = some (.tup [.int (n : Int), .int 1])) : RatV K H (.ref t) ((n : Nat) : Rat) := ⟨t, rfl, SqT.of h⟩
theorem lastW {K : PySem.W.Frag} {H : Hp} {N : Addr → Prop} {ws : List V} {ls : List (List Rat)} {l : List Rat} (h : PolsN K H N ws (ls ++ [l])) : ∃ b, atI ws (-1) = some (.ref b) ∧ N b ∧ PolV K H b l := by
  obtain ⟨b, hb1, hb2, hb3⟩ := h.at (i := ls.length) (c := l) (by simp)
  have hlen : ws.length = ls.length + 1 := by rw [h.len]; simp
  have hlast : ws = ws.dropLast ++ [.ref b] := by
    have hne : ws ≠ [] := by intro e0; rw [e0] at hlen; simp at hlen
    have e1 := (List.dropLast_concat_getLast hne).symm
    rw [List.getLast_eq_getElem] at e1
    have e2 : ws[ws.length - 1]'(by omega) = .ref b := by
      obtain ⟨h1, h2⟩ := List.getElem?_eq_some_iff.mp hb1
      rw [← h2]; congr 1; omega
    rw [e2] at e1; exact e1
  exact ⟨b, by rw [hlast]; exact atI_last _ _, hb2, hb3⟩
section
variable {P : Program} {w : World} {K : PySem.W.Frag} {mg : Str → Option Value} {base : Heap}
theorem ok_poly_slope (T : Txt K mg) : FnOk P w K mg base CX0 4 T.f_poly_slope T.e_poly_slope ["p"] (spP1 K (fun p => p.length ≤ 8 ∧ ∀ c ∈ p, Fits 8000 c) Ma.slL) := by
  refine T.d_poly_slope.F.ok sc_poly_slope (fun vs H Q E h => ?_) (fun cdv A outer s H vs Q E hr h => ?_)
  · obtain ⟨a, p, rfl, _⟩ := h
    rfl
  · obtain ⟨a, p, rfl, ⟨ps, hps, hpR⟩, ⟨hl, hf⟩, q⟩ := h
    have hpl := hpR.len
    refine ⟨_, pss_one (ps_ret (pe_slice sl_list (pe_lc (own := [("power", 1), ("number", 2)]) (g := gTup K 2 (gCons (gName 1) (gCons (gName 2) gNil))) (tt := tYes) rfl sc_poly_slope.nd (pi_enum (by rfl) T.z_enumerate (pa_cons (pv 0) pa_nil)) (blkOk_by (N := n_poly_slope) (sc := defScope s_poly_slope) (by decide +kernel))
        (fun _ _ _ _ _ => pg_tup rfl (pgs_cons (pg_name (i := 1) sc_poly_slope.nd rfl (Or.inl rfl)) (pgs_cons (pg_name (i := 2) sc_poly_slope.nd rfl (Or.inl rfl)) pgs_nil))) (fun _ _ _ _ _ => pts_nil)
          (fun _ _ _ _ _ => pe_D T.d_ratio_product (ok_ratio_productG T) hr (pa_cons (pe_tup (pa_cons (pv 1) (pa_cons pe_int pa_nil))) (pa_cons (pv 2) pa_nil)))) (po_some pe_int) po_none)), ?_⟩
    refine ⟨_, rfl, a, ps, rfl, SqL.of hps, fun D nD => ?_⟩
    refine lc_it (walk_enum (K := K) (a := a) (xs := ps)) (fun i H' => Same H H' ∧ ∃ acc, H' D = some (.lst acc) ∧ Rats K H' acc ((List.range i).map fun k => ((k : Nat) : Rat) * Ma.co p k)) ⟨same_upd nD, [], upd_same, trivial⟩ (fun i H' _ h => SqL.of (h.1 _ _ hps)) ?_ ?_
    · rintro i x H' H'' hi ⟨sm, acc, hD, hacc⟩ ⟨t, x1, x2, rfl, nt, rfl, hx1, hx2⟩
      have hx1 : some (V.int (i : Nat)) = some x1 := hx1
      have hx2 : ps[i]? = some x2 := hx2
      have ex1 := (Option.some.inj hx1).symm
      subst ex1
      obtain ⟨c, hc, hv⟩ := hpR.get hx2
      have st := same_upd (o := .tup [.int (i : Nat), x2]) nt
      refine ⟨t, _, rfl, SqT.of upd_same, rfl, _, _, rfl, _, _, rfl, rfl, ?_⟩
      have hD1 := st _ _ hD
      have hacc1 := hacc.same st
      generalize upd H' t (.tup [.int (i : Nat), x2]) = H1 at st hD1 hacc1
      have s1 := sm.trans st
      refine ⟨rfl, _, rfl, (by show 2 ≤ sizeLine; decide), fun u nu => ?_⟩
      have s2 := same_upd (o := .tup [.int (i : Nat), .int 1]) nu
      have hu : (upd H1 u (.tup [.int (i : Nat), .int 1])) u = some (.tup [.int ((i : Nat) : Int), .int 1]) := upd_same
      have hD2 := s2 _ _ hD1
      have hacc2 := hacc1.same s2
      generalize upd H1 u (.tup [.int (i : Nat), .int 1]) = H2 at s2 hu hD2 hacc2
      have s12 := s1.trans s2
      have hcf := hf c (List.mem_of_getElem? hc)
      have hil : i < 8 := by omega
      refine ⟨_, rfl, .ref u, x2, ((i : Nat) : Rat), c, rfl, ratN hu, hv.same s12, ⟨⟨?_, ?_⟩, hcf.mono (by decide), .inl ?_⟩, fun H3 v3 s3 hv3 => ?_⟩
      · show ((i : Nat) : Int).natAbs ≤ 2 ^ 100000
        rw [Int.natAbs_natCast]
        exact Nat.le_trans (Nat.le_of_lt hil) (Nat.pow_le_pow_right (n := 2) (by omega) (show 3 ≤ 100000 by omega))
      · exact Nat.one_le_two_pow
      · show 1 * c.den ≤ 2 ^ 8800
        rw [Nat.one_mul]
        exact Nat.le_trans hcf.2 (Nat.pow_le_pow_right (by omega) (by omega))
      · refine ⟨acc, s3 _ _ hD2, ?_, fun b' o e => ?_, _, upd_same, ?_⟩
        · rw [hacc.len, List.length_map, List.length_range]
          exact small1000 (by omega)
        · rw [upd_ne (ne_of_none e nD)]; exact s3 _ _ (s12 _ _ e)
        · rw [List.range_succ, List.map_append]
          refine ((hacc2.same s3).snoc ?_).updL (s3 _ _ hD2)
          show RatV K H3 v3 (((i : Nat) : Rat) * Ma.co p i)
          rw [co_of hc]; exact hv3
    · rintro H' ⟨sm, acc, hD, hacc⟩
      refine ⟨1, rfl, D, acc, rfl, SqL.of hD, fun r nr => ?_⟩
      rw [show cutV acc (some 1) none = acc.drop 1 from cut_from (c := 1)]
      have sr := same_upd (o := .lst (acc.drop 1)) nr
      refine q _ r (sm.trans sr) (sm.free nr) ⟨_, upd_same, ?_⟩
      have h1 := (hacc.drop 1).same sr
      rw [hpl, slope_drop] at h1
      exact h1
def muW (σ : L2.St) (H : Hp) : Nat := match σ with
  | [_, some (.ref s), _, _, _, _] => (match H s with
    | some (.lst ws) => 10 - ws.length
    | _ => 0)
  | _ => 0
def spWR (K : PySem.W.Frag) : Sp := fun vs H Q _ => ∃ (a : Addr) (p : List Rat) (N : Nat), vs = [.ref a] ∧ PolV K H a p ∧ Ma.Tr p ∧ Ma.Wh 3590 p ∧ p.length = N + 2 ∧ N ≤ 3 ∧
  ∀ (H' : Hp) (r : Addr) (zs : List Int), Same H H' → H r = none → H' r = some (.lst (zs.map V.int)) → zs.Pairwise (· < ·) → (∀ z : Int, z ∈ zs ↔ Ma.zv p z = 0) → Q (.ref r) H'
theorem wh_fits {A : Nat} {p : List Rat} (h : Ma.Wh A p) (hA : A ≤ 8000) : ∀ c ∈ p, Fits 8000 c := fun c hc => ⟨Nat.le_trans (h c hc).2 (Nat.pow_le_pow_right (by omega) hA), by rw [(h c hc).1]; exact Nat.one_le_two_pow⟩
theorem ok_whole_roots (T : Txt K mg) : FnOk P w K mg base CX0 5 T.f_whole_roots T.e_whole_roots ["p"] (spWR K) := by
  refine T.d_whole_roots.F.ok sc_whole_roots (fun vs H Q E h => ?_) (fun cdv A outer s H vs Q E hr h => ?_)
  · obtain ⟨a, p, N, rfl, _⟩ := h
    rfl
  · obtain ⟨a, p, N, rfl, hp, tp, hw, hl, hN, q⟩ := h
    have hw4 : Ma.Wh 4000 p := hw.mono (by decide)
    refine ⟨_, pss_cons (ps_set (i := 1) sc_whole_roots.nd rfl (.inl rfl) (pe_lst (pa_cons (pv 0) pa_nil)))
      (pss_cons (ps_while PassesOwn.never (pt_cmpR op_gt (pe_callB call_len_seq (by rfl) T.z_len PySem.boot_len (pa_cons (pe_ix ix_list (pv 1) (pe_un un_neg pe_int) (fun _ _ => rfl)) pa_nil)) pe_int (nomark _))
        (pss_one (ps_expr (pe_bm PySem.F.plainAttrs_list PySem.F.slot_list_append PySem.F.type_list_append mt_append (pv 1) (pa_cons (pe_D T.d_poly_slope (ok_poly_slope T) hr (pa_cons (pe_ix ix_list (pv 1) (pe_un un_neg pe_int) (fun _ _ => rfl)) pa_nil)) pa_nil)))))
      (pss_cons (ps_set (i := 2) sc_whole_roots.nd rfl (.inl rfl) (pe_lst pa_nil))
      (pss_cons (ps_for PassesOwn.never rfl (pi_reversed (by rfl) T.z_reversed (pa_cons (pv 1) pa_nil)) (pg_name (i := 3) sc_whole_roots.nd rfl (.inl rfl))
        (pss_one (ps_set (i := 2) sc_whole_roots.nd rfl (.inl rfl) (pe_D T.d_near_roots (ok_near_roots T) hr (pa_cons (pv 3) (pa_cons (pv 2) pa_nil))))))
      (pss_cons (ps_set (i := 4) sc_whole_roots.nd rfl (.inl rfl) (pe_callB (show CallR _ (.builtin "sorted") (rSortedSet w) from cr_sortedSet rfl) (by rfl) T.z_sorted (by decide +kernel) (pa_cons (pe_callTy (show CallR _ (.type "set") (rSetL w K) from cr_setL rfl) (by rfl) T.z_set boot_set (pa_cons (pe_op op_cat (pv 2)
        (pe_lc (own := [("place", 5)]) (g := gName 5) (tt := tYes) rfl sc_whole_roots.nd (pi_list (pv 2)) (blkOk_by (N := n_whole_roots) (sc := defScope s_whole_roots) (by decide +kernel)) (fun _ _ _ _ _ => pg_name (i := 5) sc_whole_roots.nd rfl (Or.inl rfl)) (fun _ _ _ _ _ => pts_nil)
          (fun _ _ _ _ _ => pe_op op_add (pv 5) pe_int))) pa_nil)) pa_nil)))
      (pss_one (ps_ret (pe_lc (own := [("place", 5)]) (g := gName 5) (tt := tTest (tOp rEq (tCall (spWA K) [] E0 (tCons (tVar 0) (tCons (tVar 5) tNil))) (tC (.int 0)))) rfl sc_whole_roots.nd (pi_list (pv 4)) (blkOk_by (N := n_whole_roots) (sc := defScope s_whole_roots) (by decide +kernel)) (fun _ _ _ _ _ => pg_name (i := 5) sc_whole_roots.nd rfl (Or.inl rfl))
          (fun _ _ _ _ _ => pts_one (pt_cmpR op_eq (pe_D T.d_whole_at (ok_whole_at T) hr (pa_cons (pv 0) (pa_cons (pv 5) pa_nil))) pe_int (nomark _))) (fun _ _ _ _ _ => pv 5)))))))), ?_⟩
    refine ⟨_, rfl, (by show 1 ≤ sizeLine; decide), fun S nS => ?_⟩
    have s1 := same_upd (o := .lst [.ref a]) nS
    have hS : (upd H S (.lst [.ref a])) S = some (.lst [.ref a]) := upd_same
    have haS : a ≠ S := by
      obtain ⟨ws, hws, _⟩ := hp
      intro e; rw [e, nS] at hws; cases hws
    have hP0 : PolsN K (upd H S (.lst [.ref a])) (fun b => b ≠ S) [.ref a] ((List.range (0 + 1)).map (Ma.slK p)) := ⟨⟨a, rfl, haS, hp.same s1⟩, trivial⟩
    generalize upd H S (.lst [.ref a]) = H1 at s1 hS hP0
    refine while_by (fun σ H' => ∃ (k : Nat) (vs : List V), σ = [some (.ref a), some (.ref S), none, none, none, none] ∧ Same H H' ∧ k ≤ N ∧ H' S = some (.lst vs) ∧ PolsN K H' (fun b => b ≠ S) vs ((List.range (k + 1)).map (Ma.slK p))) muW
      ⟨0, [.ref a], rfl, s1, Nat.zero_le _, hS, hP0⟩ ?_ ?_
    · rintro σ H' ⟨k, vs, rfl, sm, hk, hS', hP⟩
      have hvl := hP.len
      rw [List.length_map, List.length_range] at hvl
      have hP' : PolsN K H' (fun b => b ≠ S) vs ((List.range k).map (Ma.slK p) ++ [Ma.slK p k]) := by rw [List.range_succ, List.map_append] at hP; exact hP
      obtain ⟨b, hb1, hb2, hb3⟩ := lastW hP'
      obtain ⟨us, hus, huR⟩ := id hb3
      have hul := huR.len
      rw [Ma.slK_len] at hul
      refine ⟨_, rfl, 1, rfl, S, vs, -1, _, rfl, rfl, SqL.of hS', hb1, b, us, rfl, .inl (SqL.of hus), _, _, rfl, rfl, _, rfl, ite2 (fun e => ?_) (fun e => ?_)⟩
      · have hgt : (2 : Int) < (us.length : Int) := of_decide_eq_true e
        have hkN : k + 1 ≤ N := by omega
        have hwk := Ma.slK_wh hw (by omega) k
        refine ⟨_, rfl, .inl ⟨rfl, _, SqL.of hS'⟩, _, rfl, 1, rfl, S, vs, -1, _, rfl, rfl, SqL.of hS', hb1, b, _, rfl, hb3, ⟨by rw [Ma.slK_len]; omega, wh_fits hwk (by omega)⟩, fun H2 r s2 nr hr2 => ?_⟩
        have hS2 := s2 _ _ hS'
        have hrS : r ≠ S := by intro e; rw [e, hS'] at nr; cases nr
        refine ⟨S, vs, _, rfl, rfl, hS2, ?_, ?_⟩
        · rw [hvl]; exact small1000 (by omega)
        · refine ⟨⟨k + 1, _, rfl, fun b' o eo => ?_, hkN, upd_same, ?_⟩, ?_⟩
          · rw [upd_ne (ne_of_none eo nS)]; exact s2 _ _ (sm _ _ eo)
          · rw [List.range_succ, List.map_append]
            exact ((hP.same s2).snoc hrS hr2).updN hS2 (fun _ h => h)
          · show (match (upd H2 S (.lst (vs ++ [.ref r]))) S with | some (.lst ws) => 10 - ws.length | _ => 0) < (match H' S with | some (.lst ws) => 10 - ws.length | _ => 0)
            rw [upd_same, hS']
            show 10 - (vs ++ [V.ref r]).length < 10 - vs.length
            rw [List.length_append, List.length_singleton]; omega
      · have hle : ¬ (2 : Int) < (us.length : Int) := fun h => e (decide_eq_true h)
        have ek : k = N := by omega
        subst ek
        -- near
        refine ⟨Nat.zero_le _, fun R nR => ?_⟩
        have s2 := same_upd (o := .lst []) nR
        have hR : (upd H' R (.lst [])) R = some (.lst (([] : List Int).map V.int)) := upd_same
        have hS2 := s2 _ _ hS'
        have hP2 := hP.same s2
        generalize upd H' R (.lst []) = H2 at s2 hR hS2 hP2
        have sm2 := sm.trans s2
        refine ⟨_, rfl, S, vs, rfl, SqL.of hS2, ?_⟩
        refine for_it (walk_rev (K := K) (a := S) (xs := vs)) (fun t σ H3 => ∃ (R : Addr) (y3 : Option V) (ns : List Int), σ = [some (.ref a), some (.ref S), some (.ref R), y3, none, none] ∧ Same H H3 ∧ H3 S = some (.lst vs) ∧ PolsN K H3 (fun b => b ≠ S) vs ((List.range (k + 1)).map (Ma.slK p)) ∧ H3 R = some (.lst (ns.map V.int)) ∧ Ma.Upto p k t ns ∧ (∀ n ∈ ns, n.natAbs ≤ 2 ^ 3600 + 1 + t) ∧ ns.length + 1 ≤ 2 ^ t)
          ⟨R, none, [], rfl, sm2, hS2, hP2, hR, Ma.Upto.start hl, (fun n hn => by cases hn), (by decide)⟩ (fun i σ H' _ h => by obtain ⟨_, _, _, _, _, h1, _⟩ := h; exact SqL.of h1) ?_ ?_
        · rintro t x σ H3 H3' ht ⟨R, y3, ns, rfl, sm3, hS3, hP3, hR3, up, hb3, hl3⟩ ⟨rfl, hx⟩
          have ht' : t < k + 1 := by omega
          rw [hvl, show k + 1 - 1 - t = k - t by omega] at hx
          obtain ⟨bx, lx, rfl, hlx, _, hbx⟩ := hP3.get hx
          rw [List.getElem?_map, List.getElem?_range (by omega)] at hlx
          have elx := (Option.some.inj hlx).symm
          subst elx
          have hwk := Ma.slK_wh hw (by omega) (k - t)
          have hbig : (2 : Nat) ^ 3600 + 1 + 10 ≤ 2 ^ 3999 := by
            have h1 : (2 : Nat) ^ 3600 + 2 ^ 3600 = 2 ^ 3601 := by rw [Nat.pow_succ]; omega
            have h2 : (2 : Nat) ^ 3601 ≤ 2 ^ 3999 := Nat.pow_le_pow_right (by omega) (by omega)
            have h3 : (2 : Nat) ^ 4 ≤ 2 ^ 3600 := Nat.pow_le_pow_right (by omega) (by omega)
            omega
          have h2t : (2 : Nat) ^ t ≤ 2 ^ 4 := Nat.pow_le_pow_right (by omega) (by omega)
          refine ⟨_, rfl, _, rfl, bx, R, _, ns, 2 ^ 3600 + 1 + t, rfl, hbx, hwk.mono (by omega), by rw [Ma.slK_len]; omega, by rw [Ma.slK_len]; omega, hR3, hb3, by omega, by omega, by omega, fun H4 r4 ns4 B s4 n4 h4 rise hB1 hBc hN4 hb4 hl4 => ?_⟩
          refine ⟨r4, _, ns4, rfl, sm3.trans s4, s4 _ _ hS3, hP3.same s4, h4, Ma.Upto.next tp hw hl (by omega) ht' up hB1 hBc hN4 rise, fun n hn => by have := hb4 n hn; omega, ?_⟩
          rw [Nat.pow_succ]; omega
        · rintro σ H3 ⟨R, y3, ns, rfl, sm3, hS3, hP3, hR3, up, hb3, hl3⟩
          rw [hvl] at up hb3 hl3
          have hall := up.all rfl
          have h2t : (2 : Nat) ^ (k + 1) ≤ 2 ^ 4 := Nat.pow_le_pow_right (by omega) (by omega)
          have hbig : (2 : Nat) ^ 3600 + 1 + 10 ≤ 2 ^ 4000 := by
            have h1 : (2 : Nat) ^ 3600 + 2 ^ 3600 = 2 ^ 3601 := by rw [Nat.pow_succ]; omega
            have h2 : (2 : Nat) ^ 3601 ≤ 2 ^ 4000 := Nat.pow_le_pow_right (by omega) (by omega)
            have h3 : (2 : Nat) ^ 4 ≤ 2 ^ 3600 := Nat.pow_le_pow_right (by omega) (by omega)
            omega
          -- near + [place + 1 ..]
          refine ⟨_, rfl, _, rfl, R, rfl, ⟨_, SqL.of hR3⟩, fun D nD => ?_⟩
          refine lc_list (K := K) (a := R) (xs := ns.map V.int) (fun i H' => Same H3 H' ∧ H' D = some (.lst (((ns.take i).map fun t => t + 1).map V.int))) ⟨same_upd nD, upd_same⟩ (fun i H' _ h => SqL.of (h.1 _ _ hR3)) ?_ ?_
          · rintro i x H' hx ⟨sm', hD⟩
            rw [List.getElem?_map] at hx
            obtain ⟨t, htx, rfl⟩ := Option.map_eq_some_iff.mp hx
            refine ⟨rfl, _, rfl, _, _, rfl, rfl, _, hD, ?_, fun b' o e => ?_, ?_⟩
            · rw [List.length_map, List.length_map, List.length_take]
              exact small1000 (by omega)
            · rw [upd_ne (ne_of_none e nD)]; exact sm' _ _ e
            · rw [upd_same, List.take_add_one, htx, List.map_append, List.map_append]; rfl
          rintro H4 ⟨s4, hD⟩
          rw [List.length_map, List.take_length] at hD
          refine ⟨R, D, _, _, rfl, rfl, s4 _ _ hR3, hD, ?_, fun C nC => ?_⟩
          · rw [List.length_map, List.length_map, List.length_map]
            have h1000 : (1000 : Nat) ≤ sizeLine := by decide
            omega
          have s5 := same_upd (o := .lst (ns.map V.int ++ (ns.map fun t => t + 1).map V.int)) nC
          have hC : (upd H4 C (.lst (ns.map V.int ++ (ns.map fun t => t + 1).map V.int))) C = some (.lst ((ns ++ ns.map fun t => t + 1).map V.int)) := by rw [upd_same, List.map_append]
          generalize upd H4 C (.lst (ns.map V.int ++ (ns.map fun t => t + 1).map V.int)) = H5 at s5 hC
          refine ⟨C, ns ++ ns.map fun t => t + 1, rfl, SqL.of hC, by rw [List.length_append, List.length_map]; omega, fun Z nz hZ hnz => ?_⟩
          have s6 := same_upd (o := SetO w Z (fun k => decide (k ∈ ns ++ ns.map fun t => t + 1)) nz) hZ
          have hZ6 : (upd H5 Z (SetO w Z (fun k => decide (k ∈ ns ++ ns.map fun t => t + 1)) nz)) Z = some (SetO w Z (fun k => decide (k ∈ ns ++ ns.map fun t => t + 1)) nz) := upd_same
          generalize upd H5 Z (SetO w Z (fun k => decide (k ∈ ns ++ ns.map fun t => t + 1)) nz) = H6 at s6 hZ6
          refine ⟨Z, _, nz, rfl, hZ6, by rw [List.length_append, List.length_map] at hnz; omega, fun qs Y rise hmem hql hY => ?_⟩
          have s7 := same_upd (o := .lst (qs.map V.int)) hY
          have hY7 : (upd H6 Y (.lst (qs.map V.int))) Y = some (.lst (qs.map V.int)) := upd_same
          generalize upd H6 Y (.lst (qs.map V.int)) = H7 at s7 hY7
          have s37 : Same H H7 := sm3.trans (s4.trans (s5.trans (s6.trans s7)))
          have hqb : ∀ z ∈ qs, z.natAbs ≤ 2 ^ 4000 := fun z hz => by
            have h1 := of_decide_eq_true ((hmem z).mp hz)
            rcases List.mem_append.mp h1 with h2 | h2
            · have := hb3 z h2; omega
            · rw [List.mem_map] at h2
              obtain ⟨u, hu, rfl⟩ := h2
              have := hb3 u hu
              omega
          -- the roots among them
          refine ⟨_, rfl, Y, rfl, ⟨_, SqL.of hY7⟩, fun D2 nD2 => ?_⟩
          refine lc_list (K := K) (a := Y) (xs := qs.map V.int) (fun i H' => Same H7 H' ∧ H' D2 = some (.lst (((qs.take i).filter fun z => decide (Ma.zv p z = 0)).map V.int))) ⟨same_upd nD2, upd_same⟩ (fun i H' _ h => SqL.of (h.1 _ _ hY7)) ?_ ?_
          · rintro i x H' hx ⟨sm', hD2⟩
            rw [List.getElem?_map] at hx
            obtain ⟨z, hzx, rfl⟩ := Option.map_eq_some_iff.mp hx
            have hzm := List.mem_of_getElem? hzx
            refine ⟨rfl, _, rfl, _, rfl, a, p, z, rfl, (hp.same s37).same sm', hw4, by omega, hqb z hzm, rfl, _, rfl, ite2 (fun e => ?_) (fun e => ?_)⟩
            · have e0 : Ma.zv p z = 0 := V.int.inj (of_decide_eq_true e)
              refine ⟨_, rfl, _, hD2, ?_, fun b' o eo => ?_, ?_⟩
              · rw [List.length_map]
                refine small1000 ?_
                have h1 := List.length_filter_le (fun z => decide (Ma.zv p z = 0)) (qs.take i)
                rw [List.length_take] at h1
                rw [List.length_append, List.length_map] at hnz
                omega
              · rw [upd_ne (ne_of_none eo nD2)]; exact sm' _ _ eo
              · rw [upd_same, List.take_add_one, hzx, List.filter_append, List.map_append]
                simp [e0]
            · have e0 : ¬ Ma.zv p z = 0 := fun h => e (decide_eq_true (congrArg V.int h))
              refine ⟨sm', ?_⟩
              rw [hD2, List.take_add_one, hzx, List.filter_append, List.map_append]
              simp [e0]
          · rintro H8 ⟨s8, hD2⟩
            rw [List.length_map, List.take_length] at hD2
            refine q H8 D2 _ (s37.trans s8) (s37.free nD2) hD2 (rise.filter _) fun z => ?_
            rw [List.mem_filter, hmem z, decide_eq_true_eq, decide_eq_true_eq]
            constructor
            · exact fun h => h.2
            · intro h
              refine ⟨?_, h⟩
              rcases hall z h with h1 | h1
              · exact List.mem_append_left _ h1
              · exact List.mem_append_right _ (List.mem_map.mpr ⟨z - 1, h1, by omega⟩)
    · intro σ H' Q1 Q2 hq h
      obtain ⟨v, e1, i, e2, p', ys, j, v2, e3, e4, h1, h2, p2, us, e5, h3, i', j', e6, e7, c, e8, h⟩ := h
      exact ⟨v, e1, i, e2, p', ys, j, v2, e3, e4, h1, h2, p2, us, e5, h3, i', j', e6, e7, c, e8, hq _ _ h⟩
end
end W
set_option maxRecDepth 100000
namespace W
open PySem PySem.Spec PyProof.Rows L2
/-! fractions that are roots -/
/-- the least whole number that all bottoms go into -/
def lcmL (p : List Rat) : Nat := p.foldl (fun g c => Nat.lcm g c.den) 1
theorem lcmL_snoc (p : List Rat) (c : Rat) : lcmL (p ++ [c]) = Nat.lcm (lcmL p) c.den := by unfold lcmL; rw [List.foldl_append]; rfl
theorem lcmL_spec (p : List Rat) : 0 < lcmL p ∧ ∀ c ∈ p, c.den ∣ lcmL p := by
  have h := Ma.lcm_fold (fun c : Rat => c.den) (fun c => c.den_pos) p 1 (by decide)
  exact ⟨h.1, h.2.2⟩
theorem lcm_fold_dvd {D : Nat} : ∀ (p : List Rat) (g : Nat), g ∣ D → (∀ c ∈ p, c.den ∣ D) → p.foldl (fun g c => Nat.lcm g c.den) g ∣ D
  | [], g, h, _ => h
  | c :: p, g, h, hc => lcm_fold_dvd p _ (Nat.lcm_dvd h (hc c List.mem_cons_self)) fun d hd => hc d (List.mem_cons_of_mem _ hd)
theorem lcmL_dvd {D : Nat} {p : List Rat} (h : ∀ c ∈ p, c.den ∣ D) : lcmL p ∣ D := lcm_fold_dvd p 1 (Nat.one_dvd _) h
theorem den_dvdD {c : Rat} {D : Nat} {y : Int} (e : (D : Rat) * c = (y : Rat)) : c.den ∣ D := by
  have h1 := Ma.mul_den c
  have h2 : (D : Int) * c.num = y * (c.den : Int) := by
    have : (((D : Int) * c.num : Int) : Rat) = ((y * (c.den : Int) : Int) : Rat) := by
      rw [Rat.intCast_mul, Rat.intCast_mul, ← h1, ← e]
      have e1 : (((D : Nat) : Int) : Rat) = (D : Rat) := rfl
      have e2 : (((c.den : Nat) : Int) : Rat) = (c.den : Rat) := rfl
      rw [e1, e2]; grind
    exact Rat.intCast_inj.mp this
  have h3 : c.den ∣ c.num.natAbs * D := by
    have := congrArg Int.natAbs h2
    rw [Int.natAbs_mul, Int.natAbs_mul, Int.natAbs_natCast, Int.natAbs_natCast] at this
    exact ⟨y.natAbs, by rw [Nat.mul_comm c.num.natAbs, this, Nat.mul_comm]⟩
  exact (Nat.Coprime.symm c.reduced).dvd_of_dvd_mul_left h3
theorem htp_dens {p : List Rat} {a : Nat} (h : Ma.HtP p a) : ∃ D, 0 < D ∧ D ≤ 2 ^ a ∧ ∀ c ∈ p, c.den ∣ D := by
  obtain ⟨D, h1, h2, h3⟩ := h
  refine ⟨D, h1, h2, fun c hc => ?_⟩
  obtain ⟨i, hi, e⟩ := List.getElem_of_mem hc
  obtain ⟨y, e1, _⟩ := h3 i
  rw [co_of (List.getElem?_eq_getElem hi), e] at e1
  exact den_dvdD e1
theorem Rats.reverse {K : PySem.W.Frag} {H : Hp} : ∀ {vs : List V} {l : List Rat}, Rats K H vs l → Rats K H vs.reverse l.reverse
  | [], [], _ => trivial
  | v :: vs, c :: l, h => by
    rw [List.reverse_cons, List.reverse_cons]
    exact (Rats.reverse h.2).snoc h.1
  | [], _ :: _, h => h.elim
  | _ :: _, [], h => h.elim
theorem lcm_step {L d : Nat} (hL : 0 < L) : ((L : Int).fdiv ((Nat.gcd L d : Nat) : Int)) * ((d : Nat) : Int) = ((Nat.lcm L d : Nat) : Int) := by
  rw [Int.fdiv_eq_ediv_of_nonneg _ (by omega), ← Int.natCast_ediv, ← Int.natCast_mul]
  congr 1
  unfold Nat.lcm
  rw [Nat.div_mul_right_comm (Nat.gcd_dvd_left L d)]
section
variable {P : Program} {w : World} {K : PySem.W.Frag} {mg : Str → Option Value} {base : Heap}
def spCB (K : PySem.W.Frag) : Sp := fun vs H Q _ => ∃ (a : Addr) (p : List Rat) (D : Nat), vs = [.ref a] ∧ PolV K H a p ∧ 0 < D ∧ D ≤ 2 ^ 600 ∧ (∀ c ∈ p, c.den ∣ D) ∧ Q (.int ((lcmL p : Nat) : Int)) H
theorem ok_common_bottom (T : Txt K mg) : FnOk P w K mg base CX0 2 T.f_common_bottom T.e_common_bottom ["p"] (spCB K) := by
  refine T.d_common_bottom.F.ok sc_common_bottom (fun vs H Q E h => ?_) (fun cdv A outer s H vs Q E hr h => ?_)
  · obtain ⟨a, p, D, rfl, _⟩ := h
    rfl
  · obtain ⟨a, p, D, rfl, ⟨ps, hps, hpR⟩, hD, hDb, hd, q⟩ := h
    have hpl := hpR.len
    refine ⟨_, pss_cons (ps_set (i := 1) sc_common_bottom.nd rfl (.inl rfl) pe_int)
      (pss_cons (ps_for PassesOwn.never rfl (pi_list (pv 0)) (pg_name (i := 2) sc_common_bottom.nd rfl (.inl rfl))
        (pss_one (ps_set (i := 1) sc_common_bottom.nd rfl (.inl rfl) (pe_op op_mulW (pe_op op_fdivX (pv 1) (pe_D T.d_whole_common (ok_whole_common T) hr (pa_cons (pv 1) (pa_cons (pe_ix ix_tup (pv 2) pe_int (fun _ _ => rfl)) pa_nil)))) (pe_ix ix_tup (pv 2) pe_int (fun _ _ => rfl))))))
      (pss_one (ps_ret (pv 1)))), ?_⟩
    refine ⟨_, rfl, a, rfl, ⟨ps, SqL.of hps⟩, ?_⟩
    refine for_list (K := K) (a := a) (xs := ps) (fun i σ H' => ∃ (y2 : Option V), σ = [some (.ref a), some (.int ((lcmL (p.take i) : Nat) : Int)), y2] ∧ H' = H)
      ⟨none, rfl, rfl⟩ (fun i σ H' _ h => by obtain ⟨_, _, rfl⟩ := h; exact SqL.of hps) ?_ ?_
    · rintro i x σ H' hx ⟨y2, rfl, rfl⟩
      obtain ⟨c, hc, b, rfl, hb⟩ := hpR.get hx
      have hL := (lcmL_spec (p.take i)).1
      have hLD : lcmL (p.take i) ∣ D := lcmL_dvd fun d hd' => hd d (List.mem_of_mem_take hd')
      have hLb := Nat.le_trans (Nat.le_of_dvd hD hLD) hDb
      have hcd := hd c (List.mem_of_getElem? hc)
      have hcb := Nat.le_trans (Nat.le_of_dvd hD hcd) hDb
      have hg : 0 < Nat.gcd (lcmL (p.take i)) c.den := Nat.gcd_pos_of_pos_left _ hL
      have hgb : Nat.gcd (lcmL (p.take i)) c.den ≤ 2 ^ 600 := Nat.le_trans (Nat.gcd_le_left _ hL) hLb
      have hdv : CDivX ((lcmL (p.take i) : Nat) : Int) ((Nat.gcd (lcmL (p.take i)) c.den : Nat) : Int) := ⟨by omega, PyProof.noPylong_of_log2 (by
        rw [Int.natAbs_natCast]
        have := log2_le hgb
        omega)⟩
      have hq : (((lcmL (p.take i) : Nat) : Int).fdiv ((Nat.gcd (lcmL (p.take i)) c.den : Nat) : Int)).natAbs ≤ 2 ^ 600 := by
        rw [Int.fdiv_eq_ediv_of_nonneg _ (by omega), ← Int.natCast_ediv, Int.natAbs_natCast]
        exact Nat.le_trans (Nat.div_le_self _ _) hLb
      refine ⟨_, rfl, _, rfl, _, rfl, b, _, 1, _, rfl, rfl, hb, atI_nat (j := 1) rfl, lcmL (p.take i), c.den, rfl, _, _, rfl, rfl, hdv, _, rfl, b, _, 1, _, rfl, rfl, hb, atI_nat (j := 1) rfl, _, _, rfl, rfl, mulW hq (natc hcb) (by decide), ?_⟩
      refine ⟨some (V.ref b), ?_, rfl⟩
      rw [List.take_add_one, hc]
      show [some (V.ref a), some (V.int (((lcmL (p.take i) : Nat) : Int).fdiv ((Nat.gcd (lcmL (p.take i)) c.den : Nat) : Int) * ((c.den : Nat) : Int))), some (V.ref b)] = [some (V.ref a), some (V.int ((lcmL (p.take i ++ [c]) : Nat) : Int)), some (V.ref b)]
      rw [lcm_step hL, lcmL_snoc]
    · rintro σ H' ⟨y2, rfl, rfl⟩
      refine ⟨_, rfl, ?_⟩
      rw [hpl, List.take_length]
      exact q
def spSt (K : PySem.W.Frag) : Sp := fun vs H Q _ => ∃ (a : Addr) (p : List Rat) (F : Nat), vs = [.ref a, .int F] ∧ PolV K H a p ∧ p.length ≤ 8 ∧ F ≤ 2 ^ 600 ∧ (∀ c ∈ p, Fits 600 c) ∧
  ∀ H' r, Same H H' → H r = none → PolV K H' r (Ma.stL F p) → Q (.ref r) H'
theorem ok_stretched (T : Txt K mg) : FnOk P w K mg base CX0 4 T.f_stretched T.e_stretched ["p", "factor"] (spSt K) := by
  refine T.d_stretched.F.ok sc_stretched (fun vs H Q E h => ?_) (fun cdv A outer s H vs Q E hr h => ?_)
  · obtain ⟨a, p, F, rfl, _⟩ := h
    rfl
  · obtain ⟨a, p, F, rfl, ⟨ps, hps, hpR⟩, hl, hF, hf, q⟩ := h
    have hpl := hpR.len
    refine ⟨_, pss_cons (ps_set (i := 2) sc_stretched.nd rfl (.inl rfl) (pe_lst pa_nil))
      (pss_cons (ps_set (i := 3) sc_stretched.nd rfl (.inl rfl) pe_int)
      (pss_cons (ps_for PassesOwn.never rfl (pi_reversed (by rfl) T.z_reversed (pa_cons (pv 0) pa_nil)) (pg_name (i := 4) sc_stretched.nd rfl (.inl rfl))
        (pss_cons (ps_expr (pe_bm PySem.F.plainAttrs_list PySem.F.slot_list_append PySem.F.type_list_append mt_append (pv 2) (pa_cons (pe_D T.d_ratio_product (ok_ratio_productG T) hr (pa_cons (pv 4) (pa_cons (pe_tup (pa_cons (pv 3) (pa_cons pe_int pa_nil))) pa_nil))) pa_nil)))
        (pss_one (ps_set (i := 3) sc_stretched.nd rfl (.inl rfl) (pe_op op_mulW (pv 3) (pv 1))))))
      (pss_one (ps_ret (pe_listRev rfl (by rfl) T.z_list (by rfl) T.z_reversed (pv 2)))))), ?_⟩
    refine ⟨Nat.zero_le _, fun R nR => ?_⟩
    have s1 := same_upd (o := .lst []) nR
    have hR : (upd H R (.lst [])) R = some (.lst []) := upd_same
    generalize upd H R (.lst []) = H1 at s1 hR
    refine ⟨_, rfl, a, ps, rfl, SqL.of (s1 _ _ hps), ?_⟩
    have h1F : ((1 : Nat) : Int) = 1 := rfl
    refine for_it (walk_rev (K := K) (a := a) (xs := ps)) (fun t σ H' => ∃ (y4 : Option V) (acc : List V), σ = [some (.ref a), some (.int (F : Int)), some (.ref R), some (.int ((F ^ t : Nat) : Int)), y4] ∧ Same H H' ∧ H' R = some (.lst acc) ∧ Rats K H' acc (Ma.stL F (p.drop (p.length - t))).reverse)
      ⟨none, [], by rw [Nat.pow_zero]; rfl, s1, hR, by rw [Nat.sub_zero, List.drop_length]; trivial⟩ (fun i σ H' _ h => by obtain ⟨_, _, _, sm, _⟩ := h; exact SqL.of (sm _ _ hps)) ?_ ?_
    · rintro t x σ H0 H' ht ⟨y4, acc, rfl, sm, hR', hacc⟩ ⟨rfl, hx⟩
      obtain ⟨c, hc, hv⟩ := hpR.get hx
      have htp : t < p.length := by omega
      rw [show ps.length - 1 - t = p.length - 1 - t by omega] at hc
      have hcf := hf c (List.mem_of_getElem? hc)
      have hFt : F ^ t ≤ 2 ^ 4800 := by
        have h1 := Nat.pow_le_pow_left hF t
        rw [← Nat.pow_mul] at h1
        exact Nat.le_trans h1 (Nat.pow_le_pow_right (by omega) (by omega))
      refine ⟨_, rfl, .inl ⟨rfl, _, SqL.of hR'⟩, _, rfl, _, rfl, (by show 2 ≤ sizeLine; decide), fun u nu => ?_⟩
      have s2 := same_upd (o := .tup [.int ((F ^ t : Nat) : Int), .int 1]) nu
      have hu : (upd H' u (.tup [.int ((F ^ t : Nat) : Int), .int 1])) u = some (.tup [.int ((F ^ t : Nat) : Int), .int 1]) := upd_same
      have hR2 := s2 _ _ hR'
      have hacc2 := hacc.same s2
      generalize upd H' u (.tup [.int ((F ^ t : Nat) : Int), .int 1]) = H2 at s2 hu hR2 hacc2
      have sm2 := sm.trans s2
      refine ⟨x, .ref u, c, ((F ^ t : Nat) : Rat), rfl, hv.same sm2, ratN hu, ⟨hcf.mono (by decide), ⟨?_, Nat.one_le_two_pow⟩, .inl ?_⟩, fun H3 v3 s3 hv3 => ?_⟩
      · show ((F ^ t : Nat) : Int).natAbs ≤ 2 ^ 100000
        rw [Int.natAbs_natCast]
        exact Nat.le_trans hFt (Nat.pow_le_pow_right (by omega) (by omega))
      · show c.den * 1 ≤ 2 ^ 8800
        rw [Nat.mul_one]
        exact Nat.le_trans hcf.2 (Nat.pow_le_pow_right (by omega) (by omega))
      · have hR3 := s3 _ _ hR2
        refine ⟨R, acc, _, rfl, rfl, hR3, ?_, ?_⟩
        · rw [hacc.len, List.length_reverse, Ma.stL_len, List.length_drop]
          exact small1000 (by omega)
        · refine ⟨_, rfl, _, rfl, _, _, rfl, rfl, mulW (a := 4800) (b := 600) (natc hFt) (natc hF) (by decide), ?_⟩
          have hP : ((F ^ t : Nat) : Int) * (F : Int) = ((F ^ (t + 1) : Nat) : Int) := by rw [Nat.pow_succ, Int.natCast_mul]
          refine ⟨some x, acc ++ [v3], ?_, fun b' o eo => ?_, upd_same, ?_⟩
          · show [some (V.ref a), some (V.int (F : Int)), some (V.ref R), some (V.int (((F ^ t : Nat) : Int) * (F : Int))), some x] = _
            rw [hP]
          · rw [upd_ne (ne_of_none eo nR)]; exact s3 _ _ (sm2 _ _ eo)
          · rw [drop_step htp hc]
            show Rats K _ (acc ++ [v3]) (c * ((F ^ (p.drop (p.length - t)).length : Nat) : Rat) :: Ma.stL F (p.drop (p.length - t))).reverse
            rw [List.reverse_cons]
            refine ((hacc2.same s3).snoc ?_).updL hR3
            rw [List.length_drop, show p.length - (p.length - t) = t by omega]
            exact hv3
    · rintro σ H' ⟨y4, acc, rfl, sm, hR', hacc⟩
      refine ⟨_, rfl, R, acc, rfl, SqL.of hR', fun r nr => ?_⟩
      have sr := same_upd (o := .lst acc.reverse) nr
      refine q _ r (sm.trans sr) (sm.free nr) ⟨_, upd_same, ?_⟩
      rw [hpl, Nat.sub_self, List.drop_zero] at hacc
      have := (Rats.reverse hacc).same sr
      rw [List.reverse_reverse] at this
      exact this
def spRoots (K : PySem.W.Frag) : Sp := fun vs H Q _ => ∃ (a : Addr) (p : Ma.P), vs = [.ref a] ∧ PolV K H a p.1 ∧ p.ld = 1 ∧ 2 ≤ p.len ∧ p.len ≤ 5 ∧ Ma.HtP p.1 598 ∧
  ∀ H' r, Same H H' → H r = none → PolV K H' r (Al03.ratRoots p.1) → Q (.ref r) H'
theorem ok_roots_of (T : Txt K mg) : FnOk P w K mg base CX0 6 T.f_roots_of T.e_roots_of ["p"] (spRoots K) := by
  refine T.d_roots_of.F.ok sc_roots_of (fun vs H Q E h => ?_) (fun cdv A outer s H vs Q E hr h => ?_)
  · obtain ⟨a, p, rfl, _⟩ := h
    rfl
  · obtain ⟨a, p, rfl, hp, h1, h2, h5, hht, q⟩ := h
    have hpl : p.1.length = p.len := rfl
    have hp0 : p ≠ 0 := fun e => by rw [e, Ma.P.len_zero] at h2; omega
    have hpne : p.1 ≠ [] := fun e => hp0 (Ma.P.eq_zero_iff.mpr e)
    refine ⟨_, pss_cons (ps_set (i := 1) sc_roots_of.nd rfl (.inr rfl) (pe_D T.d_common_bottom (ok_common_bottom T) hr (pa_cons (pv 0) pa_nil)))
      (pss_one (ps_ret (pe_lc (own := [("place", 2)]) (g := gName 2) (tt := tYes) rfl sc_roots_of.nd (pi_list (pe_D T.d_whole_roots (ok_whole_roots T) hr (pa_cons (pe_D T.d_stretched (ok_stretched T) hr (pa_cons (pv 0) (pa_cons (pv 1) pa_nil))) pa_nil))) (blkOk_by (N := n_roots_of) (sc := defScope s_roots_of) (by decide +kernel)) (fun _ _ _ _ _ => pg_name (i := 2) sc_roots_of.nd rfl (Or.inl rfl)) (fun _ _ _ _ _ => pts_nil)
          (fun _ _ _ _ _ => pe_D T.d_lowest (ok_lowest T) hr (pa_cons (pv 2) (pa_cons (pv 1) pa_nil)))))), ?_⟩
    obtain ⟨D, hD, hDb, hdv⟩ := htp_dens hht
    have hnum := hht.num
    have hDb6 : D ≤ 2 ^ 600 := Nat.le_trans hDb (Nat.pow_le_pow_right (by omega) (by omega))
    obtain ⟨hFp, hFd⟩ := lcmL_spec p.1
    have hFD : lcmL p.1 ≤ 2 ^ 598 := Nat.le_trans (Nat.le_of_dvd hD (lcmL_dvd hdv)) hDb
    refine ⟨_, rfl, a, p.1, D, rfl, hp, hD, hDb6, hdv, ?_⟩
    generalize lcmL p.1 = F at hFp hFd hFD
    have hF6 : F ≤ 2 ^ 600 := Nat.le_trans hFD (Nat.pow_le_pow_right (by omega) (by omega))
    refine ⟨_, rfl, _, rfl, a, p.1, F, rfl, hp, by omega, hF6, fun c hc => Fits.mono (hnum c hc) (by omega), fun H1 r1 s1 n1 hr1 => ?_⟩
    have hW := Ma.stL_wh hFp hFD p.1 (fun c hc => ⟨hFd c hc, (hnum c hc).1⟩) h1
    have hW' : Ma.Wh 3590 (Ma.stL F p.1) := hW.mono (by
      have : 598 * (p.1.length - 1) ≤ 598 * 4 := Nat.mul_le_mul_left _ (by omega)
      omega)
    have hTr : Ma.Tr (Ma.stL F p.1) := Ma.tr_of_lead fun _ => by
      rw [Ma.stL_lead]
      show p.ld ≠ 0
      rw [h1]; decide
    refine ⟨r1, Ma.stL F p.1, p.len - 2, rfl, hr1, hTr, hW', by rw [Ma.stL_len]; omega, by omega, fun H2 r2 zs s2 n2 h2' rise hmem => ?_⟩
    have hroots := Ma.roots_by hp0 h1 hFp hW rise hmem
    have s12 := s1.trans s2
    have hzl : zs.length ≤ 8 := by
      have hP := Ma.ratRoots_spec hp0
      have := Ma.roots_le (Al03.ratRoots p.1) p hp0 hP.1 fun r hr' => (hP.2 r).mp hr'
      rw [hroots, List.length_map] at this
      omega
    refine ⟨r2, rfl, ⟨_, SqL.of h2'⟩, fun D2 nD2 => ?_⟩
    refine lc_list (K := K) (a := r2) (xs := zs.map V.int) (fun i H' => Same H2 H' ∧ ∃ acc, H' D2 = some (.lst acc) ∧ Rats K H' acc ((zs.take i).map fun (z : Int) => (z : Rat) / (F : Rat))) ⟨same_upd nD2, [], upd_same, trivial⟩ (fun i H' _ h => SqL.of (h.1 _ _ h2')) ?_ ?_
    · rintro i x H' hx ⟨sm, acc, hD2, hacc⟩
      rw [List.getElem?_map] at hx
      obtain ⟨z, hz, rfl⟩ := Option.map_eq_some_iff.mp hx
      refine ⟨rfl, _, rfl, _, rfl, z, (F : Int), rfl, by omega, .inl (by rw [Int.natAbs_natCast]; exact Nat.le_trans hF6 (Nat.pow_le_pow_right (by omega) (by omega))), fun H3 v3 s3 hv3 => ?_⟩
      refine ⟨acc, s3 _ _ hD2, ?_, fun b' o e => ?_, _, upd_same, ?_⟩
      · rw [hacc.len, List.length_map, List.length_take]
        exact small1000 (by omega)
      · rw [upd_ne (ne_of_none e nD2)]; exact s3 _ _ (sm _ _ e)
      · rw [List.take_add_one, hz, List.map_append]
        refine ((hacc.same s3).snoc ?_).updL (s3 _ _ hD2)
        show RatV K H3 v3 ((z : Rat) / (F : Rat))
        have e9 : (z : Rat) / (F : Rat) = Rat.divInt z (F : Int) := (Rat.divInt_eq_div z (F : Int)).symm
        rw [e9]; exact hv3
    · rintro H' ⟨sm, acc, hD2, hacc⟩
      rw [List.length_map, List.take_length, ← hroots] at hacc
      exact q H' D2 (s12.trans sm) (s12.free nD2) ⟨acc, hD2, hacc⟩
end
end W
set_option maxRecDepth 100000
namespace W
open PySem PySem.Spec PyProof.Rows L2
theorem fNone {n : Nat} {t : Al09.Table} (sq : Ma.Sq n t) : ∀ i, i ≤ n → formsTo t i = [] → Ma.dP t i = 1
  | 0, _, _ => Ma.dP_zero t
  | i + 1, hi, h => by
    rw [formsTo_succ sq (by omega)] at h
    by_cases hf : (Ma.fP t i).1 = [1]
    · rw [if_pos hf] at h
      have ih := fNone sq i (by omega) h
      have hd := (Ma.fP_all sq (show i < n by omega)).1
      have h1 : Ma.fP t i = 1 := Subtype.ext (by rw [hf, Ma.P.one_val]; rfl)
      rw [hd, ih, h1]; grind
    · rw [if_neg hf] at h
      simp at h
theorem formsNe {n : Nat} {t : Al09.Table} (sq : Ma.Sq n t) (hn : 1 ≤ n) : Ma.formsP t ≠ [] := by
  intro h
  have h0 : Al09.forms t = [] := by rw [Ma.forms_val sq, h]; rfl
  rw [← formsTo_all sq] at h0
  have h1 := fNone sq n (Nat.le_refl n) h0
  have h2 := (Ma.charP_top sq).1
  rw [← Ma.dP_last sq, h1, Ma.P.len_one] at h2
  omega
/-- the last form -/
theorem lastForm {n : Nat} {t : Al09.Table} (sq : Ma.Sq n t) (hn : 1 ≤ n) : ∃ (l : List (List Rat)) (f : Ma.P), f ∈ Ma.formsP t ∧ Al09.forms t = l ++ [f.1] ∧ Al09.least t = f.1 := by
  rcases List.eq_nil_or_concat (Ma.formsP t) with h | ⟨m, f, h⟩
  · exact absurd h (formsNe sq hn)
  · rw [List.concat_eq_append] at h
    have e : Al09.forms t = m.map (fun p => p.1) ++ [f.1] := by rw [Ma.forms_val sq, h, List.map_append]; rfl
    refine ⟨m.map fun p => p.1, f, by rw [h]; simp, e, ?_⟩
    unfold Al09.least
    rw [e]; simp
/-! by its slope -/
def simpleM (p : List Rat) : Nat := if 1 < (AlOne.common p (AlOne.slope p)).length then 0 else if (Al03.ratRoots p).length = AlOne.degree p then 2 else 1
theorem chk_slope : ∀ l, l < 6 → l < 2 ∨ (chk l (l - 1) (bt l) (bt l + 3) (bt l + 3) = true ∧ bt l + (l + 1 - (l - 1)) * (bt l + 3 + 1) ≤ LIM) := by decide +kernel
theorem ht_slope {p : Ma.P} {D m : Nat} (h : Ma.HtD p D m) (hl : p.len ≤ 8) : Ma.HtD (Ma.Dp p) D (m + 3) := by
  rw [Ma.htD_iff] at h ⊢
  intro i
  by_cases hi : i + 1 < p.len
  · obtain ⟨y, e, hy⟩ := h (i + 1)
    refine ⟨((i + 1 : Nat) : Int) * y, ?_, ?_⟩
    · rw [Ma.c_Dp, Rat.intCast_mul, ← e]
      have : (((i + 1 : Nat) : Int) : Rat) = ((i + 1 : Nat) : Rat) := rfl
      rw [this]; grind
    · unfold Ma.B at *
      rw [Int.natAbs_mul, Int.natAbs_natCast, Nat.pow_add, Nat.mul_comm]
      exact Nat.mul_le_mul hy (by omega)
  · refine ⟨0, ?_, Ma.B.zero _⟩
    rw [Ma.c_Dp, Ma.c_of_len (Nat.le_refl _) (show p.len ≤ i + 1 by omega)]
    have : ((0 : Int) : Rat) = 0 := rfl
    rw [this]; grind
theorem euc_slope {f : Ma.P} {D : Nat} (h1 : f.ld = 1) (h2 : 2 ≤ f.len) (h5 : f.len ≤ 5) (hD : 0 < D) (hDb : D ≤ 2 ^ bt f.len) (hh : Ma.HtD f D (bt f.len)) : EucG f.1 (Ma.Dp f).1 := by
  have hgne := (Ma.Dp_len h2).1
  have hgl : (Ma.Dp f).len = f.len - 1 := by
    show (AlOne.slope f.1).length = _
    rw [Ma.slL_slope f.2, Ma.slL_len]; rfl
  have hg := ht_slope hh (by omega)
  have hDb3 : D ≤ 2 ^ (bt f.len + 3) := Nat.le_trans hDb (Nat.pow_le_pow_right (by omega) (by omega))
  rcases chk_slope f.len (by omega) with h | h
  · omega
  · refine euc_start hgne h5 (by omega) (by omega) hD hD hh hg (htP_of hD hDb hh) (htP_of hD hDb3 hg) (fun e => ?_) (by rw [hgl]; exact h.1) (by rw [hgl]; exact h.2)
    have hf2 : f.len = 2 := by omega
    have e2 : (Ma.Dp f).1 = [1] := by
      have e3 : (Ma.Dp f).1 = Ma.slL f.1 := Ma.slL_slope f.2
      have hlen : (Ma.slL f.1).length = 1 := by rw [Ma.slL_len]; show f.len - 1 = 1; omega
      obtain ⟨d, hd⟩ := List.length_eq_one_iff.mp hlen
      have hc := Ma.co_slL f.1 0
      rw [hd] at hc
      have hc2 : d = ((0 + 1 : Nat) : Rat) * Ma.co f.1 1 := hc
      have hl1 : Ma.co f.1 1 = 1 := by
        have := Ma.lead_eq f.1
        have hld : AlOne.lead f.1 = 1 := h1
        rw [hld] at this
        have h9 : f.1.length - 1 = 1 := by show f.len - 1 = 1; omega
        rw [h9] at this
        exact this.symm
      rw [hl1] at hc2
      have e4 : ((0 + 1 : Nat) : Rat) = 1 := rfl
      rw [e4] at hc2
      rw [e3, hd, hc2]
      have e5 : (1 : Rat) * 1 = 1 := by grind
      rw [e5]
    rw [e2]; exact Ma.htP_one 0
section
variable {P : Program} {w : World} {K : PySem.W.Frag} {mg : Str → Option Value} {base : Heap}
def spSimple (K : PySem.W.Frag) : Sp := fun vs H Q _ => ∃ (a : Addr) (p : Ma.P) (D : Nat), vs = [.ref a] ∧ PolV K H a p.1 ∧ p.ld = 1 ∧ 2 ≤ p.len ∧ p.len ≤ 5 ∧ 0 < D ∧ D ≤ 2 ^ bt p.len ∧ Ma.HtD p D (bt p.len) ∧
  ∀ H', Same H H' → Q (.int ((simpleM p.1 : Nat) : Int)) H'
theorem ok_simple_of (T : Txt K mg) : FnOk P w K mg base CX0 7 T.f_simple_of T.e_simple_of ["least"] (spSimple K) := by
  refine T.d_simple_of.F.ok sc_simple_of (fun vs H Q E h => ?_) (fun cdv A outer s H vs Q E hr h => ?_)
  · obtain ⟨a, p, D, rfl, _⟩ := h
    rfl
  · obtain ⟨a, p, D, rfl, hp, h1, h2, h5, hD, hDb, hh, q⟩ := h
    obtain ⟨ps, hps, hpR⟩ := id hp
    have hpl : ps.length = p.len := hpR.len
    have hp0 : p ≠ 0 := fun e => by rw [e, Ma.P.len_zero] at h2; omega
    have hbt : bt p.len ≤ 598 := by unfold bt; split <;> omega
    have hht := htP_of hD hDb hh
    refine ⟨_, pss_cons (ps_if (pt_cmpR (op_neD (hu64 hr)) (pe_D T.d_poly_common (ok_poly_commonG T) hr (pa_cons (pv 0) (pa_cons (pe_D T.d_poly_slope (ok_poly_slope T) hr (pa_cons (pv 0) pa_nil)) pa_nil))) (pe_lst (pa_cons (pe_glob (v := .ref T.a_ONE) (by rfl) T.g_ONE rfl) pa_nil)) (nomark _))
        (pss_one (ps_ret pe_int)) pss_nil)
      (pss_one (ps_ret (pe_ifExp (pt_cmpR op_eq (pe_callB call_len_seq (by rfl) T.z_len PySem.boot_len (pa_cons (pe_D T.d_roots_of (ok_roots_of T) hr (pa_cons (pv 0) pa_nil)) pa_nil)) (pe_op op_sub (pe_callB call_len_seq (by rfl) T.z_len PySem.boot_len (pa_cons (pv 0) pa_nil)) pe_int) (nomark _)) pe_int pe_int))), ?_⟩
    have hfit : ∀ c ∈ p.1, Fits 8000 c := fun c hc => Fits.mono (hht.num c hc) (by omega)
    refine ⟨_, rfl, _, rfl, a, p.1, rfl, hp, ⟨by show p.len ≤ 8; omega, hfit⟩, fun H1 r1 s1 n1 hr1 => ?_⟩
    have hr1' : PolV K H1 r1 (Ma.Dp p).1 := by
      show PolV K H1 r1 (AlOne.slope p.1)
      rw [Ma.slL_slope p.2]; exact hr1
    refine ⟨a, r1, p.1, (Ma.Dp p).1, rfl, hp.same s1, hr1', euc_slope h1 h2 h5 hD hDb hh, fun H2 r2 s2 n2 hr2 => ?_⟩
    refine ⟨(by show 1 ≤ sizeLine; decide), fun o no => ?_⟩
    have s3 := same_upd (o := .lst [.ref T.a_ONE]) no
    have ho : PolV K (upd H2 o (.lst [.ref T.a_ONE])) o [1] := ⟨_, upd_same, T.one _, trivial⟩
    have hr2' := hr2.same s3
    generalize upd H2 o (.lst [.ref T.a_ONE]) = H3 at s3 ho hr2'
    have s13 := s1.trans (s2.trans s3)
    refine ⟨_, _, hr2'.dp, ho.dp, shaped_dat _, shaped_dat _, _, rfl, ?_⟩
    rw [eqv_dat]
    have hcs := Ma.com_spec p (Ma.Dp p)
    have hcne : Ma.com p (Ma.Dp p) ≠ 0 := fun e => by
      have := hcs.left
      rw [e] at this
      exact hp0 this.of_zero
    have hcl : (AlOne.common p.1 (AlOne.slope p.1)) = (Ma.com p (Ma.Dp p)).1 := rfl
    have hone : (AlOne.common p.1 (Ma.Dp p).1 = [1]) ↔ ¬ 1 < (AlOne.common p.1 (AlOne.slope p.1)).length := by
      rw [hcl]
      show (Ma.com p (Ma.Dp p)).1 = [1] ↔ ¬ 1 < (Ma.com p (Ma.Dp p)).len
      constructor
      · intro e
        show ¬ 1 < (Ma.com p (Ma.Dp p)).1.length
        rw [e]; decide
      · intro e
        have hlp := Ma.P.len_pos hcne
        have hl1 : (Ma.com p (Ma.Dp p)).len = 1 := by omega
        have hld : (Ma.com p (Ma.Dp p)).ld = 1 := by
          rcases hcs.top with h | h
          · exact absurd h hcne
          · exact h
        have := Ma.P.eq_cst hl1
        rw [hld] at this
        rw [this]
        show AlOne.trim [1] = [1]
        rw [Ma.trim_cons]; simp [AlOne.trim]
    by_cases hc : AlOne.common p.1 (Ma.Dp p).1 = [1]
    · rw [decide_eq_true hc]
      refine iteF ?_
      have hsm : simpleM p.1 = if (Al03.ratRoots p.1).length = AlOne.degree p.1 then 2 else 1 := by
        unfold simpleM
        rw [if_neg (hone.mp hc)]
      refine ⟨_, rfl, a, p, rfl, hp.same s13, h1, h2, h5, hht.mono hbt, fun H4 r4 s4 n4 h4 => ?_⟩
      obtain ⟨us, hus, huR⟩ := h4
      have hul := huR.len
      have s14 := s13.trans s4
      refine ⟨r4, us, rfl, .inl (SqL.of hus), _, rfl, a, ps, rfl, .inl (SqL.of (s14 _ _ hps)), _, _, rfl, rfl, rfl, _, rfl, ite2 (fun e => ?_) (fun e => ?_)⟩
      · have e1 : (us.length : Int) = (ps.length : Int) - 1 := V.int.inj (of_decide_eq_true e)
        have e2 : (Al03.ratRoots p.1).length = AlOne.degree p.1 := by
          show _ = p.len - 1
          omega
        have := q H4 s14
        rw [hsm, if_pos e2] at this
        exact this
      · have e2 : ¬ (Al03.ratRoots p.1).length = AlOne.degree p.1 := fun h => e (decide_eq_true (congrArg V.int (by
          have h9 : (Al03.ratRoots p.1).length = p.len - 1 := h
          omega)))
        have := q H4 s14
        rw [hsm, if_neg e2] at this
        exact this
    · rw [decide_eq_false hc]
      refine iteT ?_
      have h9 : 1 < (AlOne.common p.1 (AlOne.slope p.1)).length := Classical.byContradiction fun h => hc (hone.mpr h)
      have := q H3 s13
      unfold simpleM at this
      rw [if_pos h9] at this
      exact this
/-- what is due -/
def dueSimple (us : List (List Nat)) : List Int := shown (Al09.with1 us fun t => ⟨((Al09.simple t : Nat) : Int), []⟩)
theorem due_eq (us : List (List Nat)) : PyAl09.simple (us.map fun u => u.map fun (x : Nat) => (x : Int)) = dueSimple us := by
  have h := nats_back us
  show shown (Al09.with1 ((us.map fun u => u.map fun (x : Nat) => (x : Int)).map Al09Neutral.nats) _) = _
  rw [h]; rfl
theorem ok_simple (T : Txt K mg) : FnOk P w K mg base CX0 13 T.f_simple T.e_simple ["a"] (spTop K dueSimple) := by
  refine T.d_simple.F.ok sc_simple (fun vs H Q E h => ?_) (fun cdv A outer s H vs Q E hr h => ?_)
  · obtain ⟨a, ts, us, rfl, _⟩ := h
    rfl
  · obtain ⟨a, ts, us, rfl, ha, hT, hl, hn, q⟩ := h
    refine ⟨_, pss_cons (ps_set (i := 1) sc_simple.nd rfl (.inl rfl) (pe_D T.d_table_refusal (ok_table_refusal T) hr (pa_cons (pv 0) pa_nil)))
      (pss_cons (ps_if (pt_cmpR op_lt (pv 1) pe_int (nomark _)) (pss_one (ps_ret (pe_lst (pa_cons (pv 1) pa_nil)))) pss_nil)
      (pss_one (ps_ret (pe_lst (pa_cons (pe_D T.d_simple_of (ok_simple_of T) hr (pa_cons (pe_ix ix_list (pe_D T.d_forms_of (ok_forms_of T) hr (pa_cons (pe_D T.d_table_of (ok_table_of T) hr (pa_cons (pv 0) pa_nil)) pa_nil)) (pe_un un_neg pe_int) (fun _ _ => rfl)) pa_nil)) pa_nil))))), ?_⟩
    refine ⟨_, rfl, a, ts, us, rfl, ha, hT, hl, hn, fun H1 s1 => ?_⟩
    refine ⟨_, rfl, _, _, rfl, rfl, _, rfl, ?_⟩
    by_cases h0 : tabRef us = 0
    · rw [h0]
      refine iteF ?_
      obtain ⟨n, cs, hs, hm, hall, hlen, hgo⟩ := with1_ok h0
      have hdue : dueSimple us = shown ⟨((Al09.simple (Al09.rowsOf n n cs) : Nat) : Int), []⟩ := by unfold dueSimple; rw [hgo]
      obtain ⟨hsq, hn1, hn4⟩ := side_sq us.length hn n hs
      have sq := sq_rowsOf (n := n) (l := cs) (by omega)
      have sm := small_rowsOf (n := n) (k := n) hall
      refine ⟨_, rfl, a, ts, us, n, cs, rfl, s1.seq ha, hT.same s1, hl, hn, hs, hm, fun H2 r2 s2 h2 => ?_⟩
      refine ⟨r2, _, n, rfl, h2, sq, hn4, sm, fun H3 r3 ws s3 n3 h3 hP => ?_⟩
      obtain ⟨l, f, hfm, hfe, hle⟩ := lastForm sq hn1
      rw [hfe] at hP
      obtain ⟨b, hb1, _, hb2⟩ := lastW hP
      obtain ⟨a1, a2, a3, a4, D, a5, a6, a7⟩ := form_ht sq hn4 sm hfm
      refine ⟨1, rfl, r3, ws, -1, _, rfl, rfl, SqL.of h3, hb1, ?_⟩
      refine ⟨b, f, D, rfl, hb2, a1, a2, a3, a5, a6, a7, fun H4 s4 => ?_⟩
      refine ⟨(by show 1 ≤ sizeLine; decide), fun p8 np8 => ?_⟩
      refine q _ p8 ?_
      have hsi : Al09.simple (Al09.rowsOf n n cs) = simpleM f.1 := by
        unfold Al09.simple simpleM
        rw [hle]
      rw [upd_same, hdue, hsi]; rfl
    · have hneg : tabRef us < 0 := tabRef_neg h0
      rw [decide_eq_true hneg]
      refine iteT ?_
      refine ⟨_, rfl, (by show 1 ≤ sizeLine; decide), fun p np => ?_⟩
      refine q _ p ?_
      have hdue : dueSimple us = [tabRef us] := by unfold dueSimple; rw [with1_no _ h0]; rfl
      rw [upd_same, hdue]; rfl
end
end W
set_option maxRecDepth 100000
namespace W
open PySem PySem.Spec PyProof.Rows L2
open PySem.W (WData Codec)
set_option maxHeartbeats 4000000 in
theorem all_mk {P : Program} {w : World} {K : PySem.W.Frag} {h : Heap} {mg : Str → Option Value} {fa : Addr} (X : K.In h) (G : h.Ns mainGlobals mg) (hfa : mg "simple" = some (.ref fa))
    {f_whole_common : Addr} {od_whole_common an_whole_common : Option Addr} {sl_whole_common : Array (Option Value)} {oc_whole_common kV_whole_common dc_whole_common pm_whole_common cd_whole_common ct_whole_common : Value}
    (a_whole_common : PySem.W.nsIn K mainGlobals "whole_common" = some (some (.ref f_whole_common))) (l_whole_common : K.lookup f_whole_common = some ⟨oc_whole_common, od_whole_common, .func (PySem.W.fnOf "whole_common" "whole_common" (defArgs s_whole_common) (defBody s_whole_common) (defScope s_whole_common) .none kV_whole_common dc_whole_common pm_whole_common an_whole_common cd_whole_common ct_whole_common), sl_whole_common⟩) (c_whole_common : PySem.W.codeIn K cd_whole_common "whole_common" = true) (k_whole_common : PySem.W.keepIn K (.ref f_whole_common) = true)
    {f_lowest : Addr} {od_lowest an_lowest : Option Addr} {sl_lowest : Array (Option Value)} {oc_lowest kV_lowest dc_lowest pm_lowest cd_lowest ct_lowest : Value}
    (a_lowest : PySem.W.nsIn K mainGlobals "lowest" = some (some (.ref f_lowest))) (l_lowest : K.lookup f_lowest = some ⟨oc_lowest, od_lowest, .func (PySem.W.fnOf "lowest" "lowest" (defArgs s_lowest) (defBody s_lowest) (defScope s_lowest) .none kV_lowest dc_lowest pm_lowest an_lowest cd_lowest ct_lowest), sl_lowest⟩) (c_lowest : PySem.W.codeIn K cd_lowest "lowest" = true) (k_lowest : PySem.W.keepIn K (.ref f_lowest) = true)
    {f_ratio_sum : Addr} {od_ratio_sum an_ratio_sum : Option Addr} {sl_ratio_sum : Array (Option Value)} {oc_ratio_sum kV_ratio_sum dc_ratio_sum pm_ratio_sum cd_ratio_sum ct_ratio_sum : Value}
    (a_ratio_sum : PySem.W.nsIn K mainGlobals "ratio_sum" = some (some (.ref f_ratio_sum))) (l_ratio_sum : K.lookup f_ratio_sum = some ⟨oc_ratio_sum, od_ratio_sum, .func (PySem.W.fnOf "ratio_sum" "ratio_sum" (defArgs s_ratio_sum) (defBody s_ratio_sum) (defScope s_ratio_sum) .none kV_ratio_sum dc_ratio_sum pm_ratio_sum an_ratio_sum cd_ratio_sum ct_ratio_sum), sl_ratio_sum⟩) (c_ratio_sum : PySem.W.codeIn K cd_ratio_sum "ratio_sum" = true) (k_ratio_sum : PySem.W.keepIn K (.ref f_ratio_sum) = true)
    {f_ratio_minus : Addr} {od_ratio_minus an_ratio_minus : Option Addr} {sl_ratio_minus : Array (Option Value)} {oc_ratio_minus kV_ratio_minus dc_ratio_minus pm_ratio_minus cd_ratio_minus ct_ratio_minus : Value}
    (a_ratio_minus : PySem.W.nsIn K mainGlobals "ratio_minus" = some (some (.ref f_ratio_minus))) (l_ratio_minus : K.lookup f_ratio_minus = some ⟨oc_ratio_minus, od_ratio_minus, .func (PySem.W.fnOf "ratio_minus" "ratio_minus" (defArgs s_ratio_minus) (defBody s_ratio_minus) (defScope s_ratio_minus) .none kV_ratio_minus dc_ratio_minus pm_ratio_minus an_ratio_minus cd_ratio_minus ct_ratio_minus), sl_ratio_minus⟩) (c_ratio_minus : PySem.W.codeIn K cd_ratio_minus "ratio_minus" = true) (k_ratio_minus : PySem.W.keepIn K (.ref f_ratio_minus) = true)
    {f_ratio_product : Addr} {od_ratio_product an_ratio_product : Option Addr} {sl_ratio_product : Array (Option Value)} {oc_ratio_product kV_ratio_product dc_ratio_product pm_ratio_product cd_ratio_product ct_ratio_product : Value}
    (a_ratio_product : PySem.W.nsIn K mainGlobals "ratio_product" = some (some (.ref f_ratio_product))) (l_ratio_product : K.lookup f_ratio_product = some ⟨oc_ratio_product, od_ratio_product, .func (PySem.W.fnOf "ratio_product" "ratio_product" (defArgs s_ratio_product) (defBody s_ratio_product) (defScope s_ratio_product) .none kV_ratio_product dc_ratio_product pm_ratio_product an_ratio_product cd_ratio_product ct_ratio_product), sl_ratio_product⟩) (c_ratio_product : PySem.W.codeIn K cd_ratio_product "ratio_product" = true) (k_ratio_product : PySem.W.keepIn K (.ref f_ratio_product) = true)
    {f_ratio_quotient : Addr} {od_ratio_quotient an_ratio_quotient : Option Addr} {sl_ratio_quotient : Array (Option Value)} {oc_ratio_quotient kV_ratio_quotient dc_ratio_quotient pm_ratio_quotient cd_ratio_quotient ct_ratio_quotient : Value}
    (a_ratio_quotient : PySem.W.nsIn K mainGlobals "ratio_quotient" = some (some (.ref f_ratio_quotient))) (l_ratio_quotient : K.lookup f_ratio_quotient = some ⟨oc_ratio_quotient, od_ratio_quotient, .func (PySem.W.fnOf "ratio_quotient" "ratio_quotient" (defArgs s_ratio_quotient) (defBody s_ratio_quotient) (defScope s_ratio_quotient) .none kV_ratio_quotient dc_ratio_quotient pm_ratio_quotient an_ratio_quotient cd_ratio_quotient ct_ratio_quotient), sl_ratio_quotient⟩) (c_ratio_quotient : PySem.W.codeIn K cd_ratio_quotient "ratio_quotient" = true) (k_ratio_quotient : PySem.W.keepIn K (.ref f_ratio_quotient) = true)
    {f_trimmed : Addr} {od_trimmed an_trimmed : Option Addr} {sl_trimmed : Array (Option Value)} {oc_trimmed kV_trimmed dc_trimmed pm_trimmed cd_trimmed ct_trimmed : Value}
    (a_trimmed : PySem.W.nsIn K mainGlobals "trimmed" = some (some (.ref f_trimmed))) (l_trimmed : K.lookup f_trimmed = some ⟨oc_trimmed, od_trimmed, .func (PySem.W.fnOf "trimmed" "trimmed" (defArgs s_trimmed) (defBody s_trimmed) (defScope s_trimmed) .none kV_trimmed dc_trimmed pm_trimmed an_trimmed cd_trimmed ct_trimmed), sl_trimmed⟩) (c_trimmed : PySem.W.codeIn K cd_trimmed "trimmed" = true) (k_trimmed : PySem.W.keepIn K (.ref f_trimmed) = true)
    {f_number_at : Addr} {od_number_at an_number_at : Option Addr} {sl_number_at : Array (Option Value)} {oc_number_at kV_number_at dc_number_at pm_number_at cd_number_at ct_number_at : Value}
    (a_number_at : PySem.W.nsIn K mainGlobals "number_at" = some (some (.ref f_number_at))) (l_number_at : K.lookup f_number_at = some ⟨oc_number_at, od_number_at, .func (PySem.W.fnOf "number_at" "number_at" (defArgs s_number_at) (defBody s_number_at) (defScope s_number_at) .none kV_number_at dc_number_at pm_number_at an_number_at cd_number_at ct_number_at), sl_number_at⟩) (c_number_at : PySem.W.codeIn K cd_number_at "number_at" = true) (k_number_at : PySem.W.keepIn K (.ref f_number_at) = true)
    {f_poly_sum : Addr} {od_poly_sum an_poly_sum : Option Addr} {sl_poly_sum : Array (Option Value)} {oc_poly_sum kV_poly_sum dc_poly_sum pm_poly_sum cd_poly_sum ct_poly_sum : Value}
    (a_poly_sum : PySem.W.nsIn K mainGlobals "poly_sum" = some (some (.ref f_poly_sum))) (l_poly_sum : K.lookup f_poly_sum = some ⟨oc_poly_sum, od_poly_sum, .func (PySem.W.fnOf "poly_sum" "poly_sum" (defArgs s_poly_sum) (defBody s_poly_sum) (defScope s_poly_sum) .none kV_poly_sum dc_poly_sum pm_poly_sum an_poly_sum cd_poly_sum ct_poly_sum), sl_poly_sum⟩) (c_poly_sum : PySem.W.codeIn K cd_poly_sum "poly_sum" = true) (k_poly_sum : PySem.W.keepIn K (.ref f_poly_sum) = true)
    {f_poly_minus : Addr} {od_poly_minus an_poly_minus : Option Addr} {sl_poly_minus : Array (Option Value)} {oc_poly_minus kV_poly_minus dc_poly_minus pm_poly_minus cd_poly_minus ct_poly_minus : Value}
    (a_poly_minus : PySem.W.nsIn K mainGlobals "poly_minus" = some (some (.ref f_poly_minus))) (l_poly_minus : K.lookup f_poly_minus = some ⟨oc_poly_minus, od_poly_minus, .func (PySem.W.fnOf "poly_minus" "poly_minus" (defArgs s_poly_minus) (defBody s_poly_minus) (defScope s_poly_minus) .none kV_poly_minus dc_poly_minus pm_poly_minus an_poly_minus cd_poly_minus ct_poly_minus), sl_poly_minus⟩) (c_poly_minus : PySem.W.codeIn K cd_poly_minus "poly_minus" = true) (k_poly_minus : PySem.W.keepIn K (.ref f_poly_minus) = true)
    {f_poly_product : Addr} {od_poly_product an_poly_product : Option Addr} {sl_poly_product : Array (Option Value)} {oc_poly_product kV_poly_product dc_poly_product pm_poly_product cd_poly_product ct_poly_product : Value}
    (a_poly_product : PySem.W.nsIn K mainGlobals "poly_product" = some (some (.ref f_poly_product))) (l_poly_product : K.lookup f_poly_product = some ⟨oc_poly_product, od_poly_product, .func (PySem.W.fnOf "poly_product" "poly_product" (defArgs s_poly_product) (defBody s_poly_product) (defScope s_poly_product) .none kV_poly_product dc_poly_product pm_poly_product an_poly_product cd_poly_product ct_poly_product), sl_poly_product⟩) (c_poly_product : PySem.W.codeIn K cd_poly_product "poly_product" = true) (k_poly_product : PySem.W.keepIn K (.ref f_poly_product) = true)
    {f_poly_slope : Addr} {od_poly_slope an_poly_slope : Option Addr} {sl_poly_slope : Array (Option Value)} {oc_poly_slope kV_poly_slope dc_poly_slope pm_poly_slope cd_poly_slope ct_poly_slope : Value}
    (a_poly_slope : PySem.W.nsIn K mainGlobals "poly_slope" = some (some (.ref f_poly_slope))) (l_poly_slope : K.lookup f_poly_slope = some ⟨oc_poly_slope, od_poly_slope, .func (PySem.W.fnOf "poly_slope" "poly_slope" (defArgs s_poly_slope) (defBody s_poly_slope) (defScope s_poly_slope) .none kV_poly_slope dc_poly_slope pm_poly_slope an_poly_slope cd_poly_slope ct_poly_slope), sl_poly_slope⟩) (c_poly_slope : PySem.W.codeIn K cd_poly_slope "poly_slope" = true) (k_poly_slope : PySem.W.keepIn K (.ref f_poly_slope) = true)
    {f_poly_divided : Addr} {od_poly_divided an_poly_divided : Option Addr} {sl_poly_divided : Array (Option Value)} {oc_poly_divided kV_poly_divided dc_poly_divided pm_poly_divided cd_poly_divided ct_poly_divided : Value}
    (a_poly_divided : PySem.W.nsIn K mainGlobals "poly_divided" = some (some (.ref f_poly_divided))) (l_poly_divided : K.lookup f_poly_divided = some ⟨oc_poly_divided, od_poly_divided, .func (PySem.W.fnOf "poly_divided" "poly_divided" (defArgs s_poly_divided) (defBody s_poly_divided) (defScope s_poly_divided) .none kV_poly_divided dc_poly_divided pm_poly_divided an_poly_divided cd_poly_divided ct_poly_divided), sl_poly_divided⟩) (c_poly_divided : PySem.W.codeIn K cd_poly_divided "poly_divided" = true) (k_poly_divided : PySem.W.keepIn K (.ref f_poly_divided) = true)
    {f_with_one_on_top : Addr} {od_with_one_on_top an_with_one_on_top : Option Addr} {sl_with_one_on_top : Array (Option Value)} {oc_with_one_on_top kV_with_one_on_top dc_with_one_on_top pm_with_one_on_top cd_with_one_on_top ct_with_one_on_top : Value}
    (a_with_one_on_top : PySem.W.nsIn K mainGlobals "with_one_on_top" = some (some (.ref f_with_one_on_top))) (l_with_one_on_top : K.lookup f_with_one_on_top = some ⟨oc_with_one_on_top, od_with_one_on_top, .func (PySem.W.fnOf "with_one_on_top" "with_one_on_top" (defArgs s_with_one_on_top) (defBody s_with_one_on_top) (defScope s_with_one_on_top) .none kV_with_one_on_top dc_with_one_on_top pm_with_one_on_top an_with_one_on_top cd_with_one_on_top ct_with_one_on_top), sl_with_one_on_top⟩) (c_with_one_on_top : PySem.W.codeIn K cd_with_one_on_top "with_one_on_top" = true) (k_with_one_on_top : PySem.W.keepIn K (.ref f_with_one_on_top) = true)
    {f_poly_common : Addr} {od_poly_common an_poly_common : Option Addr} {sl_poly_common : Array (Option Value)} {oc_poly_common kV_poly_common dc_poly_common pm_poly_common cd_poly_common ct_poly_common : Value}
    (a_poly_common : PySem.W.nsIn K mainGlobals "poly_common" = some (some (.ref f_poly_common))) (l_poly_common : K.lookup f_poly_common = some ⟨oc_poly_common, od_poly_common, .func (PySem.W.fnOf "poly_common" "poly_common" (defArgs s_poly_common) (defBody s_poly_common) (defScope s_poly_common) .none kV_poly_common dc_poly_common pm_poly_common an_poly_common cd_poly_common ct_poly_common), sl_poly_common⟩) (c_poly_common : PySem.W.codeIn K cd_poly_common "poly_common" = true) (k_poly_common : PySem.W.keepIn K (.ref f_poly_common) = true)
    {f_common_of_all : Addr} {od_common_of_all an_common_of_all : Option Addr} {sl_common_of_all : Array (Option Value)} {oc_common_of_all kV_common_of_all dc_common_of_all pm_common_of_all cd_common_of_all ct_common_of_all : Value}
    (a_common_of_all : PySem.W.nsIn K mainGlobals "common_of_all" = some (some (.ref f_common_of_all))) (l_common_of_all : K.lookup f_common_of_all = some ⟨oc_common_of_all, od_common_of_all, .func (PySem.W.fnOf "common_of_all" "common_of_all" (defArgs s_common_of_all) (defBody s_common_of_all) (defScope s_common_of_all) .none kV_common_of_all dc_common_of_all pm_common_of_all an_common_of_all cd_common_of_all ct_common_of_all), sl_common_of_all⟩) (c_common_of_all : PySem.W.codeIn K cd_common_of_all "common_of_all" = true) (k_common_of_all : PySem.W.keepIn K (.ref f_common_of_all) = true)
    {f_x_less : Addr} {od_x_less an_x_less : Option Addr} {sl_x_less : Array (Option Value)} {oc_x_less kV_x_less dc_x_less pm_x_less cd_x_less ct_x_less : Value}
    (a_x_less : PySem.W.nsIn K mainGlobals "x_less" = some (some (.ref f_x_less))) (l_x_less : K.lookup f_x_less = some ⟨oc_x_less, od_x_less, .func (PySem.W.fnOf "x_less" "x_less" (defArgs s_x_less) (defBody s_x_less) (defScope s_x_less) .none kV_x_less dc_x_less pm_x_less an_x_less cd_x_less ct_x_less), sl_x_less⟩) (c_x_less : PySem.W.codeIn K cd_x_less "x_less" = true) (k_x_less : PySem.W.keepIn K (.ref f_x_less) = true)
    {f_without_column : Addr} {od_without_column an_without_column : Option Addr} {sl_without_column : Array (Option Value)} {oc_without_column kV_without_column dc_without_column pm_without_column cd_without_column ct_without_column : Value}
    (a_without_column : PySem.W.nsIn K mainGlobals "without_column" = some (some (.ref f_without_column))) (l_without_column : K.lookup f_without_column = some ⟨oc_without_column, od_without_column, .func (PySem.W.fnOf "without_column" "without_column" (defArgs s_without_column) (defBody s_without_column) (defScope s_without_column) .none kV_without_column dc_without_column pm_without_column an_without_column cd_without_column ct_without_column), sl_without_column⟩) (c_without_column : PySem.W.codeIn K cd_without_column "without_column" = true) (k_without_column : PySem.W.keepIn K (.ref f_without_column) = true)
    {f_determinant : Addr} {od_determinant an_determinant : Option Addr} {sl_determinant : Array (Option Value)} {oc_determinant kV_determinant dc_determinant pm_determinant cd_determinant ct_determinant : Value}
    (a_determinant : PySem.W.nsIn K mainGlobals "determinant" = some (some (.ref f_determinant))) (l_determinant : K.lookup f_determinant = some ⟨oc_determinant, od_determinant, .func (PySem.W.fnOf "determinant" "determinant" (defArgs s_determinant) (defBody s_determinant) (defScope s_determinant) .none kV_determinant dc_determinant pm_determinant an_determinant cd_determinant ct_determinant), sl_determinant⟩) (c_determinant : PySem.W.codeIn K cd_determinant "determinant" = true) (k_determinant : PySem.W.keepIn K (.ref f_determinant) = true)
    {f_choices : Addr} {od_choices an_choices : Option Addr} {sl_choices : Array (Option Value)} {oc_choices kV_choices dc_choices pm_choices cd_choices ct_choices : Value}
    (a_choices : PySem.W.nsIn K mainGlobals "choices" = some (some (.ref f_choices))) (l_choices : K.lookup f_choices = some ⟨oc_choices, od_choices, .func (PySem.W.fnOf "choices" "choices" (defArgs s_choices) (defBody s_choices) (defScope s_choices) .none kV_choices dc_choices pm_choices an_choices cd_choices ct_choices), sl_choices⟩) (c_choices : PySem.W.codeIn K cd_choices "choices" = true) (k_choices : PySem.W.keepIn K (.ref f_choices) = true)
    {f_part_of : Addr} {od_part_of an_part_of : Option Addr} {sl_part_of : Array (Option Value)} {oc_part_of kV_part_of dc_part_of pm_part_of cd_part_of ct_part_of : Value}
    (a_part_of : PySem.W.nsIn K mainGlobals "part_of" = some (some (.ref f_part_of))) (l_part_of : K.lookup f_part_of = some ⟨oc_part_of, od_part_of, .func (PySem.W.fnOf "part_of" "part_of" (defArgs s_part_of) (defBody s_part_of) (defScope s_part_of) .none kV_part_of dc_part_of pm_part_of an_part_of cd_part_of ct_part_of), sl_part_of⟩) (c_part_of : PySem.W.codeIn K cd_part_of "part_of" = true) (k_part_of : PySem.W.keepIn K (.ref f_part_of) = true)
    {f_minors : Addr} {od_minors an_minors : Option Addr} {sl_minors : Array (Option Value)} {oc_minors kV_minors dc_minors pm_minors cd_minors ct_minors : Value}
    (a_minors : PySem.W.nsIn K mainGlobals "minors" = some (some (.ref f_minors))) (l_minors : K.lookup f_minors = some ⟨oc_minors, od_minors, .func (PySem.W.fnOf "minors" "minors" (defArgs s_minors) (defBody s_minors) (defScope s_minors) .none kV_minors dc_minors pm_minors an_minors cd_minors ct_minors), sl_minors⟩) (c_minors : PySem.W.codeIn K cd_minors "minors" = true) (k_minors : PySem.W.keepIn K (.ref f_minors) = true)
    {f_forms_of : Addr} {od_forms_of an_forms_of : Option Addr} {sl_forms_of : Array (Option Value)} {oc_forms_of kV_forms_of dc_forms_of pm_forms_of cd_forms_of ct_forms_of : Value}
    (a_forms_of : PySem.W.nsIn K mainGlobals "forms_of" = some (some (.ref f_forms_of))) (l_forms_of : K.lookup f_forms_of = some ⟨oc_forms_of, od_forms_of, .func (PySem.W.fnOf "forms_of" "forms_of" (defArgs s_forms_of) (defBody s_forms_of) (defScope s_forms_of) .none kV_forms_of dc_forms_of pm_forms_of an_forms_of cd_forms_of ct_forms_of), sl_forms_of⟩) (c_forms_of : PySem.W.codeIn K cd_forms_of "forms_of" = true) (k_forms_of : PySem.W.keepIn K (.ref f_forms_of) = true)
    {f_whole_of : Addr} {od_whole_of an_whole_of : Option Addr} {sl_whole_of : Array (Option Value)} {oc_whole_of kV_whole_of dc_whole_of pm_whole_of cd_whole_of ct_whole_of : Value}
    (a_whole_of : PySem.W.nsIn K mainGlobals "whole_of" = some (some (.ref f_whole_of))) (l_whole_of : K.lookup f_whole_of = some ⟨oc_whole_of, od_whole_of, .func (PySem.W.fnOf "whole_of" "whole_of" (defArgs s_whole_of) (defBody s_whole_of) (defScope s_whole_of) .none kV_whole_of dc_whole_of pm_whole_of an_whole_of cd_whole_of ct_whole_of), sl_whole_of⟩) (c_whole_of : PySem.W.codeIn K cd_whole_of "whole_of" = true) (k_whole_of : PySem.W.keepIn K (.ref f_whole_of) = true)
    {f_unsigned_of : Addr} {od_unsigned_of an_unsigned_of : Option Addr} {sl_unsigned_of : Array (Option Value)} {oc_unsigned_of kV_unsigned_of dc_unsigned_of pm_unsigned_of cd_unsigned_of ct_unsigned_of : Value}
    (a_unsigned_of : PySem.W.nsIn K mainGlobals "unsigned_of" = some (some (.ref f_unsigned_of))) (l_unsigned_of : K.lookup f_unsigned_of = some ⟨oc_unsigned_of, od_unsigned_of, .func (PySem.W.fnOf "unsigned_of" "unsigned_of" (defArgs s_unsigned_of) (defBody s_unsigned_of) (defScope s_unsigned_of) .none kV_unsigned_of dc_unsigned_of pm_unsigned_of an_unsigned_of cd_unsigned_of ct_unsigned_of), sl_unsigned_of⟩) (c_unsigned_of : PySem.W.codeIn K cd_unsigned_of "unsigned_of" = true) (k_unsigned_of : PySem.W.keepIn K (.ref f_unsigned_of) = true)
    {f_number_of : Addr} {od_number_of an_number_of : Option Addr} {sl_number_of : Array (Option Value)} {oc_number_of kV_number_of dc_number_of pm_number_of cd_number_of ct_number_of : Value}
    (a_number_of : PySem.W.nsIn K mainGlobals "number_of" = some (some (.ref f_number_of))) (l_number_of : K.lookup f_number_of = some ⟨oc_number_of, od_number_of, .func (PySem.W.fnOf "number_of" "number_of" (defArgs s_number_of) (defBody s_number_of) (defScope s_number_of) .none kV_number_of dc_number_of pm_number_of an_number_of cd_number_of ct_number_of), sl_number_of⟩) (c_number_of : PySem.W.codeIn K cd_number_of "number_of" = true) (k_number_of : PySem.W.keepIn K (.ref f_number_of) = true)
    {f_numbers_of : Addr} {od_numbers_of an_numbers_of : Option Addr} {sl_numbers_of : Array (Option Value)} {oc_numbers_of kV_numbers_of dc_numbers_of pm_numbers_of cd_numbers_of ct_numbers_of : Value}
    (a_numbers_of : PySem.W.nsIn K mainGlobals "numbers_of" = some (some (.ref f_numbers_of))) (l_numbers_of : K.lookup f_numbers_of = some ⟨oc_numbers_of, od_numbers_of, .func (PySem.W.fnOf "numbers_of" "numbers_of" (defArgs s_numbers_of) (defBody s_numbers_of) (defScope s_numbers_of) .none kV_numbers_of dc_numbers_of pm_numbers_of an_numbers_of cd_numbers_of ct_numbers_of), sl_numbers_of⟩) (c_numbers_of : PySem.W.codeIn K cd_numbers_of "numbers_of" = true) (k_numbers_of : PySem.W.keepIn K (.ref f_numbers_of) = true)
    {f_is_long : Addr} {od_is_long an_is_long : Option Addr} {sl_is_long : Array (Option Value)} {oc_is_long kV_is_long dc_is_long pm_is_long cd_is_long ct_is_long : Value}
    (a_is_long : PySem.W.nsIn K mainGlobals "is_long" = some (some (.ref f_is_long))) (l_is_long : K.lookup f_is_long = some ⟨oc_is_long, od_is_long, .func (PySem.W.fnOf "is_long" "is_long" (defArgs s_is_long) (defBody s_is_long) (defScope s_is_long) .none kV_is_long dc_is_long pm_is_long an_is_long cd_is_long ct_is_long), sl_is_long⟩) (c_is_long : PySem.W.codeIn K cd_is_long "is_long" = true) (k_is_long : PySem.W.keepIn K (.ref f_is_long) = true)
    {f_numbers_refusal : Addr} {od_numbers_refusal an_numbers_refusal : Option Addr} {sl_numbers_refusal : Array (Option Value)} {oc_numbers_refusal kV_numbers_refusal dc_numbers_refusal pm_numbers_refusal cd_numbers_refusal ct_numbers_refusal : Value}
    (a_numbers_refusal : PySem.W.nsIn K mainGlobals "numbers_refusal" = some (some (.ref f_numbers_refusal))) (l_numbers_refusal : K.lookup f_numbers_refusal = some ⟨oc_numbers_refusal, od_numbers_refusal, .func (PySem.W.fnOf "numbers_refusal" "numbers_refusal" (defArgs s_numbers_refusal) (defBody s_numbers_refusal) (defScope s_numbers_refusal) .none kV_numbers_refusal dc_numbers_refusal pm_numbers_refusal an_numbers_refusal cd_numbers_refusal ct_numbers_refusal), sl_numbers_refusal⟩) (c_numbers_refusal : PySem.W.codeIn K cd_numbers_refusal "numbers_refusal" = true) (k_numbers_refusal : PySem.W.keepIn K (.ref f_numbers_refusal) = true)
    {f_table_refusal : Addr} {od_table_refusal an_table_refusal : Option Addr} {sl_table_refusal : Array (Option Value)} {oc_table_refusal kV_table_refusal dc_table_refusal pm_table_refusal cd_table_refusal ct_table_refusal : Value}
    (a_table_refusal : PySem.W.nsIn K mainGlobals "table_refusal" = some (some (.ref f_table_refusal))) (l_table_refusal : K.lookup f_table_refusal = some ⟨oc_table_refusal, od_table_refusal, .func (PySem.W.fnOf "table_refusal" "table_refusal" (defArgs s_table_refusal) (defBody s_table_refusal) (defScope s_table_refusal) .none kV_table_refusal dc_table_refusal pm_table_refusal an_table_refusal cd_table_refusal ct_table_refusal), sl_table_refusal⟩) (c_table_refusal : PySem.W.codeIn K cd_table_refusal "table_refusal" = true) (k_table_refusal : PySem.W.keepIn K (.ref f_table_refusal) = true)
    {f_table_of : Addr} {od_table_of an_table_of : Option Addr} {sl_table_of : Array (Option Value)} {oc_table_of kV_table_of dc_table_of pm_table_of cd_table_of ct_table_of : Value}
    (a_table_of : PySem.W.nsIn K mainGlobals "table_of" = some (some (.ref f_table_of))) (l_table_of : K.lookup f_table_of = some ⟨oc_table_of, od_table_of, .func (PySem.W.fnOf "table_of" "table_of" (defArgs s_table_of) (defBody s_table_of) (defScope s_table_of) .none kV_table_of dc_table_of pm_table_of an_table_of cd_table_of ct_table_of), sl_table_of⟩) (c_table_of : PySem.W.codeIn K cd_table_of "table_of" = true) (k_table_of : PySem.W.keepIn K (.ref f_table_of) = true)
    {f_common_bottom : Addr} {od_common_bottom an_common_bottom : Option Addr} {sl_common_bottom : Array (Option Value)} {oc_common_bottom kV_common_bottom dc_common_bottom pm_common_bottom cd_common_bottom ct_common_bottom : Value}
    (a_common_bottom : PySem.W.nsIn K mainGlobals "common_bottom" = some (some (.ref f_common_bottom))) (l_common_bottom : K.lookup f_common_bottom = some ⟨oc_common_bottom, od_common_bottom, .func (PySem.W.fnOf "common_bottom" "common_bottom" (defArgs s_common_bottom) (defBody s_common_bottom) (defScope s_common_bottom) .none kV_common_bottom dc_common_bottom pm_common_bottom an_common_bottom cd_common_bottom ct_common_bottom), sl_common_bottom⟩) (c_common_bottom : PySem.W.codeIn K cd_common_bottom "common_bottom" = true) (k_common_bottom : PySem.W.keepIn K (.ref f_common_bottom) = true)
    {f_stretched : Addr} {od_stretched an_stretched : Option Addr} {sl_stretched : Array (Option Value)} {oc_stretched kV_stretched dc_stretched pm_stretched cd_stretched ct_stretched : Value}
    (a_stretched : PySem.W.nsIn K mainGlobals "stretched" = some (some (.ref f_stretched))) (l_stretched : K.lookup f_stretched = some ⟨oc_stretched, od_stretched, .func (PySem.W.fnOf "stretched" "stretched" (defArgs s_stretched) (defBody s_stretched) (defScope s_stretched) .none kV_stretched dc_stretched pm_stretched an_stretched cd_stretched ct_stretched), sl_stretched⟩) (c_stretched : PySem.W.codeIn K cd_stretched "stretched" = true) (k_stretched : PySem.W.keepIn K (.ref f_stretched) = true)
    {f_whole_at : Addr} {od_whole_at an_whole_at : Option Addr} {sl_whole_at : Array (Option Value)} {oc_whole_at kV_whole_at dc_whole_at pm_whole_at cd_whole_at ct_whole_at : Value}
    (a_whole_at : PySem.W.nsIn K mainGlobals "whole_at" = some (some (.ref f_whole_at))) (l_whole_at : K.lookup f_whole_at = some ⟨oc_whole_at, od_whole_at, .func (PySem.W.fnOf "whole_at" "whole_at" (defArgs s_whole_at) (defBody s_whole_at) (defScope s_whole_at) .none kV_whole_at dc_whole_at pm_whole_at an_whole_at cd_whole_at ct_whole_at), sl_whole_at⟩) (c_whole_at : PySem.W.codeIn K cd_whole_at "whole_at" = true) (k_whole_at : PySem.W.keepIn K (.ref f_whole_at) = true)
    {f_crossing : Addr} {od_crossing an_crossing : Option Addr} {sl_crossing : Array (Option Value)} {oc_crossing kV_crossing dc_crossing pm_crossing cd_crossing ct_crossing : Value}
    (a_crossing : PySem.W.nsIn K mainGlobals "crossing" = some (some (.ref f_crossing))) (l_crossing : K.lookup f_crossing = some ⟨oc_crossing, od_crossing, .func (PySem.W.fnOf "crossing" "crossing" (defArgs s_crossing) (defBody s_crossing) (defScope s_crossing) .none kV_crossing dc_crossing pm_crossing an_crossing cd_crossing ct_crossing), sl_crossing⟩) (c_crossing : PySem.W.codeIn K cd_crossing "crossing" = true) (k_crossing : PySem.W.keepIn K (.ref f_crossing) = true)
    {f_near_roots : Addr} {od_near_roots an_near_roots : Option Addr} {sl_near_roots : Array (Option Value)} {oc_near_roots kV_near_roots dc_near_roots pm_near_roots cd_near_roots ct_near_roots : Value}
    (a_near_roots : PySem.W.nsIn K mainGlobals "near_roots" = some (some (.ref f_near_roots))) (l_near_roots : K.lookup f_near_roots = some ⟨oc_near_roots, od_near_roots, .func (PySem.W.fnOf "near_roots" "near_roots" (defArgs s_near_roots) (defBody s_near_roots) (defScope s_near_roots) .none kV_near_roots dc_near_roots pm_near_roots an_near_roots cd_near_roots ct_near_roots), sl_near_roots⟩) (c_near_roots : PySem.W.codeIn K cd_near_roots "near_roots" = true) (k_near_roots : PySem.W.keepIn K (.ref f_near_roots) = true)
    {f_whole_roots : Addr} {od_whole_roots an_whole_roots : Option Addr} {sl_whole_roots : Array (Option Value)} {oc_whole_roots kV_whole_roots dc_whole_roots pm_whole_roots cd_whole_roots ct_whole_roots : Value}
    (a_whole_roots : PySem.W.nsIn K mainGlobals "whole_roots" = some (some (.ref f_whole_roots))) (l_whole_roots : K.lookup f_whole_roots = some ⟨oc_whole_roots, od_whole_roots, .func (PySem.W.fnOf "whole_roots" "whole_roots" (defArgs s_whole_roots) (defBody s_whole_roots) (defScope s_whole_roots) .none kV_whole_roots dc_whole_roots pm_whole_roots an_whole_roots cd_whole_roots ct_whole_roots), sl_whole_roots⟩) (c_whole_roots : PySem.W.codeIn K cd_whole_roots "whole_roots" = true) (k_whole_roots : PySem.W.keepIn K (.ref f_whole_roots) = true)
    {f_roots_of : Addr} {od_roots_of an_roots_of : Option Addr} {sl_roots_of : Array (Option Value)} {oc_roots_of kV_roots_of dc_roots_of pm_roots_of cd_roots_of ct_roots_of : Value}
    (a_roots_of : PySem.W.nsIn K mainGlobals "roots_of" = some (some (.ref f_roots_of))) (l_roots_of : K.lookup f_roots_of = some ⟨oc_roots_of, od_roots_of, .func (PySem.W.fnOf "roots_of" "roots_of" (defArgs s_roots_of) (defBody s_roots_of) (defScope s_roots_of) .none kV_roots_of dc_roots_of pm_roots_of an_roots_of cd_roots_of ct_roots_of), sl_roots_of⟩) (c_roots_of : PySem.W.codeIn K cd_roots_of "roots_of" = true) (k_roots_of : PySem.W.keepIn K (.ref f_roots_of) = true)
    {f_simple_of : Addr} {od_simple_of an_simple_of : Option Addr} {sl_simple_of : Array (Option Value)} {oc_simple_of kV_simple_of dc_simple_of pm_simple_of cd_simple_of ct_simple_of : Value}
    (a_simple_of : PySem.W.nsIn K mainGlobals "simple_of" = some (some (.ref f_simple_of))) (l_simple_of : K.lookup f_simple_of = some ⟨oc_simple_of, od_simple_of, .func (PySem.W.fnOf "simple_of" "simple_of" (defArgs s_simple_of) (defBody s_simple_of) (defScope s_simple_of) .none kV_simple_of dc_simple_of pm_simple_of an_simple_of cd_simple_of ct_simple_of), sl_simple_of⟩) (c_simple_of : PySem.W.codeIn K cd_simple_of "simple_of" = true) (k_simple_of : PySem.W.keepIn K (.ref f_simple_of) = true)
    {f_simple : Addr} {od_simple an_simple : Option Addr} {sl_simple : Array (Option Value)} {oc_simple kV_simple dc_simple pm_simple cd_simple ct_simple : Value}
    (a_simple : PySem.W.nsIn K mainGlobals "simple" = some (some (.ref f_simple))) (l_simple : K.lookup f_simple = some ⟨oc_simple, od_simple, .func (PySem.W.fnOf "simple" "simple" (defArgs s_simple) (defBody s_simple) (defScope s_simple) .none kV_simple dc_simple pm_simple an_simple cd_simple ct_simple), sl_simple⟩) (c_simple : PySem.W.codeIn K cd_simple "simple" = true) (k_simple : PySem.W.keepIn K (.ref f_simple) = true)
    (z_abs : PySem.W.nsIn K mainGlobals "abs" = some none)
    (z_any : PySem.W.nsIn K mainGlobals "any" = some none)
    (z_enumerate : PySem.W.nsIn K mainGlobals "enumerate" = some none)
    (z_len : PySem.W.nsIn K mainGlobals "len" = some none)
    (z_list : PySem.W.nsIn K mainGlobals "list" = some none)
    (z_max : PySem.W.nsIn K mainGlobals "max" = some none)
    (z_range : PySem.W.nsIn K mainGlobals "range" = some none)
    (z_reversed : PySem.W.nsIn K mainGlobals "reversed" = some none)
    (z_set : PySem.W.nsIn K mainGlobals "set" = some none)
    (z_sorted : PySem.W.nsIn K mainGlobals "sorted" = some none)
    (z_zip : PySem.W.nsIn K mainGlobals "zip" = some none)
    {x_ZERO : Addr} {xd_ZERO : Option Addr} {xi_ZERO : Array Value} {xn_ZERO : Nat} {xs_ZERO : Array (Option Value)} {xt_ZERO xu_ZERO : Tok} (xa_ZERO : PySem.W.nsIn K mainGlobals "ZERO" = some (some (.ref x_ZERO))) (xl_ZERO : K.lookup x_ZERO = some ⟨.type "tuple", xd_ZERO, .seq xi_ZERO xn_ZERO, xs_ZERO⟩) (xv_ZERO : xi_ZERO = #[.int 0 xt_ZERO, .int 1 xu_ZERO])
    {x_ONE : Addr} {xd_ONE : Option Addr} {xi_ONE : Array Value} {xn_ONE : Nat} {xs_ONE : Array (Option Value)} {xt_ONE xu_ONE : Tok} (xa_ONE : PySem.W.nsIn K mainGlobals "ONE" = some (some (.ref x_ONE))) (xl_ONE : K.lookup x_ONE = some ⟨.type "tuple", xd_ONE, .seq xi_ONE xn_ONE, xs_ONE⟩) (xv_ONE : xi_ONE = #[.int 1 xt_ONE, .int 1 xu_ONE])
    {xt_MINUS : Tok} (xa_MINUS : PySem.W.nsIn K mainGlobals "MINUS" = some (some (.int (45) xt_MINUS)))
    {xt_SLASH : Tok} (xa_SLASH : PySem.W.nsIn K mainGlobals "SLASH" = some (some (.int (47) xt_SLASH)))
    {xt_DIGIT_0 : Tok} (xa_DIGIT_0 : PySem.W.nsIn K mainGlobals "DIGIT_0" = some (some (.int (48) xt_DIGIT_0)))
    {xt_DIGIT_9 : Tok} (xa_DIGIT_9 : PySem.W.nsIn K mainGlobals "DIGIT_9" = some (some (.int (57) xt_DIGIT_9)))
    {xt_MOST : Tok} (xa_MOST : PySem.W.nsIn K mainGlobals "MOST" = some (some (.int (999999) xt_MOST)))
    {x_ROWS : Addr} {xe_ROWS : Array DictEntry} {xn_ROWS : Nat} (xa_ROWS : PySem.W.nsIn K mainGlobals "ROWS" = some (some (.ref x_ROWS))) (xl_ROWS : K.lookup x_ROWS = some ⟨.type "dict", none, .dict xe_ROWS xn_ROWS, #[]⟩) (xo_ROWS : (x_ROWS == sysModules) = false) (xv_ROWS : dictRows xe_ROWS = some [(1, 1), (4, 2), (9, 3), (16, 4)])
    {xt_NOT_SO_MANY : Tok} (xa_NOT_SO_MANY : PySem.W.nsIn K mainGlobals "NOT_SO_MANY" = some (some (.int (-6) xt_NOT_SO_MANY)))
    {xt_WRONG_TEXT : Tok} (xa_WRONG_TEXT : PySem.W.nsIn K mainGlobals "WRONG_TEXT" = some (some (.int (-1) xt_WRONG_TEXT)))
    {xt_TOO_LARGE : Tok} (xa_TOO_LARGE : PySem.W.nsIn K mainGlobals "TOO_LARGE" = some (some (.int (-2) xt_TOO_LARGE)))
    : ∃ fd : FuncData, (∀ (s : Shared) (us : List Value), us.length = (["a"] : List Str).length → BindsTo s fd ⟨us, []⟩ ((["a"] : List Str).zip us)) ∧ ∀ base : Heap, K.In base → base.Ns mainGlobals mg → FnOk P w K mg base CX0 13 fa fd ["a"] (spTop K dueSimple) := by
  have e : some (Value.ref f_simple) = some (Value.ref fa) := (PySem.W.mg_of X G a_simple).symm.trans hfa
  have e2 : f_simple = fa := Value.ref.inj (Option.some.inj e)
  subst e2
  have F_whole_common := fun_mk (st := s_whole_common) l_whole_common c_whole_common k_whole_common
  have D_whole_common : D K mg "whole_common" s_whole_common ["first", "second"] f_whole_common _ := ⟨F_whole_common, F_whole_common.binds fun _ _ _ _ _ _ us hl => match us, hl with | [_, _], _ => rfl, PySem.W.mg_of X G a_whole_common⟩
  have F_lowest := fun_mk (st := s_lowest) l_lowest c_lowest k_lowest
  have D_lowest : D K mg "lowest" s_lowest ["top", "bottom"] f_lowest _ := ⟨F_lowest, F_lowest.binds fun _ _ _ _ _ _ us hl => match us, hl with | [_, _], _ => rfl, PySem.W.mg_of X G a_lowest⟩
  have F_ratio_sum := fun_mk (st := s_ratio_sum) l_ratio_sum c_ratio_sum k_ratio_sum
  have D_ratio_sum : D K mg "ratio_sum" s_ratio_sum ["first", "second"] f_ratio_sum _ := ⟨F_ratio_sum, F_ratio_sum.binds fun _ _ _ _ _ _ us hl => match us, hl with | [_, _], _ => rfl, PySem.W.mg_of X G a_ratio_sum⟩
  have F_ratio_minus := fun_mk (st := s_ratio_minus) l_ratio_minus c_ratio_minus k_ratio_minus
  have D_ratio_minus : D K mg "ratio_minus" s_ratio_minus ["number"] f_ratio_minus _ := ⟨F_ratio_minus, F_ratio_minus.binds fun _ _ _ _ _ _ us hl => match us, hl with | [_], _ => rfl, PySem.W.mg_of X G a_ratio_minus⟩
  have F_ratio_product := fun_mk (st := s_ratio_product) l_ratio_product c_ratio_product k_ratio_product
  have D_ratio_product : D K mg "ratio_product" s_ratio_product ["first", "second"] f_ratio_product _ := ⟨F_ratio_product, F_ratio_product.binds fun _ _ _ _ _ _ us hl => match us, hl with | [_, _], _ => rfl, PySem.W.mg_of X G a_ratio_product⟩
  have F_ratio_quotient := fun_mk (st := s_ratio_quotient) l_ratio_quotient c_ratio_quotient k_ratio_quotient
  have D_ratio_quotient : D K mg "ratio_quotient" s_ratio_quotient ["first", "second"] f_ratio_quotient _ := ⟨F_ratio_quotient, F_ratio_quotient.binds fun _ _ _ _ _ _ us hl => match us, hl with | [_, _], _ => rfl, PySem.W.mg_of X G a_ratio_quotient⟩
  have F_trimmed := fun_mk (st := s_trimmed) l_trimmed c_trimmed k_trimmed
  have D_trimmed : D K mg "trimmed" s_trimmed ["numbers"] f_trimmed _ := ⟨F_trimmed, F_trimmed.binds fun _ _ _ _ _ _ us hl => match us, hl with | [_], _ => rfl, PySem.W.mg_of X G a_trimmed⟩
  have F_number_at := fun_mk (st := s_number_at) l_number_at c_number_at k_number_at
  have D_number_at : D K mg "number_at" s_number_at ["p", "power"] f_number_at _ := ⟨F_number_at, F_number_at.binds fun _ _ _ _ _ _ us hl => match us, hl with | [_, _], _ => rfl, PySem.W.mg_of X G a_number_at⟩
  have F_poly_sum := fun_mk (st := s_poly_sum) l_poly_sum c_poly_sum k_poly_sum
  have D_poly_sum : D K mg "poly_sum" s_poly_sum ["p", "q"] f_poly_sum _ := ⟨F_poly_sum, F_poly_sum.binds fun _ _ _ _ _ _ us hl => match us, hl with | [_, _], _ => rfl, PySem.W.mg_of X G a_poly_sum⟩
  have F_poly_minus := fun_mk (st := s_poly_minus) l_poly_minus c_poly_minus k_poly_minus
  have D_poly_minus : D K mg "poly_minus" s_poly_minus ["p"] f_poly_minus _ := ⟨F_poly_minus, F_poly_minus.binds fun _ _ _ _ _ _ us hl => match us, hl with | [_], _ => rfl, PySem.W.mg_of X G a_poly_minus⟩
  have F_poly_product := fun_mk (st := s_poly_product) l_poly_product c_poly_product k_poly_product
  have D_poly_product : D K mg "poly_product" s_poly_product ["p", "q"] f_poly_product _ := ⟨F_poly_product, F_poly_product.binds fun _ _ _ _ _ _ us hl => match us, hl with | [_, _], _ => rfl, PySem.W.mg_of X G a_poly_product⟩
  have F_poly_slope := fun_mk (st := s_poly_slope) l_poly_slope c_poly_slope k_poly_slope
  have D_poly_slope : D K mg "poly_slope" s_poly_slope ["p"] f_poly_slope _ := ⟨F_poly_slope, F_poly_slope.binds fun _ _ _ _ _ _ us hl => match us, hl with | [_], _ => rfl, PySem.W.mg_of X G a_poly_slope⟩
  have F_poly_divided := fun_mk (st := s_poly_divided) l_poly_divided c_poly_divided k_poly_divided
  have D_poly_divided : D K mg "poly_divided" s_poly_divided ["p", "q"] f_poly_divided _ := ⟨F_poly_divided, F_poly_divided.binds fun _ _ _ _ _ _ us hl => match us, hl with | [_, _], _ => rfl, PySem.W.mg_of X G a_poly_divided⟩
  have F_with_one_on_top := fun_mk (st := s_with_one_on_top) l_with_one_on_top c_with_one_on_top k_with_one_on_top
  have D_with_one_on_top : D K mg "with_one_on_top" s_with_one_on_top ["p"] f_with_one_on_top _ := ⟨F_with_one_on_top, F_with_one_on_top.binds fun _ _ _ _ _ _ us hl => match us, hl with | [_], _ => rfl, PySem.W.mg_of X G a_with_one_on_top⟩
  have F_poly_common := fun_mk (st := s_poly_common) l_poly_common c_poly_common k_poly_common
  have D_poly_common : D K mg "poly_common" s_poly_common ["p", "q"] f_poly_common _ := ⟨F_poly_common, F_poly_common.binds fun _ _ _ _ _ _ us hl => match us, hl with | [_, _], _ => rfl, PySem.W.mg_of X G a_poly_common⟩
  have F_common_of_all := fun_mk (st := s_common_of_all) l_common_of_all c_common_of_all k_common_of_all
  have D_common_of_all : D K mg "common_of_all" s_common_of_all ["polys"] f_common_of_all _ := ⟨F_common_of_all, F_common_of_all.binds fun _ _ _ _ _ _ us hl => match us, hl with | [_], _ => rfl, PySem.W.mg_of X G a_common_of_all⟩
  have F_x_less := fun_mk (st := s_x_less) l_x_less c_x_less k_x_less
  have D_x_less : D K mg "x_less" s_x_less ["table"] f_x_less _ := ⟨F_x_less, F_x_less.binds fun _ _ _ _ _ _ us hl => match us, hl with | [_], _ => rfl, PySem.W.mg_of X G a_x_less⟩
  have F_without_column := fun_mk (st := s_without_column) l_without_column c_without_column k_without_column
  have D_without_column : D K mg "without_column" s_without_column ["rows", "column"] f_without_column _ := ⟨F_without_column, F_without_column.binds fun _ _ _ _ _ _ us hl => match us, hl with | [_, _], _ => rfl, PySem.W.mg_of X G a_without_column⟩
  have F_determinant := fun_mk (st := s_determinant) l_determinant c_determinant k_determinant
  have D_determinant : D K mg "determinant" s_determinant ["rows"] f_determinant _ := ⟨F_determinant, F_determinant.binds fun _ _ _ _ _ _ us hl => match us, hl with | [_], _ => rfl, PySem.W.mg_of X G a_determinant⟩
  have F_choices := fun_mk (st := s_choices) l_choices c_choices k_choices
  have D_choices : D K mg "choices" s_choices ["count", "size"] f_choices _ := ⟨F_choices, F_choices.binds fun _ _ _ _ _ _ us hl => match us, hl with | [_, _], _ => rfl, PySem.W.mg_of X G a_choices⟩
  have F_part_of := fun_mk (st := s_part_of) l_part_of c_part_of k_part_of
  have D_part_of : D K mg "part_of" s_part_of ["rows", "chosen_rows", "chosen_columns"] f_part_of _ := ⟨F_part_of, F_part_of.binds fun _ _ _ _ _ _ us hl => match us, hl with | [_, _, _], _ => rfl, PySem.W.mg_of X G a_part_of⟩
  have F_minors := fun_mk (st := s_minors) l_minors c_minors k_minors
  have D_minors : D K mg "minors" s_minors ["rows", "size"] f_minors _ := ⟨F_minors, F_minors.binds fun _ _ _ _ _ _ us hl => match us, hl with | [_, _], _ => rfl, PySem.W.mg_of X G a_minors⟩
  have F_forms_of := fun_mk (st := s_forms_of) l_forms_of c_forms_of k_forms_of
  have D_forms_of : D K mg "forms_of" s_forms_of ["table"] f_forms_of _ := ⟨F_forms_of, F_forms_of.binds fun _ _ _ _ _ _ us hl => match us, hl with | [_], _ => rfl, PySem.W.mg_of X G a_forms_of⟩
  have F_whole_of := fun_mk (st := s_whole_of) l_whole_of c_whole_of k_whole_of
  have D_whole_of : D K mg "whole_of" s_whole_of ["digits"] f_whole_of _ := ⟨F_whole_of, F_whole_of.binds fun _ _ _ _ _ _ us hl => match us, hl with | [_], _ => rfl, PySem.W.mg_of X G a_whole_of⟩
  have F_unsigned_of := fun_mk (st := s_unsigned_of) l_unsigned_of c_unsigned_of k_unsigned_of
  have D_unsigned_of : D K mg "unsigned_of" s_unsigned_of ["text"] f_unsigned_of _ := ⟨F_unsigned_of, F_unsigned_of.binds fun _ _ _ _ _ _ us hl => match us, hl with | [_], _ => rfl, PySem.W.mg_of X G a_unsigned_of⟩
  have F_number_of := fun_mk (st := s_number_of) l_number_of c_number_of k_number_of
  have D_number_of : D K mg "number_of" s_number_of ["text"] f_number_of _ := ⟨F_number_of, F_number_of.binds fun _ _ _ _ _ _ us hl => match us, hl with | [_], _ => rfl, PySem.W.mg_of X G a_number_of⟩
  have F_numbers_of := fun_mk (st := s_numbers_of) l_numbers_of c_numbers_of k_numbers_of
  have D_numbers_of : D K mg "numbers_of" s_numbers_of ["texts"] f_numbers_of _ := ⟨F_numbers_of, F_numbers_of.binds fun _ _ _ _ _ _ us hl => match us, hl with | [_], _ => rfl, PySem.W.mg_of X G a_numbers_of⟩
  have F_is_long := fun_mk (st := s_is_long) l_is_long c_is_long k_is_long
  have D_is_long : D K mg "is_long" s_is_long ["number"] f_is_long _ := ⟨F_is_long, F_is_long.binds fun _ _ _ _ _ _ us hl => match us, hl with | [_], _ => rfl, PySem.W.mg_of X G a_is_long⟩
  have F_numbers_refusal := fun_mk (st := s_numbers_refusal) l_numbers_refusal c_numbers_refusal k_numbers_refusal
  have D_numbers_refusal : D K mg "numbers_refusal" s_numbers_refusal ["texts"] f_numbers_refusal _ := ⟨F_numbers_refusal, F_numbers_refusal.binds fun _ _ _ _ _ _ us hl => match us, hl with | [_], _ => rfl, PySem.W.mg_of X G a_numbers_refusal⟩
  have F_table_refusal := fun_mk (st := s_table_refusal) l_table_refusal c_table_refusal k_table_refusal
  have D_table_refusal : D K mg "table_refusal" s_table_refusal ["texts"] f_table_refusal _ := ⟨F_table_refusal, F_table_refusal.binds fun _ _ _ _ _ _ us hl => match us, hl with | [_], _ => rfl, PySem.W.mg_of X G a_table_refusal⟩
  have F_table_of := fun_mk (st := s_table_of) l_table_of c_table_of k_table_of
  have D_table_of : D K mg "table_of" s_table_of ["texts"] f_table_of _ := ⟨F_table_of, F_table_of.binds fun _ _ _ _ _ _ us hl => match us, hl with | [_], _ => rfl, PySem.W.mg_of X G a_table_of⟩
  have F_common_bottom := fun_mk (st := s_common_bottom) l_common_bottom c_common_bottom k_common_bottom
  have D_common_bottom : D K mg "common_bottom" s_common_bottom ["p"] f_common_bottom _ := ⟨F_common_bottom, F_common_bottom.binds fun _ _ _ _ _ _ us hl => match us, hl with | [_], _ => rfl, PySem.W.mg_of X G a_common_bottom⟩
  have F_stretched := fun_mk (st := s_stretched) l_stretched c_stretched k_stretched
  have D_stretched : D K mg "stretched" s_stretched ["p", "factor"] f_stretched _ := ⟨F_stretched, F_stretched.binds fun _ _ _ _ _ _ us hl => match us, hl with | [_, _], _ => rfl, PySem.W.mg_of X G a_stretched⟩
  have F_whole_at := fun_mk (st := s_whole_at) l_whole_at c_whole_at k_whole_at
  have D_whole_at : D K mg "whole_at" s_whole_at ["p", "place"] f_whole_at _ := ⟨F_whole_at, F_whole_at.binds fun _ _ _ _ _ _ us hl => match us, hl with | [_, _], _ => rfl, PySem.W.mg_of X G a_whole_at⟩
  have F_crossing := fun_mk (st := s_crossing) l_crossing c_crossing k_crossing
  have D_crossing : D K mg "crossing" s_crossing ["p", "low", "high"] f_crossing _ := ⟨F_crossing, F_crossing.binds fun _ _ _ _ _ _ us hl => match us, hl with | [_, _, _], _ => rfl, PySem.W.mg_of X G a_crossing⟩
  have F_near_roots := fun_mk (st := s_near_roots) l_near_roots c_near_roots k_near_roots
  have D_near_roots : D K mg "near_roots" s_near_roots ["p", "turns"] f_near_roots _ := ⟨F_near_roots, F_near_roots.binds fun _ _ _ _ _ _ us hl => match us, hl with | [_, _], _ => rfl, PySem.W.mg_of X G a_near_roots⟩
  have F_whole_roots := fun_mk (st := s_whole_roots) l_whole_roots c_whole_roots k_whole_roots
  have D_whole_roots : D K mg "whole_roots" s_whole_roots ["p"] f_whole_roots _ := ⟨F_whole_roots, F_whole_roots.binds fun _ _ _ _ _ _ us hl => match us, hl with | [_], _ => rfl, PySem.W.mg_of X G a_whole_roots⟩
  have F_roots_of := fun_mk (st := s_roots_of) l_roots_of c_roots_of k_roots_of
  have D_roots_of : D K mg "roots_of" s_roots_of ["p"] f_roots_of _ := ⟨F_roots_of, F_roots_of.binds fun _ _ _ _ _ _ us hl => match us, hl with | [_], _ => rfl, PySem.W.mg_of X G a_roots_of⟩
  have F_simple_of := fun_mk (st := s_simple_of) l_simple_of c_simple_of k_simple_of
  have D_simple_of : D K mg "simple_of" s_simple_of ["least"] f_simple_of _ := ⟨F_simple_of, F_simple_of.binds fun _ _ _ _ _ _ us hl => match us, hl with | [_], _ => rfl, PySem.W.mg_of X G a_simple_of⟩
  have F_simple := fun_mk (st := s_simple) l_simple c_simple k_simple
  have D_simple : D K mg "simple" s_simple ["a"] f_simple _ := ⟨F_simple, F_simple.binds fun _ _ _ _ _ _ us hl => match us, hl with | [_], _ => rfl, PySem.W.mg_of X G a_simple⟩
  let T : Txt K mg := {
    f_whole_common := f_whole_common, e_whole_common := _, d_whole_common := D_whole_common,
    f_lowest := f_lowest, e_lowest := _, d_lowest := D_lowest,
    f_ratio_sum := f_ratio_sum, e_ratio_sum := _, d_ratio_sum := D_ratio_sum,
    f_ratio_minus := f_ratio_minus, e_ratio_minus := _, d_ratio_minus := D_ratio_minus,
    f_ratio_product := f_ratio_product, e_ratio_product := _, d_ratio_product := D_ratio_product,
    f_ratio_quotient := f_ratio_quotient, e_ratio_quotient := _, d_ratio_quotient := D_ratio_quotient,
    f_trimmed := f_trimmed, e_trimmed := _, d_trimmed := D_trimmed,
    f_number_at := f_number_at, e_number_at := _, d_number_at := D_number_at,
    f_poly_sum := f_poly_sum, e_poly_sum := _, d_poly_sum := D_poly_sum,
    f_poly_minus := f_poly_minus, e_poly_minus := _, d_poly_minus := D_poly_minus,
    f_poly_product := f_poly_product, e_poly_product := _, d_poly_product := D_poly_product,
    f_poly_slope := f_poly_slope, e_poly_slope := _, d_poly_slope := D_poly_slope,
    f_poly_divided := f_poly_divided, e_poly_divided := _, d_poly_divided := D_poly_divided,
    f_with_one_on_top := f_with_one_on_top, e_with_one_on_top := _, d_with_one_on_top := D_with_one_on_top,
    f_poly_common := f_poly_common, e_poly_common := _, d_poly_common := D_poly_common,
    f_common_of_all := f_common_of_all, e_common_of_all := _, d_common_of_all := D_common_of_all,
    f_x_less := f_x_less, e_x_less := _, d_x_less := D_x_less,
    f_without_column := f_without_column, e_without_column := _, d_without_column := D_without_column,
    f_determinant := f_determinant, e_determinant := _, d_determinant := D_determinant,
    f_choices := f_choices, e_choices := _, d_choices := D_choices,
    f_part_of := f_part_of, e_part_of := _, d_part_of := D_part_of,
    f_minors := f_minors, e_minors := _, d_minors := D_minors,
    f_forms_of := f_forms_of, e_forms_of := _, d_forms_of := D_forms_of,
    f_whole_of := f_whole_of, e_whole_of := _, d_whole_of := D_whole_of,
    f_unsigned_of := f_unsigned_of, e_unsigned_of := _, d_unsigned_of := D_unsigned_of,
    f_number_of := f_number_of, e_number_of := _, d_number_of := D_number_of,
    f_numbers_of := f_numbers_of, e_numbers_of := _, d_numbers_of := D_numbers_of,
    f_is_long := f_is_long, e_is_long := _, d_is_long := D_is_long,
    f_numbers_refusal := f_numbers_refusal, e_numbers_refusal := _, d_numbers_refusal := D_numbers_refusal,
    f_table_refusal := f_table_refusal, e_table_refusal := _, d_table_refusal := D_table_refusal,
    f_table_of := f_table_of, e_table_of := _, d_table_of := D_table_of,
    f_common_bottom := f_common_bottom, e_common_bottom := _, d_common_bottom := D_common_bottom,
    f_stretched := f_stretched, e_stretched := _, d_stretched := D_stretched,
    f_whole_at := f_whole_at, e_whole_at := _, d_whole_at := D_whole_at,
    f_crossing := f_crossing, e_crossing := _, d_crossing := D_crossing,
    f_near_roots := f_near_roots, e_near_roots := _, d_near_roots := D_near_roots,
    f_whole_roots := f_whole_roots, e_whole_roots := _, d_whole_roots := D_whole_roots,
    f_roots_of := f_roots_of, e_roots_of := _, d_roots_of := D_roots_of,
    f_simple_of := f_simple_of, e_simple_of := _, d_simple_of := D_simple_of,
    f_simple := f_simple, e_simple := _, d_simple := D_simple,
    z_abs := PySem.W.mg_none_of X G z_abs,
    z_any := PySem.W.mg_none_of X G z_any,
    z_enumerate := PySem.W.mg_none_of X G z_enumerate,
    z_len := PySem.W.mg_none_of X G z_len,
    z_list := PySem.W.mg_none_of X G z_list,
    z_max := PySem.W.mg_none_of X G z_max,
    z_range := PySem.W.mg_none_of X G z_range,
    z_reversed := PySem.W.mg_none_of X G z_reversed,
    z_set := PySem.W.mg_none_of X G z_set,
    z_sorted := PySem.W.mg_none_of X G z_sorted,
    z_zip := PySem.W.mg_none_of X G z_zip,
    a_ZERO := x_ZERO, g_ZERO := PySem.W.mg_of X G xa_ZERO, t_ZERO := fun H => .inr ⟨_, _, _, xl_ZERO, rfl, rfl, by rw [xv_ZERO]; show 2 ≤ sizeLine; decide, by rw [xv_ZERO]; exact .cons ⟨_, rfl⟩ (.cons ⟨_, rfl⟩ .nil)⟩,
    a_ONE := x_ONE, g_ONE := PySem.W.mg_of X G xa_ONE, t_ONE := fun H => .inr ⟨_, _, _, xl_ONE, rfl, rfl, by rw [xv_ONE]; show 2 ≤ sizeLine; decide, by rw [xv_ONE]; exact .cons ⟨_, rfl⟩ (.cons ⟨_, rfl⟩ .nil)⟩,
    g_MINUS := ⟨_, PySem.W.mg_of X G xa_MINUS⟩,
    g_SLASH := ⟨_, PySem.W.mg_of X G xa_SLASH⟩,
    g_DIGIT_0 := ⟨_, PySem.W.mg_of X G xa_DIGIT_0⟩,
    g_DIGIT_9 := ⟨_, PySem.W.mg_of X G xa_DIGIT_9⟩,
    g_MOST := ⟨_, PySem.W.mg_of X G xa_MOST⟩,
    a_ROWS := x_ROWS, g_ROWS := PySem.W.mg_of X G xa_ROWS, e_ROWS := xe_ROWS, m_ROWS := xn_ROWS, l_ROWS := xl_ROWS, o_ROWS := xo_ROWS, v_ROWS := xv_ROWS,
    g_NOT_SO_MANY := ⟨_, PySem.W.mg_of X G xa_NOT_SO_MANY⟩,
    g_WRONG_TEXT := ⟨_, PySem.W.mg_of X G xa_WRONG_TEXT⟩,
    g_TOO_LARGE := ⟨_, PySem.W.mg_of X G xa_TOO_LARGE⟩ }
  exact ⟨PySem.W.fnOf "simple" "simple" (defArgs s_simple) (defBody s_simple) (defScope s_simple) .none kV_simple dc_simple pm_simple an_simple cd_simple ct_simple, fun s us hu => match us, hu with | [_], _ => .of_eq rfl, fun base _ _ => ok_simple T⟩
end W
open PySem PySem.W PyProof.Rows
set_option maxRecDepth 100000 in
set_option maxHeartbeats 0 in
theorem PySem.Challenge.cw_tablesalike_s10_simple_holds : PySem.Challenge.rw_tablesalike_s10_simple.Holds := by
  w_on; k_headS; (case hw => exact ⟨[.list []], by decide +kernel, by decide +kernel⟩)
  k_fillS
  refine L2.walk_specK (r := PySem.Challenge.rw_tablesalike_s10_simple) (k := 13) (CX := L2.CX0) (ps := ["a"]) (sp := fun K => W.spTop K W.dueSimple) (by decide +kernel) rfl rfl ⟨rfl, by decide, by decide⟩ (fun w h Y => PySem.W.kIn_of Y) ?F ?S (fun _ _ _ _ z => z)
  case F =>
    intro w mg fa h Y KX G hmg
    refine' W.all_mk KX G hmg ?a_whole_common ?l_whole_common ?c_whole_common ?k_whole_common ?a_lowest ?l_lowest ?c_lowest ?k_lowest ?a_ratio_sum ?l_ratio_sum ?c_ratio_sum ?k_ratio_sum ?a_ratio_minus ?l_ratio_minus ?c_ratio_minus ?k_ratio_minus ?a_ratio_product ?l_ratio_product ?c_ratio_product ?k_ratio_product ?a_ratio_quotient ?l_ratio_quotient ?c_ratio_quotient ?k_ratio_quotient ?a_trimmed ?l_trimmed ?c_trimmed ?k_trimmed ?a_number_at ?l_number_at ?c_number_at ?k_number_at ?a_poly_sum ?l_poly_sum ?c_poly_sum ?k_poly_sum ?a_poly_minus ?l_poly_minus ?c_poly_minus ?k_poly_minus ?a_poly_product ?l_poly_product ?c_poly_product ?k_poly_product ?a_poly_slope ?l_poly_slope ?c_poly_slope ?k_poly_slope ?a_poly_divided ?l_poly_divided ?c_poly_divided ?k_poly_divided ?a_with_one_on_top ?l_with_one_on_top ?c_with_one_on_top ?k_with_one_on_top ?a_poly_common ?l_poly_common ?c_poly_common ?k_poly_common ?a_common_of_all ?l_common_of_all ?c_common_of_all ?k_common_of_all ?a_x_less ?l_x_less ?c_x_less ?k_x_less ?a_without_column ?l_without_column ?c_without_column ?k_without_column ?a_determinant ?l_determinant ?c_determinant ?k_determinant ?a_choices ?l_choices ?c_choices ?k_choices ?a_part_of ?l_part_of ?c_part_of ?k_part_of ?a_minors ?l_minors ?c_minors ?k_minors ?a_forms_of ?l_forms_of ?c_forms_of ?k_forms_of ?a_whole_of ?l_whole_of ?c_whole_of ?k_whole_of ?a_unsigned_of ?l_unsigned_of ?c_unsigned_of ?k_unsigned_of ?a_number_of ?l_number_of ?c_number_of ?k_number_of ?a_numbers_of ?l_numbers_of ?c_numbers_of ?k_numbers_of ?a_is_long ?l_is_long ?c_is_long ?k_is_long ?a_numbers_refusal ?l_numbers_refusal ?c_numbers_refusal ?k_numbers_refusal ?a_table_refusal ?l_table_refusal ?c_table_refusal ?k_table_refusal ?a_table_of ?l_table_of ?c_table_of ?k_table_of ?a_common_bottom ?l_common_bottom ?c_common_bottom ?k_common_bottom ?a_stretched ?l_stretched ?c_stretched ?k_stretched ?a_whole_at ?l_whole_at ?c_whole_at ?k_whole_at ?a_crossing ?l_crossing ?c_crossing ?k_crossing ?a_near_roots ?l_near_roots ?c_near_roots ?k_near_roots ?a_whole_roots ?l_whole_roots ?c_whole_roots ?k_whole_roots ?a_roots_of ?l_roots_of ?c_roots_of ?k_roots_of ?a_simple_of ?l_simple_of ?c_simple_of ?k_simple_of ?a_simple ?l_simple ?c_simple ?k_simple ?z_abs ?z_any ?z_enumerate ?z_len ?z_list ?z_max ?z_range ?z_reversed ?z_set ?z_sorted ?z_zip ?xa_ZERO ?xl_ZERO ?xv_ZERO ?xa_ONE ?xl_ONE ?xv_ONE ?xa_MINUS ?xa_SLASH ?xa_DIGIT_0 ?xa_DIGIT_9 ?xa_MOST ?xa_ROWS ?xl_ROWS ?xo_ROWS ?xv_ROWS ?xa_NOT_SO_MANY ?xa_WRONG_TEXT ?xa_TOO_LARGE
    (case a_whole_common => k_is)
    (case l_whole_common => k_is)
    (case c_whole_common => k_is)
    (case k_whole_common => k_is)
    (case a_lowest => k_is)
    (case l_lowest => k_is)
    (case c_lowest => k_is)
    (case k_lowest => k_is)
    (case a_ratio_sum => k_is)
    (case l_ratio_sum => k_is)
    (case c_ratio_sum => k_is)
    (case k_ratio_sum => k_is)
    (case a_ratio_minus => k_is)
    (case l_ratio_minus => k_is)
    (case c_ratio_minus => k_is)
    (case k_ratio_minus => k_is)
    (case a_ratio_product => k_is)
    (case l_ratio_product => k_is)
    (case c_ratio_product => k_is)
    (case k_ratio_product => k_is)
    (case a_ratio_quotient => k_is)
    (case l_ratio_quotient => k_is)
    (case c_ratio_quotient => k_is)
    (case k_ratio_quotient => k_is)
    (case a_trimmed => k_is)
    (case l_trimmed => k_is)
    (case c_trimmed => k_is)
    (case k_trimmed => k_is)
    (case a_number_at => k_is)
    (case l_number_at => k_is)
    (case c_number_at => k_is)
    (case k_number_at => k_is)
    (case a_poly_sum => k_is)
    (case l_poly_sum => k_is)
    (case c_poly_sum => k_is)
    (case k_poly_sum => k_is)
    (case a_poly_minus => k_is)
    (case l_poly_minus => k_is)
    (case c_poly_minus => k_is)
    (case k_poly_minus => k_is)
    (case a_poly_product => k_is)
    (case l_poly_product => k_is)
    (case c_poly_product => k_is)
    (case k_poly_product => k_is)
    (case a_poly_slope => k_is)
    (case l_poly_slope => k_is)
    (case c_poly_slope => k_is)
    (case k_poly_slope => k_is)
    (case a_poly_divided => k_is)
    (case l_poly_divided => k_is)
    (case c_poly_divided => k_is)
    (case k_poly_divided => k_is)
    (case a_with_one_on_top => k_is)
    (case l_with_one_on_top => k_is)
    (case c_with_one_on_top => k_is)
    (case k_with_one_on_top => k_is)
    (case a_poly_common => k_is)
    (case l_poly_common => k_is)
    (case c_poly_common => k_is)
    (case k_poly_common => k_is)
    (case a_common_of_all => k_is)
    (case l_common_of_all => k_is)
    (case c_common_of_all => k_is)
    (case k_common_of_all => k_is)
    (case a_x_less => k_is)
    (case l_x_less => k_is)
    (case c_x_less => k_is)
    (case k_x_less => k_is)
    (case a_without_column => k_is)
    (case l_without_column => k_is)
    (case c_without_column => k_is)
    (case k_without_column => k_is)
    (case a_determinant => k_is)
    (case l_determinant => k_is)
    (case c_determinant => k_is)
    (case k_determinant => k_is)
    (case a_choices => k_is)
    (case l_choices => k_is)
    (case c_choices => k_is)
    (case k_choices => k_is)
    (case a_part_of => k_is)
    (case l_part_of => k_is)
    (case c_part_of => k_is)
    (case k_part_of => k_is)
    (case a_minors => k_is)
    (case l_minors => k_is)
    (case c_minors => k_is)
    (case k_minors => k_is)
    (case a_forms_of => k_is)
    (case l_forms_of => k_is)
    (case c_forms_of => k_is)
    (case k_forms_of => k_is)
    (case a_whole_of => k_is)
    (case l_whole_of => k_is)
    (case c_whole_of => k_is)
    (case k_whole_of => k_is)
    (case a_unsigned_of => k_is)
    (case l_unsigned_of => k_is)
    (case c_unsigned_of => k_is)
    (case k_unsigned_of => k_is)
    (case a_number_of => k_is)
    (case l_number_of => k_is)
    (case c_number_of => k_is)
    (case k_number_of => k_is)
    (case a_numbers_of => k_is)
    (case l_numbers_of => k_is)
    (case c_numbers_of => k_is)
    (case k_numbers_of => k_is)
    (case a_is_long => k_is)
    (case l_is_long => k_is)
    (case c_is_long => k_is)
    (case k_is_long => k_is)
    (case a_numbers_refusal => k_is)
    (case l_numbers_refusal => k_is)
    (case c_numbers_refusal => k_is)
    (case k_numbers_refusal => k_is)
    (case a_table_refusal => k_is)
    (case l_table_refusal => k_is)
    (case c_table_refusal => k_is)
    (case k_table_refusal => k_is)
    (case a_table_of => k_is)
    (case l_table_of => k_is)
    (case c_table_of => k_is)
    (case k_table_of => k_is)
    (case a_common_bottom => k_is)
    (case l_common_bottom => k_is)
    (case c_common_bottom => k_is)
    (case k_common_bottom => k_is)
    (case a_stretched => k_is)
    (case l_stretched => k_is)
    (case c_stretched => k_is)
    (case k_stretched => k_is)
    (case a_whole_at => k_is)
    (case l_whole_at => k_is)
    (case c_whole_at => k_is)
    (case k_whole_at => k_is)
    (case a_crossing => k_is)
    (case l_crossing => k_is)
    (case c_crossing => k_is)
    (case k_crossing => k_is)
    (case a_near_roots => k_is)
    (case l_near_roots => k_is)
    (case c_near_roots => k_is)
    (case k_near_roots => k_is)
    (case a_whole_roots => k_is)
    (case l_whole_roots => k_is)
    (case c_whole_roots => k_is)
    (case k_whole_roots => k_is)
    (case a_roots_of => k_is)
    (case l_roots_of => k_is)
    (case c_roots_of => k_is)
    (case k_roots_of => k_is)
    (case a_simple_of => k_is)
    (case l_simple_of => k_is)
    (case c_simple_of => k_is)
    (case k_simple_of => k_is)
    (case a_simple => k_is)
    (case l_simple => k_is)
    (case c_simple => k_is)
    (case k_simple => k_is)
    (case z_abs => k_is)
    (case z_any => k_is)
    (case z_enumerate => k_is)
    (case z_len => k_is)
    (case z_list => k_is)
    (case z_max => k_is)
    (case z_range => k_is)
    (case z_reversed => k_is)
    (case z_set => k_is)
    (case z_sorted => k_is)
    (case z_zip => k_is)
    (case xa_ZERO => k_is)
    (case xl_ZERO => k_is)
    (case xv_ZERO => rfl)
    (case xa_ONE => k_is)
    (case xl_ONE => k_is)
    (case xv_ONE => rfl)
    (case xa_MINUS => k_is)
    (case xa_SLASH => k_is)
    (case xa_DIGIT_0 => k_is)
    (case xa_DIGIT_9 => k_is)
    (case xa_MOST => k_is)
    (case xa_ROWS => k_is)
    (case xl_ROWS => k_is)
    (case xo_ROWS => rfl)
    (case xv_ROWS => decide +kernel)
    (case xa_NOT_SO_MANY => k_is)
    (case xa_WRONG_TEXT => k_is)
    (case xa_TOO_LARGE => k_is)
  case S =>
    intro K H xs a hO hwi hask hx
    cases hx with
    | cons h1 h2 =>
      cases h2
      cases h1 with
      | lst hs ha =>
        have q : ((Codec.inLen 0 20 a.1 && a.1.all (fun l => Codec.inLen 0 1000 l && l.all (Codec.inInt 0 255))) && true) = true := hwi
        rw [Bool.and_eq_true, Bool.and_eq_true] at q
        have hlen : a.1.length ≤ 20 := (Codec.inNat_iff.mp q.1.1).2
        have hrow := W.rows_in q.1.2
        have hT := W.texts_dw a.1 _ (fun l hl => (hrow l hl).2) ha
        refine ⟨_, _, a.1.map W.unZ, rfl, hs, hT, W.unZ_len hrow, by rw [List.length_map]; omega, fun H' p hp => ?_⟩
        have e : PyAl09.simple a.1 = W.dueSimple (a.1.map W.unZ) := by
          rw [← W.due_eq, W.unZ_all hrow]
        have hr2 : L2.Dw K H' (.ref p) (WData.list ((PyAl09.simple a.1).map WData.int)) := by
          rw [e]
          exact .lst (L2.SqL.of hp) (L2.dw_ints _)
        exact hr2
#print axioms PySem.Challenge.cw_tablesalike_s10_simple_holds
