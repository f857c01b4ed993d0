import PyProof.Rows.All
import Wide.All
import OpenK.AllK
import Wide.FinOn
import Open.SpecLaws
import KE.OsGo
import HandS.ForSpec
import HandS.ForMost
import HandS.Wide
import HandS.Deep
import HandS.DeepEq
import HandS.FStr
import HandS.Style
import HandS.Walk
import PyAl09
import PySem.Challenge.RW_tablesalike_s05_value
set_option Elab.async false
set_option linter.all false
/-! Polynomials in one letter as lists of fractions: the ring that the specification's functions make. -/
namespace Ma
open AlOne

/-- the number at power i -/
def co (p : List Rat) (i : Nat) : Rat := p.getD i 0
/-- without zeros at the end -/
def Tr (p : List Rat) : Prop := trim p = p

theorem co_nil (i : Nat) : co [] i = 0 := by simp [co]
theorem co_zero (c : Rat) (p : List Rat) : co (c :: p) 0 = c := by simp [co]
theorem co_succ (c : Rat) (p : List Rat) (i : Nat) : co (c :: p) (i + 1) = co p i := by simp [co]

theorem trim_cons (c : Rat) (l : List Rat) : trim (c :: l) = if trim l = [] then (if c = 0 then [] else [c]) else c :: trim l := by
  show (match trim l with | [] => if c = 0 then [] else [c] | t => c :: t) = _
  cases h : trim l with
  | nil => simp
  | cons a b => simp

theorem co_trim : ∀ (l : List Rat) (i : Nat), co (trim l) i = co l i
  | [], i => by simp [trim]
  | c :: l, i => by
    rw [trim_cons]
    have ih := co_trim l
    split
    · rename_i h
      rw [h] at ih
      split
      · rename_i hc
        cases i with
        | zero => simp [co, hc]
        | succ i => rw [co_succ, ← ih, co_nil, co_nil]
      · cases i with
        | zero => simp [co]
        | succ i => rw [co_succ, co_succ, ← ih]
    · cases i with
      | zero => simp [co]
      | succ i => rw [co_succ, co_succ, ih]

theorem tr_trim : ∀ (l : List Rat), Tr (trim l)
  | [] => rfl
  | c :: l => by
    have ih := tr_trim l
    unfold Tr at *
    rw [trim_cons]
    split
    · split
      · rfl
      · rename_i hc
        rw [trim_cons]; simp [trim, hc]
    · rename_i h
      rw [trim_cons, ih, if_neg h]

theorem tr_nil : Tr [] := rfl

theorem tr_tail {c : Rat} {l : List Rat} (h : Tr (c :: l)) : Tr l := by
  unfold Tr at *
  rw [trim_cons] at h
  split at h
  · rename_i h0
    split at h
    · simp at h
    · simp only [List.cons.injEq, true_and] at h
      rw [h0, ← h]
  · simp only [List.cons.injEq, true_and] at h
    exact h

theorem tr_cons {c : Rat} {l : List Rat} (h : Tr l) (h2 : l = [] → c ≠ 0) : Tr (c :: l) := by
  unfold Tr at *
  rw [trim_cons, h]
  split
  · rename_i e; simp [h2 e, e]
  · rfl

theorem tr_one_ne {c : Rat} (h : Tr [c]) : c ≠ 0 := by
  intro e
  unfold Tr at h
  rw [trim_cons] at h
  simp [trim, e] at h

theorem tr_zero_of : ∀ {p : List Rat}, Tr p → (∀ i, co p i = 0) → p = []
  | [], _, _ => rfl
  | c :: l, h, hz => by
    have hl := tr_zero_of (tr_tail h) (fun i => by rw [← co_succ c l i]; exact hz _)
    subst hl
    exact absurd (by have := hz 0; rwa [co_zero] at this) (tr_one_ne h)

theorem ext : ∀ {p q : List Rat}, Tr p → Tr q → (∀ i, co p i = co q i) → p = q
  | [], q, _, hq, h => (tr_zero_of hq (fun i => by rw [← h i, co_nil])).symm
  | c :: p, [], hp, _, h => tr_zero_of hp (fun i => by rw [h i, co_nil])
  | c :: p, d :: q, hp, hq, h => by
    have e0 : c = d := by have := h 0; rwa [co_zero, co_zero] at this
    have e1 : p = q := ext (tr_tail hp) (tr_tail hq) (fun i => by have := h (i + 1); rwa [co_succ, co_succ] at this)
    rw [e0, e1]

theorem co_addRaw : ∀ (p q : List Rat) (i : Nat), co (addRaw p q) i = co p i + co q i
  | [], q, i => by simp [addRaw, co_nil, Rat.zero_add]
  | c :: p, [], i => by simp [addRaw, co_nil, Rat.add_zero]
  | c :: p, d :: q, 0 => by simp [addRaw, co]
  | c :: p, d :: q, i + 1 => by
    show co ((c + d) :: addRaw p q) (i + 1) = _
    rw [co_succ, co_succ, co_succ]
    exact co_addRaw p q i

theorem co_add (p q : List Rat) (i : Nat) : co (add p q) i = co p i + co q i := by
  unfold add; rw [co_trim, co_addRaw]

theorem co_map (c : Rat) : ∀ (p : List Rat) (i : Nat), co (p.map fun (x : Rat) => c * x) i = c * co p i
  | [], i => by simp [co_nil]
  | d :: p, 0 => by simp [co]
  | d :: p, i + 1 => by simp only [List.map_cons, co_succ]; exact co_map c p i

theorem co_scale (c : Rat) (p : List Rat) (i : Nat) : co (scale c p) i = c * co p i := by
  unfold scale; rw [co_trim, co_map]

theorem co_neg (p : List Rat) (i : Nat) : co (neg p) i = - co p i := by
  unfold neg; rw [co_scale]; grind

theorem co_sub (p q : List Rat) (i : Nat) : co (sub p q) i = co p i - co q i := by
  unfold sub; rw [co_add, co_neg]; grind

theorem tr_add (p q : List Rat) : Tr (add p q) := tr_trim _
theorem tr_scale (c : Rat) (p : List Rat) : Tr (scale c p) := tr_trim _
theorem tr_neg (p : List Rat) : Tr (neg p) := tr_trim _
theorem tr_sub (p q : List Rat) : Tr (sub p q) := tr_trim _

theorem mul_cons (c : Rat) (p q : List Rat) : mul (c :: p) q = if mul p q = [] then scale c q else add (scale c q) (0 :: mul p q) := by
  show (match mul p q with | [] => scale c q | r => add (scale c q) (0 :: r)) = _
  cases h : mul p q with
  | nil => simp
  | cons a b => simp

theorem tr_mul : ∀ (p q : List Rat), Tr (mul p q)
  | [], _ => rfl
  | c :: p, q => by rw [mul_cons]; split <;> exact tr_trim _

/-- moved up by one power -/
def sh (f : Nat → Rat) : Nat → Rat
  | 0 => 0
  | i + 1 => f i

def M : List Rat → (Nat → Rat) → Nat → Rat
  | [], _, _ => 0
  | c :: p, f, i => c * f i + sh (M p f) i

theorem co_mul : ∀ (p q : List Rat) (i : Nat), co (mul p q) i = M p (co q) i
  | [], q, i => by simp [mul, M, co_nil]
  | c :: p, q, i => by
    rw [mul_cons]
    have ih := co_mul p q
    show _ = c * co q i + sh (M p (co q)) i
    split
    · rename_i h
      rw [co_scale]
      have : sh (M p (co q)) i = 0 := by
        cases i with
        | zero => rfl
        | succ i => show M p (co q) i = 0; rw [← ih, h, co_nil]
      grind
    · rw [co_add, co_scale]
      have : co (0 :: mul p q) i = sh (M p (co q)) i := by
        cases i with
        | zero => rfl
        | succ i => rw [co_succ, ih]; rfl
      rw [this]

theorem M_add : ∀ (p : List Rat) (f g : Nat → Rat) (i : Nat), M p (fun j => f j + g j) i = M p f i + M p g i
  | [], _, _, _ => by simp [M, Rat.add_zero]
  | c :: p, f, g, 0 => by simp only [M, sh]; grind
  | c :: p, f, g, i + 1 => by simp only [M, sh]; rw [M_add p f g i]; grind

theorem M_scale : ∀ (p : List Rat) (a : Rat) (f : Nat → Rat) (i : Nat), M p (fun j => a * f j) i = a * M p f i
  | [], a, _, _ => by simp [M]
  | c :: p, a, f, 0 => by simp only [M, sh]; grind
  | c :: p, a, f, i + 1 => by simp only [M, sh]; rw [M_scale p a f i]; grind

theorem M_sh : ∀ (p : List Rat) (f : Nat → Rat) (i : Nat), M p (sh f) i = sh (M p f) i
  | [], _, 0 => rfl
  | [], _, _ + 1 => rfl
  | c :: p, f, 0 => by simp only [M, sh]; grind
  | c :: p, f, i + 1 => by
    show c * f i + M p (sh f) i = c * f i + sh (M p f) i
    rw [M_sh p f i]

def delta : Nat → Rat
  | 0 => 1
  | _ + 1 => 0

theorem M_delta : ∀ (p : List Rat) (i : Nat), M p delta i = co p i
  | [], i => by simp [M, co_nil]
  | c :: p, 0 => by simp only [M, sh, delta, co_zero]; grind
  | c :: p, i + 1 => by
    show c * 0 + M p delta i = _
    rw [M_delta p i, co_succ]; grind

theorem co_cons_eq (c : Rat) (p : List Rat) : co (c :: p) = fun j => (c * delta j) + sh (co p) j := by
  funext j
  cases j with
  | zero => simp only [co_zero, delta, sh]; grind
  | succ j => simp only [co_succ, delta, sh]; grind

theorem M_comm : ∀ (p q : List Rat) (i : Nat), M p (co q) i = M q (co p) i
  | [], q, i => by
    show 0 = M q (co []) i
    have : co [] = fun j => (0 : Rat) * delta j := by funext j; rw [co_nil]; grind
    rw [this, M_scale]; grind
  | c :: p, q, i => by
    rw [co_cons_eq c p, M_add, M_scale, M_delta, M_sh]
    show c * co q i + sh (M p (co q)) i = _
    have : M p (co q) = M q (co p) := by funext j; exact M_comm p q j
    rw [this]

theorem mul_comm (p q : List Rat) : mul p q = mul q p :=
  ext (tr_mul _ _) (tr_mul _ _) fun i => by rw [co_mul, co_mul, M_comm]

theorem M_assoc : ∀ (p q r : List Rat) (i : Nat), M (mul p q) (co r) i = M p (M q (co r)) i
  | [], q, r, i => rfl
  | c :: p, q, r, i => by
    rw [M_comm (mul (c :: p) q) r]
    have e : co (mul (c :: p) q) = fun j => (c * co q j) + sh (co (mul p q)) j := by
      funext j
      rw [co_mul]
      show c * co q j + sh (M p (co q)) j = _
      have : M p (co q) = co (mul p q) := by funext k; rw [co_mul]
      rw [this]
    rw [e, M_add, M_scale, M_sh]
    show _ = c * M q (co r) i + sh (M p (M q (co r))) i
    rw [M_comm r q]
    have : M r (co (mul p q)) = M p (M q (co r)) := by
      funext k; rw [M_comm, M_assoc p q r k]
    rw [this]

theorem mul_assoc (p q r : List Rat) : mul (mul p q) r = mul p (mul q r) :=
  ext (tr_mul _ _) (tr_mul _ _) fun i => by
    rw [co_mul, co_mul, M_assoc]
    have : co (mul q r) = M q (co r) := by funext k; rw [co_mul]
    rw [this]

theorem mul_add (p q r : List Rat) : mul p (add q r) = add (mul p q) (mul p r) :=
  ext (tr_mul _ _) (tr_add _ _) fun i => by
    rw [co_mul, co_add, co_mul, co_mul, ← M_add]
    have : co (add q r) = fun j => co q j + co r j := by funext k; rw [co_add]
    rw [this]

theorem co_one (i : Nat) : co one i = delta i := by
  cases i with
  | zero => rfl
  | succ i => simp [one, co, delta]

theorem mul_one {p : List Rat} (h : Tr p) : mul p one = p :=
  ext (tr_mul _ _) h fun i => by
    rw [co_mul]
    have : co one = delta := by funext k; rw [co_one]
    rw [this, M_delta]

/-- **The ring**: lists without zeros at the end -/
def P := { p : List Rat // Tr p }

namespace P
instance : Add P := ⟨fun p q => ⟨add p.1 q.1, tr_add _ _⟩⟩
instance : Mul P := ⟨fun p q => ⟨mul p.1 q.1, tr_mul _ _⟩⟩
instance : Neg P := ⟨fun p => ⟨neg p.1, tr_neg _⟩⟩
instance : Sub P := ⟨fun p q => ⟨sub p.1 q.1, tr_sub _ _⟩⟩
def cst (c : Rat) : P := ⟨trim [c], tr_trim _⟩
instance (n : Nat) : OfNat P n := ⟨cst (n : Rat)⟩
instance : NatCast P := ⟨fun n => cst (n : Rat)⟩
instance : IntCast P := ⟨fun n => cst (n : Rat)⟩
instance : SMul Nat P := ⟨fun n p => ⟨scale (n : Rat) p.1, tr_scale _ _⟩⟩
instance : SMul Int P := ⟨fun n p => ⟨scale (n : Rat) p.1, tr_scale _ _⟩⟩
def npow (p : P) : Nat → P
  | 0 => cst 1
  | n + 1 => npow p n * p
instance : HPow P Nat P := ⟨npow⟩

def c (p : P) (i : Nat) : Rat := co p.1 i
theorem ext' {p q : P} (h : ∀ i, p.c i = q.c i) : p = q := Subtype.ext (ext p.2 q.2 h)
theorem c_add (p q : P) (i : Nat) : (p + q).c i = p.c i + q.c i := co_add _ _ _
theorem c_neg (p : P) (i : Nat) : (-p).c i = - p.c i := co_neg _ _
theorem c_sub (p q : P) (i : Nat) : (p - q).c i = p.c i - q.c i := co_sub _ _ _
theorem c_cst (a : Rat) (i : Nat) : (cst a).c i = a * delta i := by
  show co (trim [a]) i = _
  rw [co_trim]
  cases i with
  | zero => rw [co_zero]; simp only [delta]; grind
  | succ i => rw [co_succ, co_nil]; simp only [delta]; grind
theorem c_smulN (n : Nat) (p : P) (i : Nat) : (n • p).c i = (n : Rat) * p.c i := co_scale _ _ _
theorem c_smulZ (n : Int) (p : P) (i : Nat) : (n • p).c i = (n : Rat) * p.c i := co_scale _ _ _
theorem c_mul (p q : P) (i : Nat) : (p * q).c i = M p.1 q.c i := co_mul _ _ _

theorem mul_cst (p : P) (a : Rat) (i : Nat) : (p * cst a).c i = a * p.c i := by
  rw [c_mul]
  have : (cst a).c = fun j => a * delta j := by funext j; rw [c_cst]
  rw [this, M_scale, M_delta]; rfl

instance : Lean.Grind.CommRing P where
  add_zero a := ext' fun i => by rw [c_add]; show _ + (cst ((0 : Nat) : Rat)).c i = _; rw [c_cst]; simp [Rat.add_zero]
  add_comm a b := ext' fun i => by rw [c_add, c_add]; grind
  add_assoc a b c := ext' fun i => by simp only [c_add]; grind
  mul_assoc a b c := Subtype.ext (Ma.mul_assoc _ _ _)
  mul_comm a b := Subtype.ext (Ma.mul_comm _ _)
  mul_one a := ext' fun i => by show (a * cst ((1 : Nat) : Rat)).c i = _; rw [mul_cst]; simp
  one_mul a := ext' fun i => by
    have : (1 : P) * a = a * 1 := Subtype.ext (Ma.mul_comm _ _)
    rw [this]; show (a * cst ((1 : Nat) : Rat)).c i = _; rw [mul_cst]; simp
  left_distrib a b c := Subtype.ext (Ma.mul_add _ _ _)
  right_distrib a b c := by
    have e1 : (a + b) * c = c * (a + b) := Subtype.ext (Ma.mul_comm _ _)
    have e2 : a * c = c * a := Subtype.ext (Ma.mul_comm _ _)
    have e3 : b * c = c * b := Subtype.ext (Ma.mul_comm _ _)
    rw [e1, e2, e3]; exact Subtype.ext (Ma.mul_add _ _ _)
  zero_mul a := ext' fun i => by
    have : (0 : P) * a = a * 0 := Subtype.ext (Ma.mul_comm _ _)
    rw [this]; show (a * cst ((0 : Nat) : Rat)).c i = (cst ((0 : Nat) : Rat)).c i; rw [mul_cst, c_cst]; simp
  mul_zero a := ext' fun i => by
    show (a * cst ((0 : Nat) : Rat)).c i = (cst ((0 : Nat) : Rat)).c i; rw [mul_cst, c_cst]; simp
  pow_zero a := rfl
  pow_succ a n := rfl
  nsmul := ⟨fun n p => ⟨scale (n : Rat) p.1, tr_scale _ _⟩⟩
  nsmul_eq_natCast_mul n a := ext' fun i => by
    have : ((n : P)) * a = a * (n : P) := Subtype.ext (Ma.mul_comm _ _)
    rw [this]; show (n • a).c i = (a * cst ((n : Nat) : Rat)).c i
    rw [mul_cst, c_smulN]
  ofNat_succ n := ext' fun i => by
    rw [c_add]; show (cst ((n + 1 : Nat) : Rat)).c i = (cst ((n : Nat) : Rat)).c i + (cst ((1 : Nat) : Rat)).c i
    rw [c_cst, c_cst, c_cst]; simp; grind
  ofNat_eq_natCast n := rfl
  neg_add_cancel a := ext' fun i => by
    rw [c_add, c_neg]; show _ = (cst ((0 : Nat) : Rat)).c i; rw [c_cst]; simp; grind
  sub_eq_add_neg a b := ext' fun i => by rw [c_sub, c_add, c_neg]; grind
  zsmul := ⟨fun n p => ⟨scale (n : Rat) p.1, tr_scale _ _⟩⟩
  zsmul_natCast_eq_nsmul n a := rfl
  neg_zsmul n a := ext' fun i => by
    rw [c_neg]; show (((-n : Int)) • a).c i = - ((n • a).c i); rw [c_smulZ, c_smulZ]; simp; grind
  intCast_ofNat n := rfl
  intCast_neg n := ext' fun i => by
    rw [c_neg]; show (cst (((-n : Int)) : Rat)).c i = - (cst ((n : Int) : Rat)).c i; rw [c_cst, c_cst]; simp; grind

example (a b c : P) : (a + b) * c - b * c = a * c := by grind
end P
end Ma
/-! Degrees, division, what two have in common: the specification's functions by what they are. -/
namespace Ma
open AlOne

theorem pos_len {l : List Rat} (h : l ≠ []) : 0 < l.length := by
  cases l with
  | nil => exact absurd rfl h
  | cons a b => simp

theorem co_ge {p : List Rat} {i : Nat} (h : p.length ≤ i) : co p i = 0 := by
  unfold co; simp [List.getD_eq_getElem?_getD, List.getElem?_eq_none h]

theorem lead_eq : ∀ (p : List Rat), lead p = co p (p.length - 1)
  | [] => rfl
  | [c] => rfl
  | c :: d :: p => by
    have := lead_eq (d :: p)
    show (c :: d :: p).getLastD 0 = _
    have e : (c :: d :: p).getLastD 0 = (d :: p).getLastD 0 := by simp
    rw [e]
    show lead (d :: p) = _
    rw [this]
    show co (d :: p) p.length = co (c :: d :: p) (p.length + 1)
    rw [co_succ]

theorem lead_ne : ∀ {p : List Rat}, Tr p → p ≠ [] → lead p ≠ 0
  | [], _, h => absurd rfl h
  | [c], h, _ => by
    show c ≠ 0
    exact tr_one_ne h
  | c :: d :: p, h, _ => by
    have := lead_ne (tr_tail h) (by simp)
    have e : lead (c :: d :: p) = lead (d :: p) := by
      show (c :: d :: p).getLastD 0 = (d :: p).getLastD 0
      simp
    rw [e]; exact this

theorem tr_of_lead {p : List Rat} (h : p ≠ [] → lead p ≠ 0) : Tr p := by
  induction p with
  | nil => rfl
  | cons c l ih =>
    cases l with
    | nil => exact tr_cons tr_nil (fun _ => h (by simp))
    | cons d l =>
      refine tr_cons (ih fun _ => ?_) (by simp)
      have := h (by simp)
      have e : lead (c :: d :: l) = lead (d :: l) := by
        show (c :: d :: l).getLastD 0 = (d :: l).getLastD 0
        simp
      rwa [e] at this

/-- the length from the numbers -/
theorem len_le {p : List Rat} (hp : Tr p) {n : Nat} (h : ∀ i, n ≤ i → co p i = 0) : p.length ≤ n := by
  apply Classical.byContradiction
  intro hn
  have hne : p ≠ [] := by intro e; subst e; simp at hn
  have := lead_ne hp hne
  rw [lead_eq] at this
  exact this (h _ (by omega))

theorem len_eq {p : List Rat} (hp : Tr p) {n : Nat} (h : ∀ i, n < i → co p i = 0) (hn : co p n ≠ 0) : p.length = n + 1 := by
  have h1 := len_le hp (n := n + 1) (fun i hi => h i (by omega))
  have h2 : ¬ p.length ≤ n := fun hle => hn (co_ge hle)
  omega

theorem M_top : ∀ (p q : List Rat), p ≠ [] → q ≠ [] →
    (∀ i, p.length + q.length - 1 ≤ i → M p (co q) i = 0) ∧ M p (co q) (p.length + q.length - 2) = lead p * lead q
  | [], _, h, _ => absurd rfl h
  | [c], q, _, hq => by
    have hl : 0 < q.length := pos_len hq
    refine ⟨fun i hi => ?_, ?_⟩
    · show c * co q i + sh (M [] (co q)) i = 0
      rw [co_ge (by simp at hi; omega)]
      cases i <;> simp [sh, M] <;> grind
    · show c * co q _ + sh (M [] (co q)) _ = lead [c] * lead q
      have e : ([c] : List Rat).length + q.length - 2 = q.length - 1 := by simp; omega
      rw [e, ← lead_eq]
      have : sh (M [] (co q)) (q.length - 1) = 0 := by cases (q.length - 1) <;> rfl
      rw [this]
      show c * lead q + 0 = c * lead q
      grind
  | c :: d :: p, q, _, hq => by
    have hl : 0 < q.length := pos_len hq
    have ih := M_top (d :: p) q (by simp) hq
    refine ⟨fun i hi => ?_, ?_⟩
    · show c * co q i + sh (M (d :: p) (co q)) i = 0
      simp only [List.length_cons] at hi
      rw [co_ge (show q.length ≤ i by omega)]
      cases i with
      | zero => omega
      | succ i =>
        show c * 0 + M (d :: p) (co q) i = 0
        rw [ih.1 i (by simp only [List.length_cons]; omega)]; grind
    · have e : (c :: d :: p).length + q.length - 2 = ((d :: p).length + q.length - 2) + 1 := by simp only [List.length_cons]; omega
      rw [e]
      show c * co q _ + M (d :: p) (co q) ((d :: p).length + q.length - 2) = _
      rw [co_ge (by simp only [List.length_cons]; omega), ih.2]
      have e2 : lead (c :: d :: p) = lead (d :: p) := by
        show (c :: d :: p).getLastD 0 = (d :: p).getLastD 0
        simp
      rw [e2]; grind

theorem len_mul {p q : List Rat} (hp : Tr p) (hq : Tr q) (np : p ≠ []) (nq : q ≠ []) :
    (mul p q).length = p.length + q.length - 1 ∧ lead (mul p q) = lead p * lead q := by
  have t := M_top p q np nq
  have l1 : 0 < p.length := pos_len np
  have l2 : 0 < q.length := pos_len nq
  have e : (mul p q).length = (p.length + q.length - 2) + 1 := by
    refine len_eq (tr_mul p q) (fun i hi => ?_) ?_
    · rw [co_mul]; exact t.1 i (by omega)
    · rw [co_mul, t.2]
      have h1 := lead_ne hp np
      have h2 := lead_ne hq nq
      intro h0
      rcases Rat.mul_eq_zero.mp h0 with h | h
      · exact h1 h
      · exact h2 h
  refine ⟨by omega, ?_⟩
  rw [lead_eq, e]
  show co (mul p q) (p.length + q.length - 2) = _
  rw [co_mul, t.2]

theorem mul_nil (p : List Rat) : mul p [] = [] := by rw [mul_comm]; rfl
theorem nil_mul (p : List Rat) : mul [] p = [] := rfl

theorem mul_ne {p q : List Rat} (hp : Tr p) (hq : Tr q) (np : p ≠ []) (nq : q ≠ []) : mul p q ≠ [] := by
  intro h
  have := (len_mul hp hq np nq).1
  rw [h] at this
  have l1 : 0 < p.length := pos_len np
  have l2 : 0 < q.length := pos_len nq
  simp at this; omega

theorem len_sub_le (p q : List Rat) : (sub p q).length ≤ max p.length q.length := by
  refine len_le (tr_sub _ _) (fun i hi => ?_)
  rw [co_sub, co_ge (show p.length ≤ i by omega), co_ge (show q.length ≤ i by omega)]; grind

theorem len_add_le (p q : List Rat) : (add p q).length ≤ max p.length q.length := by
  refine len_le (tr_add _ _) (fun i hi => ?_)
  rw [co_add, co_ge (show p.length ≤ i by omega), co_ge (show q.length ≤ i by omega)]; grind

namespace P
theorem zero_val : (0 : P).1 = [] := by
  show trim [((0 : Nat) : Rat)] = []
  rw [trim_cons]; simp [trim]
theorem one_val : (1 : P).1 = one := by
  show trim [((1 : Nat) : Rat)] = [1]
  rw [trim_cons]; simp [trim]
theorem eq_zero_iff {p : P} : p = 0 ↔ p.1 = [] := by
  constructor
  · intro h; rw [h, zero_val]
  · intro h; exact Subtype.ext (by rw [h, zero_val])
theorem val_add (p q : P) : (p + q).1 = add p.1 q.1 := rfl
theorem val_mul (p q : P) : (p * q).1 = mul p.1 q.1 := rfl
theorem val_sub (p q : P) : (p - q).1 = sub p.1 q.1 := rfl
theorem val_neg (p : P) : (-p).1 = neg p.1 := rfl
theorem mul_ne_zero {p q : P} (hp : p ≠ 0) (hq : q ≠ 0) : p * q ≠ 0 := by
  rw [Ne, eq_zero_iff] at *
  exact mul_ne p.2 q.2 hp hq
theorem mul_cancel {p q r : P} (hp : p ≠ 0) (h : p * q = p * r) : q = r := by
  apply Classical.byContradiction
  intro hn
  have : q - r ≠ 0 := by intro h0; apply hn; grind
  exact mul_ne_zero hp this (by grind)
/-- length -/
def len (p : P) : Nat := p.1.length
theorem len_zero : (0 : P).len = 0 := by unfold len; rw [zero_val]; rfl
theorem len_pos {p : P} (h : p ≠ 0) : 0 < p.len := pos_len (by rwa [Ne, eq_zero_iff] at h)
theorem len_mul {p q : P} (hp : p ≠ 0) (hq : q ≠ 0) : (p * q).len = p.len + q.len - 1 :=
  (Ma.len_mul p.2 q.2 (by rwa [Ne, eq_zero_iff] at hp) (by rwa [Ne, eq_zero_iff] at hq)).1
def ld (p : P) : Rat := lead p.1
theorem ld_mul {p q : P} (hp : p ≠ 0) (hq : q ≠ 0) : (p * q).ld = p.ld * q.ld :=
  (Ma.len_mul p.2 q.2 (by rwa [Ne, eq_zero_iff] at hp) (by rwa [Ne, eq_zero_iff] at hq)).2
theorem ld_ne {p : P} (h : p ≠ 0) : p.ld ≠ 0 := lead_ne p.2 (by rwa [Ne, eq_zero_iff] at h)
theorem len_sub (p q : P) : (p - q).len ≤ max p.len q.len := len_sub_le _ _
theorem len_add (p q : P) : (p + q).len ≤ max p.len q.len := len_add_le _ _

/-- division is one way only -/
theorem div_unique {q s r s' r' : P} (h : s * q + r = s' * q + r') (hr : r.len < q.len) (hr' : r'.len < q.len) : s = s' ∧ r = r' := by
  have hq : q ≠ 0 := by intro e; subst e; rw [len_zero] at hr; omega
  have e : (s - s') * q = r' - r := by grind
  by_cases hs : s - s' = 0
  · have : s = s' := by grind
    exact ⟨this, by grind⟩
  · have l := len_mul hs hq
    rw [e] at l
    have := len_sub r' r
    have := len_pos hs
    omega

/-- goes into -/
def Dvd (p q : P) : Prop := ∃ h, q = p * h
theorem Dvd.refl (p : P) : Dvd p p := ⟨1, by grind⟩
theorem Dvd.trans {p q r : P} (h : Dvd p q) (h2 : Dvd q r) : Dvd p r := by
  obtain ⟨a, ha⟩ := h; obtain ⟨b, hb⟩ := h2
  exact ⟨a * b, by grind⟩
theorem Dvd.zero (p : P) : Dvd p 0 := ⟨0, by grind⟩
theorem Dvd.add {p q r : P} (h : Dvd p q) (h2 : Dvd p r) : Dvd p (q + r) := by
  obtain ⟨a, ha⟩ := h; obtain ⟨b, hb⟩ := h2
  exact ⟨a + b, by grind⟩
theorem Dvd.sub {p q r : P} (h : Dvd p q) (h2 : Dvd p r) : Dvd p (q - r) := by
  obtain ⟨a, ha⟩ := h; obtain ⟨b, hb⟩ := h2
  exact ⟨a - b, by grind⟩
theorem Dvd.neg {p q : P} (h : Dvd p q) : Dvd p (-q) := by
  obtain ⟨a, ha⟩ := h
  exact ⟨-a, by grind⟩
theorem Dvd.mul {p q : P} (h : Dvd p q) (r : P) : Dvd p (r * q) := by
  obtain ⟨a, ha⟩ := h
  exact ⟨r * a, by grind⟩
theorem Dvd.mul' {p q : P} (h : Dvd p q) (r : P) : Dvd p (q * r) := by
  obtain ⟨a, ha⟩ := h
  exact ⟨r * a, by grind⟩
theorem Dvd.of_zero {q : P} (h : Dvd 0 q) : q = 0 := by obtain ⟨a, ha⟩ := h; grind
theorem Dvd.len {p q : P} (h : Dvd p q) (hq : q ≠ 0) : p.len ≤ q.len := by
  obtain ⟨a, ha⟩ := h
  have hp : p ≠ 0 := by intro e; apply hq; grind
  have hA : a ≠ 0 := by intro e; apply hq; grind
  rw [ha, len_mul hp hA]
  have := len_pos hA
  omega

theorem len_cst {a : Rat} (h : a ≠ 0) : (cst a).len = 1 := by
  show (trim [a]).length = 1
  rw [trim_cons]; simp [trim, h]
theorem ld_cst (a : Rat) : (cst a).ld = a := by
  show lead (trim [a]) = a
  rw [trim_cons]
  by_cases h : a = 0
  · simp [trim, h]; rfl
  · simp [trim, h]; rfl
theorem ld_one : (1 : P).ld = 1 := by show lead _ = _; rw [one_val]; rfl
theorem len_one : (1 : P).len = 1 := by show List.length _ = _; rw [one_val]; rfl
theorem one_ne : (1 : P) ≠ 0 := by intro h; have := len_one; rw [h, len_zero] at this; omega
/-- of length 1: a number -/
theorem eq_cst {p : P} (h : p.len = 1) : p = cst p.ld := by
  obtain ⟨l, hl⟩ := p
  apply Subtype.ext
  show l = trim [lead l]
  have h' : l.length = 1 := h
  match l, h', hl with
  | [a], _, hl => exact hl.symm

/-- two with 1 at the top that go into each other are one -/
theorem dvd_antisymm {p q : P} (h : Dvd p q) (h2 : Dvd q p) (hp : p.ld = q.ld) : p = q := by
  by_cases hq : q = 0
  · subst hq; exact h2.of_zero
  · have hp0 : p ≠ 0 := by intro e; subst e; exact hq h.of_zero
    obtain ⟨a, ha⟩ := h
    have hA : a ≠ 0 := by intro e; apply hq; grind
    have l1 := Dvd.len h2 hp0
    have l2 := len_mul hp0 hA
    rw [← ha] at l2
    have l3 := len_pos hA
    have l4 := len_pos hq
    have l5 : p.len ≤ q.len := Dvd.len ⟨a, ha⟩ hq
    have e1 : a.len = 1 := by omega
    have e2 := ld_mul hp0 hA
    rw [← ha, ← hp] at e2
    have e3 : a.ld = 1 := by
      have := ld_ne hp0
      grind
    have : a = 1 := by
      rw [eq_cst e1, e3]
      rfl
    rw [ha, this]; grind
end P

/-! The specification's division. -/
theorem tr_xpow (n : Nat) : Tr (xpow n) := by
  refine tr_of_lead fun _ => ?_
  have : lead (xpow n) = 1 := by
    unfold lead xpow
    simp
  rw [this]; decide

theorem len_xpow (n : Nat) : (xpow n).length = n + 1 := by simp [xpow]
theorem lead_xpow (n : Nat) : lead (xpow n) = 1 := by unfold lead xpow; simp

def X (n : Nat) : P := ⟨xpow n, tr_xpow n⟩

theorem scale_eq (c : Rat) (p : List Rat) : scale c p = mul (trim [c]) p := by
  refine ext (tr_scale _ _) (tr_mul _ _) fun i => ?_
  rw [co_scale, mul_comm, co_mul]
  have : co (trim [c]) = fun j => c * delta j := by
    funext j
    exact P.c_cst c j
  rw [this, M_scale, M_delta]

theorem scale_val (c : Rat) (p : P) : scale c p.1 = (P.cst c * p).1 := scale_eq c p.1

theorem lead_scale {c : Rat} {p : List Rat} (hp : Tr p) (hc : c ≠ 0) : lead (scale c p) = c * lead p ∧ (scale c p).length = p.length := by
  by_cases h : p = []
  · subst h; simp [scale, trim, lead]
  · have h1 : trim [c] ≠ [] := by rw [trim_cons]; simp [trim, hc]
    rw [scale_eq]
    have := len_mul (tr_trim [c]) hp h1 h
    have e : lead (trim [c]) = c := P.ld_cst c
    have e2 : (trim [c]).length = 1 := P.len_cst hc
    rw [this.2, e, this.1, e2]
    have := pos_len h
    exact ⟨rfl, by omega⟩

theorem divFrom_spec : ∀ (f : Nat) (s r q : P), q ≠ 0 → r.len ≤ f →
    ∃ (s' r' : P), divFrom f s.1 r.1 q.1 = (s'.1, r'.1) ∧ s' * q + r' = s * q + r ∧ r'.len < q.len
  | 0, s, r, q, hq, hf => by
    refine ⟨s, r, rfl, rfl, ?_⟩
    have := P.len_pos hq; omega
  | f + 1, s, r, q, hq, hf => by
    have hql := P.len_pos hq
    have hqn : q.1 ≠ [] := by rwa [Ne, P.eq_zero_iff] at hq
    unfold divFrom
    by_cases h : r.1.length < q.1.length
    · rw [if_pos (Or.inl h)]
      exact ⟨s, r, rfl, rfl, h⟩
    · rw [if_neg (by intro h'; rcases h' with h' | h'; exact h h'; exact hqn h')]
      have hr0 : r ≠ 0 := by
        intro e
        subst e
        rw [P.zero_val] at h
        apply h
        exact hql
      have hlr := P.ld_ne hr0
      have hlq := P.ld_ne hq
      let c : Rat := lead r.1 / lead q.1
      have hc : c ≠ 0 := by
        show lead r.1 / lead q.1 ≠ 0
        have h1 : lead r.1 ≠ 0 := hlr
        have h2 : lead q.1 ≠ 0 := hlq
        rw [Rat.div_def]
        intro h0
        rcases Rat.mul_eq_zero.mp h0 with h3 | h3
        · exact h1 h3
        · exact h2 (by rw [← Rat.inv_inv (lead q.1), h3]; exact Rat.inv_zero)
      let t : P := P.cst c * X (r.len - q.len)
      have ht : scale c (xpow (r.1.length - q.1.length)) = t.1 := scale_val c (X (r.len - q.len))
      have hX : X (r.len - q.len) ≠ 0 := by
        rw [Ne, P.eq_zero_iff]; intro h0
        have := len_xpow (r.len - q.len)
        rw [show xpow (r.len - q.len) = [] from h0] at this
        simp at this
      have hcst : P.cst c ≠ 0 := by
        intro h0; have := P.len_cst hc; rw [h0, P.len_zero] at this; omega
      have ht0 : t ≠ 0 := P.mul_ne_zero hcst hX
      have hlX : (X (r.len - q.len)).len = r.len - q.len + 1 := len_xpow _
      have hlt : t.len = r.len - q.len + 1 := by
        show (P.cst c * X (r.len - q.len)).len = _
        rw [P.len_mul hcst hX, P.len_cst hc, hlX]; omega
      have hldt : t.ld = c := by
        show (P.cst c * X (r.len - q.len)).ld = _
        rw [P.ld_mul hcst hX, P.ld_cst]
        have : (X (r.len - q.len)).ld = 1 := lead_xpow _
        rw [this]; grind
      have hle : q.len ≤ r.len := Nat.le_of_not_lt h
      have hltq : (t * q).len = r.len := by rw [P.len_mul ht0 hq, hlt]; omega
      have hldq : (t * q).ld = r.ld := by
        rw [P.ld_mul ht0 hq, hldt]
        show lead r.1 / lead q.1 * lead q.1 = lead r.1
        have h2 : lead q.1 ≠ 0 := hlq
        grind
      have hless : (r - t * q).len < r.len := by
        have hrl := P.len_pos hr0
        suffices h' : (r - t * q).len ≤ r.len - 1 by omega
        refine len_le (r - t * q).2 (fun i hi => ?_)
        show (r - t * q).c i = 0
        rw [P.c_sub]
        by_cases hi2 : i = r.len - 1
        · have e1 : r.c i = r.ld := by rw [hi2]; exact (lead_eq r.1).symm
          have e2 : (t * q).c i = (t * q).ld := by
            rw [hi2, ← hltq]; exact (lead_eq (t * q).1).symm
          rw [e1, e2, hldq]; grind
        · have e1 : r.c i = 0 := co_ge (show r.len ≤ i by omega)
          have e2 : (t * q).c i = 0 := co_ge (show (t * q).len ≤ i by omega)
          rw [e1, e2]; grind
      obtain ⟨s', r', e1, e2, e3⟩ := divFrom_spec f (s + t) (r - t * q) q hq (by omega)
      refine ⟨s', r', ?_, ?_, e3⟩
      · show divFrom f (add s.1 (scale c (xpow (r.1.length - q.1.length)))) (sub r.1 (mul (scale c (xpow (r.1.length - q.1.length))) q.1)) q.1 = _
        rw [ht]
        exact e1
      · rw [e2]; grind

/-- **quotient and rest** -/
theorem divMod_spec (p q : P) (hq : q ≠ 0) : ∃ (s r : P), divMod p.1 q.1 = (s.1, r.1) ∧ p = s * q + r ∧ r.len < q.len := by
  obtain ⟨s, r, h1, h2, h3⟩ := divFrom_spec p.1.length 0 p q hq (Nat.le_refl _)
  refine ⟨s, r, ?_, by grind, h3⟩
  unfold divMod
  rw [← h1, P.zero_val]

theorem divMod_eq {p q s r : P} (h : p = s * q + r) (hr : r.len < q.len) : divMod p.1 q.1 = (s.1, r.1) := by
  have hq : q ≠ 0 := by intro e; subst e; rw [P.len_zero] at hr; omega
  obtain ⟨s', r', h1, h2, h3⟩ := divMod_spec p q hq
  obtain ⟨e1, e2⟩ := P.div_unique (h.symm.trans h2) hr h3
  rw [h1, e1, e2]

theorem over_mul (p q : P) (hq : q ≠ 0) : over (p * q).1 q.1 = p.1 := by
  have : divMod (p * q).1 q.1 = (p.1, (0 : P).1) := divMod_eq (by grind) (by rw [P.len_zero]; exact P.len_pos hq)
  unfold over
  rw [this]

/-- with 1 at the top -/
def mon (p : P) : P := ⟨monic p.1, tr_scale _ _⟩

theorem mon_eq (p : P) : mon p = P.cst (1 / p.ld) * p := Subtype.ext (scale_val _ _)

theorem mon_spec {p : P} (h : p ≠ 0) : (mon p).ld = 1 ∧ (mon p).len = p.len ∧ P.Dvd (mon p) p ∧ P.Dvd p (mon p) := by
  have hl := P.ld_ne h
  have hi : (1 : Rat) / p.ld ≠ 0 := by
    intro h0
    have : (1 / p.ld) * p.ld = 1 := by grind
    rw [h0] at this; grind
  have := lead_scale (c := 1 / p.ld) p.2 hi
  refine ⟨?_, this.2, ?_, ?_⟩
  · show lead (scale (1 / lead p.1) p.1) = 1
    rw [show (1 : Rat) / lead p.1 = 1 / p.ld from rfl, this.1]
    show 1 / p.ld * p.ld = 1
    grind
  · refine ⟨P.cst p.ld, ?_⟩
    rw [mon_eq]
    have e : P.cst (1 / p.ld) * P.cst p.ld = 1 := by
      apply P.ext'
      intro i
      rw [P.mul_cst, P.c_cst]
      show _ = (P.cst ((1 : Nat) : Rat)).c i
      rw [P.c_cst]
      have h1 : p.ld * (1 / p.ld) = 1 := by grind
      have h2 : (((1 : Nat) : Rat)) = 1 := rfl
      rw [h2]
      grind
    grind
  · exact ⟨P.cst (1 / p.ld), by rw [mon_eq]; grind⟩

theorem mon_zero : mon 0 = 0 := by
  rw [mon_eq]; grind

theorem mon_of_ld {p : P} (h : p.ld = 1) : mon p = p := by
  rw [mon_eq, h]
  have : P.cst (1 / 1) = 1 := by
    show P.cst (1 / 1) = P.cst ((1 : Nat) : Rat)
    have : (1 : Rat) / 1 = ((1 : Nat) : Rat) := by
      have h2 : (((1 : Nat) : Rat)) = 1 := rfl
      rw [h2]; grind
    rw [this]
  rw [this]; grind

/-- what two have in common: goes into both, and all that do so go into it; 1 at the top unless it's 0 -/
structure IsCommon (p q g : P) : Prop where
  left : P.Dvd g p
  right : P.Dvd g q
  all : ∀ h, P.Dvd h p → P.Dvd h q → P.Dvd h g
  top : g = 0 ∨ g.ld = 1

theorem IsCommon.unique {p q g g' : P} (h : IsCommon p q g) (h' : IsCommon p q g') : g = g' := by
  have d1 := h'.all g h.left h.right
  have d2 := h.all g' h'.left h'.right
  rcases h.top with e | e
  · subst e; exact d1.of_zero.symm
  · rcases h'.top with e' | e'
    · subst e'; exact d2.of_zero
    · exact P.dvd_antisymm d1 d2 (by rw [e, e'])

theorem commonFrom_spec : ∀ (f : Nat) (p q : P), q.len < f →
    ∃ g : P, commonFrom f p.1 q.1 = g.1 ∧ P.Dvd g p ∧ P.Dvd g q ∧ (∀ h, P.Dvd h p → P.Dvd h q → P.Dvd h g)
  | 0, p, q, hf => by omega
  | f + 1, p, q, hf => by
    unfold commonFrom
    by_cases hq : q = 0
    · subst hq
      rw [P.zero_val, if_pos rfl]
      exact ⟨p, rfl, P.Dvd.refl p, P.Dvd.zero p, fun h h1 _ => h1⟩
    · have hqn : q.1 ≠ [] := fun e => hq (P.eq_zero_iff.mpr e)
      rw [if_neg hqn]
      obtain ⟨s, r, e1, e2, e3⟩ := divMod_spec p q hq
      have er : rest p.1 q.1 = r.1 := by unfold rest; rw [e1]
      rw [er]
      obtain ⟨g, g1, g2, g3, g4⟩ := commonFrom_spec f q r (by omega)
      refine ⟨g, g1, ?_, g2, fun h h1 h2 => g4 h h2 ?_⟩
      · rw [e2]; exact (g2.mul s).add g3
      · have : r = p - s * q := by grind
        rw [this]; exact h1.sub (h2.mul s)

def com (p q : P) : P := ⟨common p.1 q.1, by
  unfold common
  split
  · exact tr_nil
  · exact tr_scale _ _⟩

/-- **the specification's common** -/
theorem com_spec (p q : P) : IsCommon p q (com p q) := by
  by_cases h : p.1 = [] ∧ q.1 = []
  · have e : com p q = 0 := by
      apply Subtype.ext
      show common p.1 q.1 = _
      unfold common
      rw [if_pos h, P.zero_val]
    have hp : p = 0 := P.eq_zero_iff.mpr h.1
    have hq : q = 0 := P.eq_zero_iff.mpr h.2
    subst hp hq
    rw [e]
    exact ⟨P.Dvd.refl 0, P.Dvd.refl 0, fun h h1 _ => h1, Or.inl rfl⟩
  · obtain ⟨g, g1, g2, g3, g4⟩ := commonFrom_spec (q.1.length + 2) p q (by show q.1.length < _; omega)
    have e : com p q = mon g := by
      apply Subtype.ext
      show common p.1 q.1 = monic g.1
      unfold common
      rw [if_neg h, g1]
    have g0 : g ≠ 0 := by
      intro e0
      subst e0
      apply h
      exact ⟨P.eq_zero_iff.mp g2.of_zero, P.eq_zero_iff.mp g3.of_zero⟩
    have ms := mon_spec g0
    rw [e]
    exact ⟨ms.2.2.1.trans g2, ms.2.2.1.trans g3, fun h h1 h2 => (g4 h h1 h2).trans ms.2.2.2, Or.inr ms.1⟩

theorem com_eq {p q g : P} (h : IsCommon p q g) : com p q = g := (com_spec p q).unique h

end Ma
/-! How large the numbers of a divisor are: Gauss, then values at places beyond all roots. -/
namespace Ma
open AlOne

/-! sizes of whole numbers -/
def B (z : Int) (n : Nat) : Prop := z.natAbs ≤ 2 ^ n
theorem B.mono {z : Int} {m n : Nat} (h : B z m) (hmn : m ≤ n) : B z n :=
  Nat.le_trans h (Nat.pow_le_pow_right (by omega) hmn)
theorem B.mul {x y : Int} {m n : Nat} (h : B x m) (h2 : B y n) : B (x * y) (m + n) := by
  unfold B at *
  rw [Int.natAbs_mul, Nat.pow_add]
  exact Nat.mul_le_mul h h2
theorem B.add {x y : Int} {n : Nat} (h : B x n) (h2 : B y n) : B (x + y) (n + 1) := by
  unfold B at *
  have := Int.natAbs_add_le x y
  rw [Nat.pow_succ]; omega
theorem B.neg {x : Int} {n : Nat} (h : B x n) : B (-x) n := by
  unfold B at *; rwa [Int.natAbs_neg]
theorem B.sub {x y : Int} {n : Nat} (h : B x n) (h2 : B y n) : B (x - y) (n + 1) := by
  rw [Int.sub_eq_add_neg]; exact h.add h2.neg
theorem B.zero (n : Nat) : B 0 n := by unfold B; simp
theorem B.of_mul {x k : Int} {n : Nat} (hk : k ≠ 0) (h : B (k * x) n) : B x n := by
  unfold B at *
  rw [Int.natAbs_mul] at h
  have : 1 ≤ k.natAbs := by omega
  exact Nat.le_trans (Nat.le_mul_of_pos_left _ this) h

/-! the least number of a kind -/
theorem least_of (p : Nat → Prop) : ∀ n, p n → ∃ m, p m ∧ ∀ k, k < m → ¬ p k := by
  intro n
  induction n using Nat.strongRecOn with
  | _ n ih =>
    intro h
    by_cases h2 : ∃ k, k < n ∧ p k
    · obtain ⟨k, hk, hp⟩ := h2; exact ih k hk hp
    · exact ⟨n, h, fun k hk hp => h2 ⟨k, hk, hp⟩⟩

/-- a prime, by what it does -/
structure Pri (l : Nat) : Prop where
  two : 2 ≤ l
  part : ∀ a b : Int, (l : Int) ∣ a * b → (l : Int) ∣ a ∨ (l : Int) ∣ b

theorem pri_of {n : Nat} (h : 2 ≤ n) : ∃ l, Pri l ∧ l ∣ n := by
  obtain ⟨l, ⟨h1, h2⟩, h3⟩ := least_of (fun l => 2 ≤ l ∧ l ∣ n) n ⟨h, Nat.dvd_refl n⟩
  refine ⟨l, ⟨h1, fun a b hab => ?_⟩, h2⟩
  have hab' : l ∣ a.natAbs * b.natAbs := by
    rw [← Int.natAbs_mul]; exact Int.ofNat_dvd_left.mp hab
  by_cases hg : Nat.gcd l a.natAbs = 1
  · right
    exact Int.ofNat_dvd_left.mpr (Nat.Coprime.dvd_of_dvd_mul_left hg hab')
  · left
    have d1 := Nat.gcd_dvd_left l a.natAbs
    have d2 := Nat.gcd_dvd_right l a.natAbs
    have hpos : 0 < Nat.gcd l a.natAbs := Nat.gcd_pos_of_pos_left _ (by omega)
    have hle := Nat.le_of_dvd (by omega) d1
    have : ¬ Nat.gcd l a.natAbs < l := fun hlt => h3 _ hlt ⟨by omega, Nat.dvd_trans d1 h2⟩
    have e : Nat.gcd l a.natAbs = l := by omega
    rw [e] at d2
    exact Int.ofNat_dvd_left.mpr d2

/-! products of whole polynomials -/
def coZ (p : List Int) (i : Nat) : Int := p.getD i 0
def shZ (f : Nat → Int) : Nat → Int
  | 0 => 0
  | i + 1 => f i
def MZ : List Int → (Nat → Int) → Nat → Int
  | [], _, _ => 0
  | c :: p, f, i => c * f i + shZ (MZ p f) i
def deltaZ : Nat → Int
  | 0 => 1
  | _ + 1 => 0
theorem MZ_add : ∀ (p : List Int) (f g : Nat → Int) (i : Nat), MZ p (fun j => f j + g j) i = MZ p f i + MZ p g i
  | [], _, _, _ => by simp [MZ]
  | c :: p, f, g, 0 => by simp only [MZ, shZ]; grind
  | c :: p, f, g, i + 1 => by simp only [MZ, shZ]; rw [MZ_add p f g i]; grind
theorem MZ_scale : ∀ (p : List Int) (a : Int) (f : Nat → Int) (i : Nat), MZ p (fun j => a * f j) i = a * MZ p f i
  | [], a, _, _ => by simp [MZ]
  | c :: p, a, f, 0 => by simp only [MZ, shZ]; grind
  | c :: p, a, f, i + 1 => by simp only [MZ, shZ]; rw [MZ_scale p a f i]; grind
theorem MZ_sh : ∀ (p : List Int) (f : Nat → Int) (i : Nat), MZ p (shZ f) i = shZ (MZ p f) i
  | [], _, 0 => rfl
  | [], _, _ + 1 => rfl
  | c :: p, f, 0 => by simp only [MZ, shZ]; grind
  | c :: p, f, i + 1 => by
    show c * f i + MZ p (shZ f) i = c * f i + shZ (MZ p f) i
    rw [MZ_sh p f i]
theorem coZ_succ (c : Int) (p : List Int) (i : Nat) : coZ (c :: p) (i + 1) = coZ p i := by simp [coZ]
theorem coZ_zero (c : Int) (p : List Int) : coZ (c :: p) 0 = c := by simp [coZ]
theorem MZ_delta : ∀ (p : List Int) (i : Nat), MZ p deltaZ i = coZ p i
  | [], i => by simp [MZ, coZ]
  | c :: p, 0 => by simp only [MZ, shZ, deltaZ, coZ_zero]; grind
  | c :: p, i + 1 => by
    show c * 0 + MZ p deltaZ i = _
    rw [MZ_delta p i, coZ_succ]; grind
theorem coZ_cons_eq (c : Int) (p : List Int) : coZ (c :: p) = fun j => (c * deltaZ j) + shZ (coZ p) j := by
  funext j
  cases j with
  | zero => simp only [coZ_zero, deltaZ, shZ]; grind
  | succ j => simp only [coZ_succ, deltaZ, shZ]; grind
theorem MZ_comm : ∀ (p q : List Int) (i : Nat), MZ p (coZ q) i = MZ q (coZ p) i
  | [], q, i => by
    show 0 = MZ q (coZ []) i
    have : coZ [] = fun j => (0 : Int) * deltaZ j := by funext j; simp [coZ]
    rw [this, MZ_scale]; grind
  | c :: p, q, i => by
    rw [coZ_cons_eq c p, MZ_add, MZ_scale, MZ_delta, MZ_sh]
    show c * coZ q i + shZ (MZ p (coZ q)) i = _
    have : MZ p (coZ q) = MZ q (coZ p) := by funext j; exact MZ_comm p q j
    rw [this]

theorem MZ_dvd_tail {l : Int} {c : Int} {p q : List Int} (hc : l ∣ c) (h : ∀ i, l ∣ MZ (c :: p) (coZ q) i) : ∀ i, l ∣ MZ p (coZ q) i := by
  intro i
  have h1 : l ∣ c * coZ q (i + 1) + MZ p (coZ q) i := h (i + 1)
  have h2 : l ∣ c * coZ q (i + 1) := Int.dvd_trans hc (Int.dvd_mul_right _ _)
  have : MZ p (coZ q) i = (c * coZ q (i + 1) + MZ p (coZ q) i) - c * coZ q (i + 1) := by grind
  rw [this]; exact Int.dvd_sub h1 h2

theorem gauss {l : Nat} (hl : Pri l) : ∀ (n : Nat) (p q : List Int), p.length + q.length ≤ n → (∀ i, (l : Int) ∣ MZ p (coZ q) i) →
    (∀ i, (l : Int) ∣ coZ p i) ∨ (∀ i, (l : Int) ∣ coZ q i)
  | _, [], q, _, _ => Or.inl fun i => by simp [coZ]
  | _, _ :: _, [], _, _ => Or.inr fun i => by simp [coZ]
  | 0, _ :: _, _ :: _, hn, _ => by simp at hn
  | n + 1, a :: p, b :: q, hn, h => by
    have h0 : (l : Int) ∣ a * b := by
      have := h 0
      simp only [MZ, shZ, coZ_zero] at this
      rwa [Int.add_zero] at this
    simp only [List.length_cons] at hn
    rcases hl.part a b h0 with ha | hb
    · rcases gauss hl n p (b :: q) (by simp only [List.length_cons]; omega) (MZ_dvd_tail ha h) with h1 | h1
      · left
        intro i
        cases i with
        | zero => rw [coZ_zero]; exact ha
        | succ i => rw [coZ_succ]; exact h1 i
      · exact Or.inr h1
    · have h' : ∀ i, (l : Int) ∣ MZ (b :: q) (coZ (a :: p)) i := fun i => by rw [MZ_comm]; exact h i
      rcases gauss hl n q (a :: p) (by simp only [List.length_cons]; omega) (MZ_dvd_tail hb h') with h1 | h1
      · right
        intro i
        cases i with
        | zero => rw [coZ_zero]; exact hb
        | succ i => rw [coZ_succ]; exact h1 i
      · exact Or.inl h1

/-! whole polynomials among the fractions' -/
def toQ (p : List Int) : List Rat := p.map fun (z : Int) => (z : Rat)
theorem co_toQ : ∀ (p : List Int) (i : Nat), co (toQ p) i = ((coZ p i : Int) : Rat)
  | [], i => by simp [toQ, co_nil, coZ]
  | c :: p, 0 => by simp [toQ, co, coZ]
  | c :: p, i + 1 => by
    show co ((c : Rat) :: toQ p) (i + 1) = _
    rw [co_succ, coZ_succ]; exact co_toQ p i
theorem M_toQ : ∀ (p : List Int) (f : Nat → Int) (i : Nat), M (toQ p) (fun j => ((f j : Int) : Rat)) i = ((MZ p f i : Int) : Rat)
  | [], f, i => by simp [toQ, M, MZ]
  | c :: p, f, 0 => by
    show (c : Rat) * (f 0 : Rat) + 0 = ((c * f 0 + 0 : Int) : Rat)
    simp [Rat.intCast_mul, Rat.add_zero]
  | c :: p, f, i + 1 => by
    show (c : Rat) * (f (i + 1) : Rat) + M (toQ p) _ i = ((c * f (i + 1) + MZ p f i : Int) : Rat)
    rw [M_toQ p f i, Rat.intCast_add, Rat.intCast_mul]

theorem M_congr {p q : List Rat} (h : ∀ i, co p i = co q i) (s : List Rat) (i : Nat) : M p (co s) i = M q (co s) i := by
  rw [M_comm, M_comm q]
  have : co p = co q := by funext j; exact h j
  rw [this]

/-- all its numbers are whole: the list of them -/
def Zof (p : P) (z : List Int) : Prop := ∀ i, p.c i = ((coZ z i : Int) : Rat)

theorem zof_mul {p q r : P} {a b d : List Int} (ha : Zof p a) (hb : Zof q b) (hd : Zof r d) (h : p * q = r) (i : Nat) : MZ a (coZ b) i = coZ d i := by
  have h1 : (p * q).c i = r.c i := by rw [h]
  rw [P.c_mul, hd i] at h1
  have e1 : q.c = fun j => ((coZ b j : Int) : Rat) := by funext j; exact hb j
  have e2 : co (toQ b) = fun j => ((coZ b j : Int) : Rat) := by funext j; rw [co_toQ]
  have h2 : M p.1 q.c i = M (toQ a) (co (toQ b)) i := by
    rw [e1, ← e2]
    exact M_congr (fun j => by rw [co_toQ]; exact ha j) _ _
  rw [h2, e2, M_toQ] at h1
  exact Rat.intCast_inj.mp h1

theorem mul_den (x : Rat) : x * (x.den : Rat) = (x.num : Rat) := by
  have e : ((x.num : Int) : Rat) = mkRat x.num 1 := by
    have := (Rat.mkRat_self ((x.num : Int) : Rat)).symm
    simpa using this
  rw [Rat.mul_def', e, Rat.mkRat_eq_iff]
  · simp
  · simp [x.den_nz]
  · simp

theorem whole_of_den {x : Rat} (h : x.den = 1) : x = ((x.num : Int) : Rat) := by
  apply Rat.ext
  · simp
  · simp [h]

/-- a number that makes it whole -/
theorem exists_whole (p : P) : ∃ e : Nat, 0 < e ∧ ∃ z : List Int, Zof (P.cst (e : Rat) * p) z := by
  suffices h : ∀ l : List Rat, ∃ e : Nat, 0 < e ∧ ∃ z : List Int, ∀ i, (e : Rat) * co l i = ((coZ z i : Int) : Rat) by
    obtain ⟨e, he, z, hz⟩ := h p.1
    refine ⟨e, he, z, fun i => ?_⟩
    rw [← hz i]
    have : P.cst (e : Rat) * p = p * P.cst (e : Rat) := by grind
    rw [this, P.mul_cst]; rfl
  intro l
  induction l with
  | nil => exact ⟨1, by omega, [], fun i => by simp [co_nil, coZ]⟩
  | cons x l ih =>
    obtain ⟨e, he, z, hz⟩ := ih
    refine ⟨e * x.den, Nat.mul_pos he (Nat.pos_of_ne_zero x.den_nz), ((e : Int) * x.num) :: z.map (fun y => (x.den : Int) * y), fun i => ?_⟩
    cases i with
    | zero =>
      rw [co_zero, coZ_zero]
      have hx : x * (x.den : Rat) = (x.num : Rat) := mul_den x
      rw [Rat.intCast_mul, Rat.natCast_mul, ← hx]
      show _ = (e : Rat) * _
      grind
    | succ i =>
      rw [co_succ, coZ_succ]
      have e1 : coZ (z.map (fun y => (x.den : Int) * y)) i = (x.den : Int) * coZ z i := by
        simp only [coZ, List.getD_eq_getElem?_getD, List.getElem?_map]
        cases z[i]? <;> simp
      rw [e1, Rat.intCast_mul, ← hz i, Rat.natCast_mul]
      show _ = (x.den : Rat) * _
      grind

end Ma
namespace Ma
open AlOne

/-! values -/
theorem val_addRaw (x : Rat) : ∀ (p q : List Rat), value x (addRaw p q) = value x p + value x q
  | [], q => by simp [addRaw, value, Rat.zero_add]
  | c :: p, [] => by simp [addRaw, value, Rat.add_zero]
  | c :: p, d :: q => by
    show (c + d) + x * value x (addRaw p q) = (c + x * value x p) + (d + x * value x q)
    rw [val_addRaw x p q]; grind
theorem val_trim (x : Rat) : ∀ (p : List Rat), value x (trim p) = value x p
  | [] => rfl
  | c :: p => by
    have ih := val_trim x p
    rw [trim_cons]
    show _ = c + x * value x p
    split
    · rename_i h
      rw [h] at ih
      rw [← ih]
      split
      · rename_i h0; rw [h0]; simp only [value]; grind
      · simp only [value]
    · show c + x * value x (trim p) = _
      rw [ih]
theorem val_map (x c : Rat) : ∀ (p : List Rat), value x (p.map fun (y : Rat) => c * y) = c * value x p
  | [] => by simp [value]
  | d :: p => by
    show c * d + x * value x (p.map _) = c * (d + x * value x p)
    rw [val_map x c p]; grind
theorem val_mul (x : Rat) : ∀ (p q : List Rat), value x (mul p q) = value x p * value x q
  | [], q => by simp [mul, value]
  | c :: p, q => by
    have ih := val_mul x p q
    rw [mul_cons]
    show _ = (c + x * value x p) * value x q
    split
    · rename_i h
      rw [h] at ih
      have : value x p * value x q = 0 := ih.symm
      unfold scale
      rw [val_trim, val_map]; grind
    · unfold add scale
      rw [val_trim, val_addRaw, val_trim, val_map]
      show c * value x q + (0 + x * value x (mul p q)) = _
      rw [ih]; grind

/-- whole values -/
def vz (a : Int) : List Int → Int
  | [] => 0
  | c :: p => c + a * vz a p
theorem val_toQ (a : Int) : ∀ (p : List Int), value (a : Rat) (toQ p) = ((vz a p : Int) : Rat)
  | [] => by simp [toQ, value, vz]
  | c :: p => by
    show (c : Rat) + (a : Rat) * value (a : Rat) (toQ p) = ((c + a * vz a p : Int) : Rat)
    rw [val_toQ a p, Rat.intCast_add, Rat.intCast_mul]

/-- its numbers, if they are whole -/
def nums (p : P) : List Int := p.1.map (·.num)
theorem nums_spec {p : P} {z : List Int} (h : Zof p z) : toQ (nums p) = p.1 ∧ Zof p (nums p) ∧ ∀ i, coZ (nums p) i = coZ z i := by
  have h1 : ∀ x ∈ p.1, ((x.num : Int) : Rat) = x := by
    intro x hx
    obtain ⟨i, hi, e⟩ := List.getElem_of_mem hx
    have : p.c i = x := by
      show p.1.getD i 0 = x
      rw [List.getD_eq_getElem?_getD, List.getElem?_eq_getElem hi, e]; rfl
    rw [h i] at this
    rw [← this]; simp
  have e : toQ (nums p) = p.1 := by
    unfold toQ nums
    rw [List.map_map]
    conv => rhs; rw [← List.map_id p.1]
    exact List.map_congr_left (fun x hx => h1 x hx)
  have h2 : Zof p (nums p) := fun i => by
    show co p.1 i = _
    rw [← e, co_toQ]
  refine ⟨e, h2, fun i => ?_⟩
  have := h2 i
  rw [h i] at this
  exact (Rat.intCast_inj.mp this).symm

theorem val_nums {p : P} {z : List Int} (h : Zof p z) (a : Int) : value (a : Rat) p.1 = ((vz a (nums p) : Int) : Rat) := by
  rw [← val_toQ, (nums_spec h).1]

/-- beyond all roots -/
theorem vz_ne {m : Nat} {a : Int} (ha : (m : Int) < a) : ∀ (p : List Int), (∀ x ∈ p, x.natAbs ≤ m) → (∃ x ∈ p, x ≠ 0) → vz a p ≠ 0
  | [], _, h => by obtain ⟨x, hx, _⟩ := h; simp at hx
  | c :: p, h1, h2 => by
    by_cases hp : ∃ x ∈ p, x ≠ 0
    · have ih := vz_ne ha p (fun x hx => h1 x (by simp [hx])) hp
      have hc := h1 c (by simp)
      intro h0
      have h0' : c + a * vz a p = 0 := h0
      have h3 : c = a * (-(vz a p)) := by grind
      have h4 : c.natAbs = a.natAbs * (vz a p).natAbs := by rw [h3, Int.natAbs_mul, Int.natAbs_neg]
      have h5 : 1 ≤ (vz a p).natAbs := by omega
      have h6 : a.natAbs * 1 ≤ a.natAbs * (vz a p).natAbs := Nat.mul_le_mul_left _ h5
      omega
    · have hz : vz a p = 0 := by
        have : ∀ (q : List Int), (¬ ∃ x ∈ q, x ≠ 0) → vz a q = 0 := by
          intro q
          induction q with
          | nil => intro _; rfl
          | cons d q ih =>
            intro hq
            have e1 : d = 0 := Classical.byContradiction fun hd => hq ⟨d, by simp, hd⟩
            have e2 := ih (fun ⟨x, hx, hx0⟩ => hq ⟨x, by simp [hx], hx0⟩)
            show d + a * vz a q = 0
            rw [e1, e2]; simp
        exact this p hp
      show c + a * vz a p ≠ 0
      rw [hz]
      obtain ⟨x, hx, hx0⟩ := h2
      rcases List.mem_cons.mp hx with e | e
      · subst e; simpa using hx0
      · exact absurd ⟨x, e, hx0⟩ hp

theorem vz_B {b : Nat} {a : Int} (ha : B a (b + 1)) : ∀ (p : List Int) (n : Nat), (∀ x ∈ p, B x b) → p.length ≤ n + 1 → B (vz a p) (b + n * (b + 2))
  | [], n, _, _ => B.zero _
  | [c], n, h, _ => by
    have := h c (by simp)
    show B (c + a * 0) _
    rw [Int.mul_zero, Int.add_zero]
    exact this.mono (by omega)
  | c :: d :: p, n, h, hl => by
    cases n with
    | zero => simp at hl
    | succ n =>
      have ih := vz_B ha (d :: p) n (fun x hx => h x (List.mem_cons_of_mem _ hx)) (by simp only [List.length_cons] at *; omega)
      have hc := h c (by simp)
      have h1 : B (a * vz a (d :: p)) (b + 1 + (b + n * (b + 2))) := ha.mul ih
      have h2 : B c (b + 1 + (b + n * (b + 2))) := hc.mono (by omega)
      have := h2.add h1
      refine this.mono ?_
      rw [Nat.succ_mul]; omega

/-- numbers from values at five places -/
theorem five (c0 c1 c2 c3 c4 t : Int) (n b : Nat) (hb : 3 ≤ b) (ht : B t b)
    (h : ∀ k : Nat, 1 ≤ k → k ≤ 5 → B (vz (t + k) [c0, c1, c2, c3, c4]) n) :
    B c0 (n + 10 * b + 100) ∧ B c1 (n + 10 * b + 100) ∧ B c2 (n + 10 * b + 100) ∧ B c3 (n + 10 * b + 100) ∧ B c4 (n + 10 * b + 100) := by
  have v1 := h 1 (by omega) (by omega)
  have v2 := h 2 (by omega) (by omega)
  have v3 := h 3 (by omega) (by omega)
  have v4 := h 4 (by omega) (by omega)
  have v5 := h 5 (by omega) (by omega)
  have hk : ∀ k : Nat, k ≤ 5 → B ((k : Nat) : Int) b := by
    intro k hk
    unfold B
    have : 2 ^ 3 ≤ 2 ^ b := Nat.pow_le_pow_right (by omega) hb
    have e : ((k : Nat) : Int).natAbs = k := Int.natAbs_natCast k
    rw [e]; omega
  have hT : ∀ k : Nat, k ≤ 5 → B (t + ((k : Nat) : Int)) (b + 1) := fun k hk' => ht.add (hk k hk')
  have num : ∀ (k : Nat), B ((k : Nat) : Int) k := by
    intro k
    unfold B
    rw [Int.natAbs_natCast]
    exact Nat.le_of_lt Nat.lt_two_pow_self
  generalize e1 : vz (t + (1 : Nat)) [c0, c1, c2, c3, c4] = w1 at v1
  generalize e2 : vz (t + (2 : Nat)) [c0, c1, c2, c3, c4] = w2 at v2
  generalize e3 : vz (t + (3 : Nat)) [c0, c1, c2, c3, c4] = w3 at v3
  generalize e4 : vz (t + (4 : Nat)) [c0, c1, c2, c3, c4] = w4 at v4
  generalize e5 : vz (t + (5 : Nat)) [c0, c1, c2, c3, c4] = w5 at v5
  simp only [vz] at e1 e2 e3 e4 e5
  have t1 := hT 1 (by omega)
  have t2 := hT 2 (by omega)
  have t3 := hT 3 (by omega)
  have t4 := hT 4 (by omega)
  have t5 := hT 5 (by omega)
  generalize hs1 : t + ((1 : Nat) : Int) = s1 at e1 t1
  generalize hs2 : t + ((2 : Nat) : Int) = s2 at e2 t2
  generalize hs3 : t + ((3 : Nat) : Int) = s3 at e3 t3
  generalize hs4 : t + ((4 : Nat) : Int) = s4 at e4 t4
  generalize hs5 : t + ((5 : Nat) : Int) = s5 at e5 t5
  have a2 : s2 = s1 + 1 := by omega
  have a3 : s3 = s1 + 2 := by omega
  have a4 : s4 = s1 + 3 := by omega
  have a5 : s5 = s1 + 4 := by omega
  have k4 : B c4 (n + 14) := by
    refine B.of_mul (k := 24) (by omega) ?_
    have : (24 : Int) * c4 = (w5 + w1) + (((6 : Nat) : Int) * w3 - ((4 : Nat) : Int) * (w4 + w2)) := by
      rw [← e1, ← e2, ← e3, ← e4, ← e5, a2, a3, a4, a5]; grind
    rw [this]
    have b1 := (v5.add v1).mono (show n + 1 ≤ n + 8 by omega)
    have b2 := ((num 6).mul v3).mono (show 6 + n ≤ n + 6 by omega)
    have b3 := ((num 4).mul (v4.add v2)).mono (show 4 + (n + 1) ≤ n + 6 by omega)
    exact (b1.add ((b2.sub b3).mono (by omega))).mono (by omega)
  have q4 : ∀ {s w : Int}, B s (b + 1) → B w n → B (w - s * (s * (s * (s * c4)))) (n + 4 * b + 20) := by
    intro s w hs hw
    have := hs.mul (hs.mul (hs.mul (hs.mul k4)))
    exact ((hw.mono (show n ≤ n + 4 * b + 19 by omega)).sub (this.mono (by omega))).mono (by omega)
  have u1 := q4 t1 v1
  have u2 := q4 t2 v2
  have u3 := q4 t3 v3
  have u4 := q4 t4 v4
  generalize f1 : w1 - s1 * (s1 * (s1 * (s1 * c4))) = x1 at u1
  generalize f2 : w2 - s2 * (s2 * (s2 * (s2 * c4))) = x2 at u2
  generalize f3 : w3 - s3 * (s3 * (s3 * (s3 * c4))) = x3 at u3
  generalize f4 : w4 - s4 * (s4 * (s4 * (s4 * c4))) = x4 at u4
  have k3 : B c3 (n + 4 * b + 26) := by
    refine B.of_mul (k := 6) (by omega) ?_
    have : (6 : Int) * c3 = (x4 - x1) + ((3 : Nat) : Int) * (x2 - x3) := by
      rw [← f1, ← f2, ← f3, ← f4, ← e1, ← e2, ← e3, ← e4, a2, a3, a4]; grind
    rw [this]
    exact (((u4.sub u1).mono (by omega)).add (((num 3).mul (u2.sub u3)).mono (show 3 + (n + 4 * b + 20 + 1) ≤ n + 4 * b + 24 by omega))).mono (by omega)
  have q3 : ∀ {s w : Int}, B s (b + 1) → B w (n + 4 * b + 20) → B (w - s * (s * (s * c3))) (n + 7 * b + 30) := by
    intro s w hs hw
    have := hs.mul (hs.mul (hs.mul k3))
    exact ((hw.mono (show _ ≤ n + 7 * b + 29 by omega)).sub (this.mono (by omega))).mono (by omega)
  have y1 := q3 t1 u1
  have y2 := q3 t2 u2
  have y3 := q3 t3 u3
  generalize g1 : x1 - s1 * (s1 * (s1 * c3)) = z1 at y1
  generalize g2 : x2 - s2 * (s2 * (s2 * c3)) = z2 at y2
  generalize g3 : x3 - s3 * (s3 * (s3 * c3)) = z3 at y3
  have k2 : B c2 (n + 7 * b + 35) := by
    refine B.of_mul (k := 2) (by omega) ?_
    have : (2 : Int) * c2 = (z3 + z1) - ((2 : Nat) : Int) * z2 := by
      rw [← g1, ← g2, ← g3, ← f1, ← f2, ← f3, ← e1, ← e2, ← e3, a2, a3]; grind
    rw [this]
    exact (((y3.add y1).mono (by omega)).sub (((num 2).mul y2).mono (show 2 + (n + 7 * b + 30) ≤ n + 7 * b + 33 by omega))).mono (by omega)
  have q2 : ∀ {s w : Int}, B s (b + 1) → B w (n + 7 * b + 30) → B (w - s * (s * c2)) (n + 9 * b + 40) := by
    intro s w hs hw
    have := hs.mul (hs.mul k2)
    exact ((hw.mono (show _ ≤ n + 9 * b + 38 by omega)).sub (this.mono (by omega))).mono (by omega)
  have r1 := q2 t1 y1
  have r2 := q2 t2 y2
  have k1 : B c1 (n + 9 * b + 41) := by
    have : c1 = (z2 - s2 * (s2 * c2)) - (z1 - s1 * (s1 * c2)) := by
      rw [← g1, ← g2, ← f1, ← f2, ← e1, ← e2, a2]; grind
    rw [this]
    exact (r2.sub r1).mono (by omega)
  have k0 : B c0 (n + 10 * b + 50) := by
    have : c0 = (z1 - s1 * (s1 * c2)) - s1 * c1 := by
      rw [← g1, ← f1, ← e1]; grind
    rw [this]
    exact ((r1.mono (show _ ≤ n + 10 * b + 49 by omega)).sub ((t1.mul k1).mono (by omega))).mono (by omega)
  exact ⟨k0.mono (by omega), k1.mono (by omega), k2.mono (by omega), k3.mono (by omega), k4.mono (by omega)⟩

/-- how large: a number that makes all whole, and they -/
def Ht (p : P) (b : Nat) : Prop := ∃ D : Nat, 0 < D ∧ D ≤ 2 ^ b ∧ ∃ z : List Int, Zof (P.cst (D : Rat) * p) z ∧ ∀ i, B (coZ z i) b

theorem cst_mul (a b : Rat) : P.cst a * P.cst b = P.cst (a * b) := by
  apply P.ext'
  intro i
  rw [P.mul_cst, P.c_cst, P.c_cst]; grind

theorem cst_c (a : Rat) (p : P) (i : Nat) : (P.cst a * p).c i = a * p.c i := by
  have : P.cst a * p = p * P.cst a := by grind
  rw [this, P.mul_cst]

theorem cst_ne {a : Rat} (h : a ≠ 0) : P.cst a ≠ 0 := by
  intro h0; have := P.len_cst h; rw [h0, P.len_zero] at this; omega

theorem natCast_ne {n : Nat} (h : 0 < n) : (n : Rat) ≠ 0 := by
  intro h0
  have : n = 0 := by
    have h1 : ((n : Nat) : Rat) = ((0 : Nat) : Rat) := h0
    exact Rat.natCast_inj.mp h1
  omega

theorem coZ_map_div {l : Int} (z : List Int) (i : Nat) : coZ (z.map (fun y => y / l)) i = coZ z i / l := by
  simp only [coZ, List.getD_eq_getElem?_getD, List.getElem?_map]
  cases z[i]? <;> simp

/-- made whole by a least number: no prime goes into all -/
theorem primitive {p : P} {e : Nat} {z : List Int} (he : 0 < e) (hz : Zof (P.cst (e : Rat) * p) z)
    (hmin : ∀ k, k < e → ¬ (0 < k ∧ ∃ z, Zof (P.cst (k : Rat) * p) z)) {l : Nat} (hl : Pri l) (hle : l ∣ e) : ¬ ∀ i, (l : Int) ∣ coZ z i := by
  intro h
  obtain ⟨k, hk⟩ := hle
  have h2 := hl.two
  have hk0 : 0 < k := by
    rcases Nat.eq_zero_or_pos k with h0 | h0
    · subst h0; omega
    · exact h0
  have hlt : k < e := by
    rw [hk]
    calc k = 1 * k := by omega
      _ < l * k := Nat.mul_lt_mul_of_pos_right (by omega) hk0
  refine hmin k hlt ⟨hk0, z.map (fun y => y / (l : Int)), fun i => ?_⟩
  rw [coZ_map_div, cst_c]
  obtain ⟨y, hy⟩ := h i
  have e1 := hz i
  rw [cst_c, hy, hk] at e1
  have hl0 : (l : Int) ≠ 0 := by omega
  rw [hy, Int.mul_ediv_cancel_left y hl0]
  rw [Rat.natCast_mul, Rat.intCast_mul] at e1
  have e2 : ((l : Int) : Rat) = (l : Rat) := rfl
  rw [e2] at e1
  have := natCast_ne (n := l) (by omega)
  have e3 : (l : Rat) * ((k : Rat) * p.c i) = (l : Rat) * (y : Rat) := by grind
  grind

theorem gauss_div {G H p : P} {zg zp : List Int} (hg : Zof G zg) (hp : Zof p zp) (h : G * H = p)
    (prim : ∀ l, Pri l → ¬ ∀ i, (l : Int) ∣ coZ zg i) : ∃ z, Zof H z := by
  obtain ⟨f0, hf0⟩ := exists_whole H
  obtain ⟨f, ⟨hf, zf, hzf⟩, hmin⟩ := least_of (fun k => 0 < k ∧ ∃ z, Zof (P.cst (k : Rat) * H) z) f0 hf0
  by_cases h1 : f = 1
  · subst h1
    refine ⟨zf, fun i => ?_⟩
    rw [← hzf i, cst_c]
    have : (((1 : Nat) : Rat)) = 1 := rfl
    rw [this]; grind
  · obtain ⟨l, hl, hle⟩ := pri_of (n := f) (by omega)
    exfalso
    have hz' : Zof (P.cst (f : Rat) * p) (zp.map (fun y => (f : Int) * y)) := fun i => by
      have e1 : coZ (zp.map (fun y => (f : Int) * y)) i = (f : Int) * coZ zp i := by
        simp only [coZ, List.getD_eq_getElem?_getD, List.getElem?_map]
        cases zp[i]? <;> simp
      rw [cst_c, e1, Rat.intCast_mul, hp i]; rfl
    have hm := zof_mul hg hzf hz' (by rw [← h]; grind)
    have hd : ∀ i, (l : Int) ∣ MZ zg (coZ zf) i := fun i => by
      rw [hm i]
      have e1 : coZ (zp.map (fun y => (f : Int) * y)) i = (f : Int) * coZ zp i := by
        simp only [coZ, List.getD_eq_getElem?_getD, List.getElem?_map]
        cases zp[i]? <;> simp
      rw [e1]
      exact Int.dvd_trans (Int.ofNat_dvd.mpr hle) (Int.dvd_mul_right _ _)
    rcases gauss hl _ zg zf (Nat.le_refl _) hd with h2 | h2
    · exact prim l hl h2
    · exact primitive hf hzf hmin hl hle h2

theorem coZ_mem {z : List Int} {x : Int} (h : x ∈ z) : ∃ i, coZ z i = x := by
  obtain ⟨i, hi, e⟩ := List.getElem_of_mem h
  exact ⟨i, by simp [coZ, hi, e]⟩

theorem ld_c (p : P) : p.ld = p.c (p.len - 1) := lead_eq p.1

/-- **the numbers of a divisor** -/
theorem ht_dvd {p g : P} {b : Nat} (hb : 3 ≤ b) (hp : p ≠ 0) (hl : p.len ≤ 5) (hh : Ht p b) (hg : g.ld = 1) (hd : P.Dvd g p) : Ht g (15 * b + 120) := by
  obtain ⟨h, hgh⟩ := hd
  obtain ⟨D, hD, hDb, zp, hzp, hzb⟩ := hh
  have hg0 : g ≠ 0 := by intro e; subst e; apply hp; grind
  have hh0 : h ≠ 0 := by intro e; subst e; apply hp; grind
  obtain ⟨e0, he0⟩ := exists_whole g
  obtain ⟨e, ⟨he, zg, hzg⟩, hmin⟩ := least_of (fun k => 0 < k ∧ ∃ z, Zof (P.cst (k : Rat) * g) z) e0 he0
  have heq := natCast_ne he
  have hDq := natCast_ne hD
  -- the top number of e * g is e
  have htop : coZ zg (g.len - 1) = (e : Int) := by
    have := hzg (g.len - 1)
    rw [cst_c, ← ld_c, hg] at this
    have h2 : ((e : Int) : Rat) = ((coZ zg (g.len - 1) : Int) : Rat) := by
      rw [← this]
      show (e : Rat) = _
      grind
    exact (Rat.intCast_inj.mp h2).symm
  have prim : ∀ l, Pri l → ¬ ∀ i, (l : Int) ∣ coZ zg i := by
    intro l hl' hall
    have h1 := hall (g.len - 1)
    rw [htop] at h1
    exact primitive he hzg hmin hl' (Int.ofNat_dvd.mp h1) hall
  have hprod : (P.cst (e : Rat) * g) * (P.cst ((D : Rat) / (e : Rat)) * h) = P.cst (D : Rat) * p := by
    rw [hgh]
    have e1 : P.cst (e : Rat) * P.cst ((D : Rat) / (e : Rat)) = P.cst (D : Rat) := by
      rw [cst_mul]; congr 1; grind
    grind
  obtain ⟨zh, hzh⟩ := gauss_div hzg hzp hprod prim
  generalize hG : P.cst (e : Rat) * g = G at hzg hprod
  generalize hH : P.cst ((D : Rat) / (e : Rat)) * h = H at hzh hprod
  generalize hp' : P.cst (D : Rat) * p = p' at hzp hprod
  have hG0 : G ≠ 0 := by rw [← hG]; exact P.mul_ne_zero (cst_ne heq) hg0
  have hH0 : H ≠ 0 := by
    rw [← hH]
    refine P.mul_ne_zero (cst_ne ?_) hh0
    intro h0
    have : (D : Rat) / (e : Rat) * (e : Rat) = D := by grind
    rw [h0] at this; grind
  have hp0 : p' ≠ 0 := by rw [← hp']; exact P.mul_ne_zero (cst_ne hDq) hp
  have lenG : G.len = g.len := by
    rw [← hG, P.len_mul (cst_ne heq) hg0, P.len_cst heq]; omega
  have lenp : p'.len = p.len := by
    rw [← hp', P.len_mul (cst_ne hDq) hp, P.len_cst hDq]; omega
  have nG := nums_spec hzg
  have nH := nums_spec hzh
  have np := nums_spec hzp
  have lG : (nums G).length ≤ 5 := by
    have h1 : G.len ≤ p'.len := P.Dvd.len ⟨H, hprod.symm⟩ hp0
    have h2 : (nums G).length = G.len := by unfold nums; rw [List.length_map]; rfl
    omega
  -- e is not large
  have heb : e ≤ 2 ^ b := by
    have h1 := P.ld_mul hG0 hH0
    rw [hprod, ld_c p', ld_c G, ld_c H, hzp _, hzg _, hzh _, lenG, htop, ← Rat.intCast_mul] at h1
    have h2 := Rat.intCast_inj.mp h1
    have h3 := hzb (p'.len - 1)
    have h4 : coZ zp (p'.len - 1) ≠ 0 := by
      intro h0
      have := P.ld_ne hp0
      rw [ld_c, hzp _, h0] at this
      exact this rfl
    rw [h2] at h3 h4
    have h5 : coZ zh (H.len - 1) ≠ 0 := by intro h0; rw [h0] at h4; simp at h4
    have h6 : B (e : Int) b := by
      rw [Int.mul_comm] at h3
      exact B.of_mul h5 h3
    unfold B at h6
    rwa [Int.natAbs_natCast] at h6
  refine ⟨e, he, Nat.le_trans heb (Nat.pow_le_pow_right (by omega) (by omega)), nums G, by rw [hG]; exact nG.2.1, ?_⟩
  -- values at five places
  have hval : ∀ k : Nat, 1 ≤ k → k ≤ 5 → B (vz (((2 ^ b : Nat) : Int) + (k : Int)) (nums G)) (b + 4 * (b + 2)) := by
    intro k h1 h2
    generalize ha : ((2 ^ b : Nat) : Int) + (k : Int) = a
    have hmul : vz a (nums G) * vz a (nums H) = vz a (nums p') := by
      have h3 : value (a : Rat) p'.1 = value (a : Rat) G.1 * value (a : Rat) H.1 := by
        rw [← hprod]; exact val_mul _ _ _
      rw [val_nums hzg, val_nums hzh, val_nums hzp, ← Rat.intCast_mul] at h3
      exact (Rat.intCast_inj.mp h3).symm
    have hmem : ∀ x ∈ nums p', B x b := by
      intro x hx
      obtain ⟨i, hi⟩ := coZ_mem hx
      rw [← hi, np.2.2 i]; exact hzb i
    have hne : vz a (nums p') ≠ 0 := by
      refine vz_ne (m := 2 ^ b) (by omega) _ hmem ?_
      refine ⟨coZ (nums p') (p'.len - 1), ?_, ?_⟩
      · have h4 : p'.len - 1 < (nums p').length := by
          have := P.len_pos hp0
          have h5 : (nums p').length = p'.len := by unfold nums; rw [List.length_map]; rfl
          omega
        unfold coZ
        rw [List.getD_eq_getElem?_getD, List.getElem?_eq_getElem h4]
        exact List.getElem_mem h4
      · intro h0
        have := P.ld_ne hp0
        rw [ld_c, np.2.1 _, h0] at this
        exact this rfl
    have haB : B a (b + 1) := by
      rw [← ha]
      refine B.add ?_ ?_
      · unfold B; rw [Int.natAbs_natCast]; exact Nat.le_refl _
      · unfold B
        rw [Int.natAbs_natCast]
        have : 2 ^ 3 ≤ 2 ^ b := Nat.pow_le_pow_right (by omega) hb
        omega
    have hB := vz_B haB (nums p') 4 hmem (by
      have h5 : (nums p').length = p'.len := by unfold nums; rw [List.length_map]; rfl
      omega)
    rw [← hmul, Int.mul_comm] at hB
    refine B.of_mul ?_ hB
    intro h0
    rw [h0, Int.mul_zero] at hmul
    exact hne hmul.symm
  -- written out to five numbers
  obtain ⟨c0, c1, c2, c3, c4, hc, hv⟩ : ∃ c0 c1 c2 c3 c4 : Int, (∀ i, coZ (nums G) i = coZ [c0, c1, c2, c3, c4] i) ∧ (∀ a, vz a (nums G) = vz a [c0, c1, c2, c3, c4]) := by
    generalize nums G = w at lG
    match w, lG with
    | [], _ => exact ⟨0, 0, 0, 0, 0, fun i => by
        match i with
        | 0 | 1 | 2 | 3 | 4 => rfl
        | _ + 5 => rfl, fun a => by simp [vz]⟩
    | [x0], _ => exact ⟨x0, 0, 0, 0, 0, fun i => by
        match i with
        | 0 | 1 | 2 | 3 | 4 => rfl
        | _ + 5 => rfl, fun a => by simp [vz]⟩
    | [x0, x1], _ => exact ⟨x0, x1, 0, 0, 0, fun i => by
        match i with
        | 0 | 1 | 2 | 3 | 4 => rfl
        | _ + 5 => rfl, fun a => by simp [vz]⟩
    | [x0, x1, x2], _ => exact ⟨x0, x1, x2, 0, 0, fun i => by
        match i with
        | 0 | 1 | 2 | 3 | 4 => rfl
        | _ + 5 => rfl, fun a => by simp [vz]⟩
    | [x0, x1, x2, x3], _ => exact ⟨x0, x1, x2, x3, 0, fun i => by
        match i with
        | 0 | 1 | 2 | 3 | 4 => rfl
        | _ + 5 => rfl, fun a => by simp [vz]⟩
    | [x0, x1, x2, x3, x4], _ => exact ⟨x0, x1, x2, x3, x4, fun i => rfl, fun a => rfl⟩
  have htb : B (((2 ^ b : Nat) : Int)) b := by unfold B; rw [Int.natAbs_natCast]; exact Nat.le_refl _
  have f := five c0 c1 c2 c3 c4 _ (b + 4 * (b + 2)) b hb htb (fun k h1 h2 => by rw [← hv]; exact hval k h1 h2)
  obtain ⟨f0, f1, f2, f3, f4⟩ := f
  intro i
  rw [hc i]
  match i with
  | 0 => exact f0.mono (by omega)
  | 1 => exact f1.mono (by omega)
  | 2 => exact f2.mono (by omega)
  | 3 => exact f3.mono (by omega)
  | 4 => exact f4.mono (by omega)
  | _ + 5 => exact B.zero _

end Ma
/-! Determinants of tables of polynomials; what the minors have in common. -/
namespace Ma
open AlOne

abbrev Mat := List (List P)
def vals (m : Mat) : List (List Uni) := m.map fun r => r.map fun p => p.1

/-- one term of a determinant -/
def term (d : P) (j : Nat) : P := if j % 2 = 0 then d else -d

def detP : Nat → Mat → P
  | 0, _ => 1
  | n + 1, rows => (((rows.headD []).zip (List.range (n + 1))).map fun x => term (x.1 * detP n (rows.tail.map fun r => r.eraseIdx x.2)) x.2).foldl (· + ·) 0

theorem foldl_val : ∀ (l : List P) (s : P), (l.map fun p => p.1).foldl add s.1 = (l.foldl (· + ·) s).1
  | [], _ => rfl
  | p :: l, s => foldl_val l (s + p)

theorem vals_headD (m : Mat) : (vals m).headD [] = (m.headD []).map fun p => p.1 := by cases m <;> rfl
theorem vals_tail (m : Mat) : (vals m).tail = vals m.tail := by cases m <;> rfl
theorem map_eraseIdx {A C : Type} (f : A → C) : ∀ (l : List A) (i : Nat), (l.eraseIdx i).map f = (l.map f).eraseIdx i
  | [], i => by simp
  | a :: l, 0 => rfl
  | a :: l, i + 1 => by simp [List.eraseIdx, map_eraseIdx f l i]

theorem det_val : ∀ (n : Nat) (m : Mat), Al09.det n (vals m) = (detP n m).1
  | 0, m => by
    show one = (1 : P).1
    rw [P.one_val]
  | n + 1, m => by
    unfold Al09.det detP
    rw [vals_headD, vals_tail, ← P.zero_val, ← foldl_val]
    congr 1
    rw [List.map_map, List.zip_map_left, List.map_map]
    refine List.map_congr_left fun x _ => ?_
    show (if x.2 % 2 = 0 then _ else _) = (term _ _).1
    have ih := det_val n (m.tail.map fun r => r.eraseIdx x.2)
    have e : (vals m.tail).map (fun r => r.eraseIdx x.2) = vals (m.tail.map fun r => r.eraseIdx x.2) := by
      unfold vals
      rw [List.map_map, List.map_map]
      refine List.map_congr_left fun r _ => ?_
      exact (map_eraseIdx _ r x.2).symm
    unfold term
    show (if x.2 % 2 = 0 then mul x.1.1 (Al09.det n ((vals m.tail).map fun r => r.eraseIdx x.2)) else neg (mul x.1.1 (Al09.det n ((vals m.tail).map fun r => r.eraseIdx x.2)))) = _
    rw [e, ih]
    split <;> rfl

/-- sums -/
theorem dvd_foldl {g : P} : ∀ (l : List P) (s : P), P.Dvd g s → (∀ p ∈ l, P.Dvd g p) → P.Dvd g (l.foldl (· + ·) s)
  | [], _, hs, _ => hs
  | p :: l, s, hs, h => dvd_foldl l (s + p) (hs.add (h p (by simp))) (fun q hq => h q (by simp [hq]))

theorem dvd_term {g d : P} (h : P.Dvd g d) (j : Nat) : P.Dvd g (term d j) := by
  unfold term; split
  · exact h
  · exact h.neg

theorem dvd_det {g : P} {n : Nat} {rows : Mat} (h : ∀ j, j < (rows.headD []).length → P.Dvd g (detP n (rows.tail.map fun r => r.eraseIdx j))) : P.Dvd g (detP (n + 1) rows) := by
  unfold detP
  refine dvd_foldl _ _ (P.Dvd.zero g) ?_
  intro p hp
  rw [List.mem_map] at hp
  obtain ⟨x, hx, e⟩ := hp
  rw [← e]
  refine dvd_term ((h x.2 ?_).mul _) _
  obtain ⟨i, hi, e2⟩ := List.getElem_of_mem hx
  have h1 : x.2 = i := by
    rw [← e2, List.getElem_zip]; simp
  rw [List.length_zip, List.length_range] at hi
  omega

/-- the numbers chosen from a table -/
def pick (rows : Mat) (cols : List Nat) : Mat := rows.map fun r => cols.map fun j => r.getD j 0

theorem pick_tail_erase (rows : Mat) (cols : List Nat) (j : Nat) : (pick rows cols).tail.map (fun r => r.eraseIdx j) = pick rows.tail (cols.eraseIdx j) := by
  unfold pick
  rw [← List.map_tail, List.map_map]
  refine List.map_congr_left fun r _ => ?_
  exact (map_eraseIdx _ _ _).symm

theorem mem_choose {A : Type} : ∀ (k : Nat) (l m : List A), m ∈ Al09.choose k l ↔ m.Sublist l ∧ m.length = k
  | 0, l, m => by
    simp only [Al09.choose, List.mem_singleton]
    constructor
    · intro h; subst h; exact ⟨List.nil_sublist l, rfl⟩
    · intro h; exact List.eq_nil_of_length_eq_zero h.2
  | k + 1, [], m => by
    simp only [Al09.choose, List.not_mem_nil, false_iff]
    intro h
    have := h.1.length_le
    simp at this
    rw [this] at h; simp at h
  | k + 1, x :: l, m => by
    simp only [Al09.choose, List.mem_append, List.mem_map]
    rw [mem_choose (k + 1) l m]
    constructor
    · rintro (⟨n, hn, e⟩ | h)
      · rw [mem_choose k l n] at hn
        subst e
        exact ⟨hn.1.cons_cons x, by simp [hn.2]⟩
      · exact ⟨h.1.cons x, h.2⟩
    · rintro ⟨h1, h2⟩
      cases h1 with
      | cons _ h => exact Or.inr ⟨h, h2⟩
      | @cons_cons l1 _ _ h => exact Or.inl ⟨l1, (mem_choose k l l1).mpr ⟨h, by simpa using h2⟩, rfl⟩

/-- goes into all determinants of k rows and columns, so into all of one more -/
theorem dvd_next {g : P} {k : Nat} {L : Mat} {C : List Nat}
    (h : ∀ R S, List.Sublist R L → R.length = k → List.Sublist S C → S.length = k → P.Dvd g (detP k (pick R S))) :
    ∀ R S, List.Sublist R L → R.length = k + 1 → List.Sublist S C → S.length = k + 1 → P.Dvd g (detP (k + 1) (pick R S)) := by
  intro R S h1 h2 h3 h4
  refine dvd_det fun j hj => ?_
  rw [pick_tail_erase]
  cases R with
  | nil => simp at h2
  | cons r R =>
    have hj' : j < S.length := by
      have : ((pick (r :: R) S).headD []).length = S.length := by simp [pick]
      omega
    refine h R (S.eraseIdx j) ((List.sublist_cons_self r R).trans h1) (by simpa using h2) ((List.eraseIdx_sublist S j).trans h3) ?_
    rw [List.length_eraseIdx_of_lt hj']; omega

/-! what all of a list have in common -/
def comL (l : List P) (s : P) : P := l.foldl com s
theorem comL_val : ∀ (l : List P) (s : P), (l.map fun p => p.1).foldl common s.1 = (comL l s).1
  | [], _ => rfl
  | p :: l, s => comL_val l (com s p)

structure IsComL (l : List P) (s g : P) : Prop where
  start : P.Dvd g s
  each : ∀ p ∈ l, P.Dvd g p
  all : ∀ h, P.Dvd h s → (∀ p ∈ l, P.Dvd h p) → P.Dvd h g
  top : (g = 0 ∨ g.ld = 1) ∨ l = []

theorem comL_spec : ∀ (l : List P) (s : P), IsComL l s (comL l s)
  | [], s => ⟨P.Dvd.refl s, by simp, fun h h1 _ => h1, Or.inr rfl⟩
  | p :: l, s => by
    have c := com_spec s p
    have ih := comL_spec l (com s p)
    refine ⟨ih.start.trans c.left, ?_, ?_, ?_⟩
    · intro q hq
      rcases List.mem_cons.mp hq with e | e
      · subst e; exact ih.start.trans c.right
      · exact ih.each q e
    · intro h h1 h2
      exact ih.all h (c.all h h1 (h2 p (by simp))) (fun q hq => h2 q (by simp [hq]))
    · rcases ih.top with h | h
      · exact Or.inl h
      · subst h
        exact Or.inl c.top

/-- lengths of determinants: each row of numbers, or with one more -/
theorem len_foldl {n : Nat} : ∀ (l : List P) (s : P), s.len ≤ n → (∀ p ∈ l, p.len ≤ n) → (l.foldl (· + ·) s).len ≤ n
  | [], _, hs, _ => hs
  | p :: l, s, hs, h => by
    refine len_foldl l (s + p) ?_ (fun q hq => h q (by simp [hq]))
    have := P.len_add s p
    have := h p (by simp)
    omega

theorem len_neg (p : P) : (-p).len = p.len := by
  have h1 : ∀ q : P, (-q).len ≤ q.len := fun q => by
    refine len_le (-q).2 fun i hi => ?_
    have := P.c_neg q i
    unfold P.c at this
    rw [this, co_ge hi]; grind
  have h2 := h1 (-p)
  have h3 : - -p = p := by grind
  rw [h3] at h2
  have := h1 p
  omega

theorem len_term (d : P) (j : Nat) : (term d j).len = d.len := by unfold term; split; rfl; exact len_neg d

theorem len_mul_le {p q : P} {a b : Nat} (hp : p.len ≤ a) (hq : q.len ≤ b + 1) : (p * q).len ≤ a + b := by
  by_cases h1 : p = 0
  · subst h1; have : (0 : P) * q = 0 := by grind
    rw [this, P.len_zero]; omega
  · by_cases h2 : q = 0
    · subst h2; have : p * (0 : P) = 0 := by grind
      rw [this, P.len_zero]; omega
    · rw [P.len_mul h1 h2]; have := P.len_pos h1; have := P.len_pos h2; omega

/-- a row's weight -/
def Rw (r : List P) (w : Nat) : Prop := ∀ p ∈ r, p.len ≤ w + 1

def Rws : Mat → List Nat → Prop
  | [], [] => True
  | r :: m, w :: ws => Rw r w ∧ Rws m ws
  | _, _ => False

theorem rws_erase (j : Nat) : ∀ (m : Mat) (ws : List Nat), Rws m ws → Rws (m.map fun r => r.eraseIdx j) ws
  | [], [], _ => trivial
  | r :: m, w :: ws, h => ⟨fun p hp => h.1 p ((List.eraseIdx_sublist _ _).subset hp), rws_erase j m ws h.2⟩
  | [], _ :: _, h => h.elim
  | _ :: _, [], h => h.elim

theorem len_det : ∀ (n : Nat) (m : Mat) (ws : List Nat), m.length = n → Rws m ws → (detP n m).len ≤ ws.sum + 1
  | 0, m, ws, _, _ => by show (1 : P).len ≤ _; rw [P.len_one]; omega
  | n + 1, [], ws, h, _ => by simp at h
  | n + 1, r :: m, [], _, h => h.elim
  | n + 1, r :: m, w :: ws, h, hf => by
    unfold detP
    refine len_foldl _ _ (by rw [P.len_zero]; omega) ?_
    intro p hp
    rw [List.mem_map] at hp
    obtain ⟨x, hx, e⟩ := hp
    rw [← e, len_term]
    have hx1 : x.1 ∈ r := (List.of_mem_zip (a := x.1) (b := x.2) hx).1
    have ih := len_det n (m.map fun r => r.eraseIdx x.2) ws (by simpa using h) (rws_erase x.2 m ws hf.2)
    have := len_mul_le (hf.1 x.1 hx1) ih
    rw [List.sum_cons]
    show (x.1 * detP n ((r :: m).tail.map fun r => r.eraseIdx x.2)).len ≤ _
    simp only [List.tail_cons]
    omega

end Ma
/-! x less a table: its determinant has 1 at its highest power. -/
namespace Ma
open AlOne

theorem add_short {p q : P} (h : q.len < p.len) : (p + q).len = p.len ∧ (p + q).ld = p.ld := by
  have hp : p ≠ 0 := by intro e; subst e; rw [P.len_zero] at h; omega
  have h1 : (p + q).c (p.len - 1) = p.ld := by
    rw [P.c_add, ← ld_c]
    have : q.c (p.len - 1) = 0 := co_ge (show q.len ≤ p.len - 1 by omega)
    rw [this]; grind
  have e : (p + q).len = (p.len - 1) + 1 := by
    refine len_eq (p + q).2 (fun i hi => ?_) ?_
    · show (p + q).c i = 0
      rw [P.c_add]
      have h3 : p.c i = 0 := co_ge (show p.len ≤ i by omega)
      have h4 : q.c i = 0 := co_ge (show q.len ≤ i by omega)
      rw [h3, h4]; grind
    · show (p + q).c _ ≠ 0
      rw [h1]; exact P.ld_ne hp
  have hpos := P.len_pos hp
  refine ⟨by omega, ?_⟩
  rw [ld_c, e]; exact h1

theorem foldl_short {n : Nat} : ∀ (l : List P) (s : P), n < s.len → (∀ p ∈ l, p.len ≤ n) → (l.foldl (· + ·) s).len = s.len ∧ (l.foldl (· + ·) s).ld = s.ld
  | [], _, _, _ => ⟨rfl, rfl⟩
  | p :: l, s, hs, h => by
    have h1 := h p (by simp)
    have a := add_short (p := s) (q := p) (by omega)
    have := foldl_short l (s + p) (by omega) (fun q hq => h q (by simp [hq]))
    exact ⟨by rw [← a.1]; exact this.1, by rw [← a.2]; exact this.2⟩

structure IsX (n : Nat) (m : Mat) : Prop where
  rows : m.length = n
  wid : ∀ r ∈ m, r.length = n
  diag : ∀ i, i < n → ((m.getD i []).getD i 0).len = 2 ∧ ((m.getD i []).getD i 0).ld = 1
  off : ∀ i j, i < n → j < n → i ≠ j → ((m.getD i []).getD j 0).len ≤ 1

theorem IsX.mem {n : Nat} {m : Mat} (h : IsX n m) {i : Nat} (hi : i < n) : m.getD i [] ∈ m := by
  have : i < m.length := by rw [h.rows]; exact hi
  rw [List.getD_eq_getElem?_getD, List.getElem?_eq_getElem this]
  exact List.getElem_mem this

theorem rws_of (w : Nat → Nat) : ∀ (m : Mat) (k : Nat), (∀ i, i < m.length → Rw (m.getD i []) (w (k + i))) → Rws m ((List.range' k m.length).map w)
  | [], _, _ => trivial
  | r :: m, k, h => by
    refine ⟨?_, ?_⟩
    · have := h 0 (by simp)
      simpa using this
    · have := rws_of w m (k + 1) (fun i hi => by
        have := h (i + 1) (by simp; omega)
        have e : k + (i + 1) = k + 1 + i := by omega
        rw [e] at this
        simpa using this)
      simpa using this

theorem sum_but (j : Nat) : ∀ (n k : Nat), ((List.range' k n).map fun i => if i = j then 0 else 1).sum + (if k ≤ j ∧ j < k + n then 1 else 0) = n
  | 0, k => by
    have : ¬ (k ≤ j ∧ j < k + 0) := by omega
    simp [this]
  | n + 1, k => by
    have ih := sum_but j n (k + 1)
    rw [List.range'_succ, List.map_cons, List.sum_cons]
    by_cases h : k = j
    · have h1 : ¬ (k + 1 ≤ j ∧ j < k + 1 + n) := by omega
      have h2 : k ≤ j ∧ j < k + (n + 1) := by omega
      rw [if_neg h1] at ih
      rw [if_pos h, if_pos h2]; omega
    · rw [if_neg h]
      by_cases h1 : k + 1 ≤ j ∧ j < k + 1 + n
      · have h2 : k ≤ j ∧ j < k + (n + 1) := by omega
        rw [if_pos h1] at ih
        rw [if_pos h2]; omega
      · have h2 : ¬ (k ≤ j ∧ j < k + (n + 1)) := by omega
        rw [if_neg h1] at ih
        rw [if_neg h2]; omega

theorem getD_map_erase (m : Mat) (i j : Nat) : (m.map fun r => r.eraseIdx j).getD i [] = (m.getD i []).eraseIdx j := by
  simp only [List.getD_eq_getElem?_getD, List.getElem?_map]
  cases m[i]? <;> simp

theorem getD_erase_zero (r : List P) (j : Nat) : (r.eraseIdx 0).getD j 0 = r.getD (j + 1) 0 := by
  cases r <;> simp

/-- without its first row and column -/
theorem IsX.less {n : Nat} {r : List P} {m : Mat} (h : IsX (n + 1) (r :: m)) : IsX n (m.map fun r => r.eraseIdx 0) := by
  have hl : m.length = n := by have := h.rows; simpa using this
  refine ⟨by simpa using hl, ?_, ?_, ?_⟩
  · intro s hs
    rw [List.mem_map] at hs
    obtain ⟨t, ht, e⟩ := hs
    have := h.wid t (by simp [ht])
    rw [← e, List.length_eraseIdx_of_lt (by omega)]; omega
  · intro i hi
    have := h.diag (i + 1) (by omega)
    rw [getD_map_erase, getD_erase_zero]
    simpa using this
  · intro i j hi hj hij
    have := h.off (i + 1) (j + 1) (by omega) (by omega) (by omega)
    rw [getD_map_erase, getD_erase_zero]
    simpa using this

theorem IsX.len_erase {n : Nat} {r : List P} {m : Mat} (h : IsX (n + 1) (r :: m)) {j : Nat} (h0 : 0 < j) (hj : j < n + 1) :
    (detP n (m.map fun r => r.eraseIdx j)).len ≤ n := by
  have hl : m.length = n := by have := h.rows; simpa using this
  have hr := rws_of (fun i => if i = j then 0 else 1) (m.map fun r => r.eraseIdx j) 1 (fun i hi p hp => by
    rw [getD_map_erase] at hp
    rw [List.length_map, hl] at hi
    have hw : (m.getD i []).length = n + 1 := by
      have := h.mem (i := i + 1) (by omega)
      have e : (r :: m).getD (i + 1) [] = m.getD i [] := by simp
      rw [e] at this
      exact h.wid _ this
    rw [List.mem_eraseIdx_iff_getElem] at hp
    obtain ⟨k, hk, hne, e⟩ := hp
    have e2 : p = (m.getD i []).getD k 0 := by
      rw [List.getD_eq_getElem?_getD (l := m.getD i []), List.getElem?_eq_getElem hk, ← e]; rfl
    have e3 : (r :: m).getD (i + 1) [] = m.getD i [] := by simp
    show p.len ≤ (if 1 + i = j then 0 else 1) + 1
    by_cases hik : i + 1 = k
    · have hd := (h.diag (i + 1) (by omega)).1
      rw [e3] at hd
      subst hik
      rw [← e2] at hd
      rw [if_neg (by omega)]; omega
    · have := h.off (i + 1) k (by omega) (by omega) hik
      rw [e3, ← e2] at this
      omega)
  rw [List.length_map, hl] at hr
  have := len_det n _ _ (by simpa using hl) hr
  have hs := sum_but j n 1
  rw [if_pos (by omega)] at hs
  omega

/-- **the polynomial of a table**: one more number than rows, 1 at its top -/
theorem IsX.det : ∀ {n : Nat} {m : Mat}, IsX n m → (detP n m).len = n + 1 ∧ (detP n m).ld = 1
  | 0, m, _ => ⟨P.len_one, P.ld_one⟩
  | n + 1, [], h => by have := h.rows; simp at this
  | n + 1, r :: m, h => by
    have hr : r.length = n + 1 := h.wid r (by simp)
    have hd := h.diag 0 (by omega)
    have ih := IsX.det h.less
    have he : ∀ j, 0 < j → j < n + 1 → (detP n (m.map fun r => r.eraseIdx j)).len ≤ n := fun j h0 hj => h.len_erase h0 hj
    have ho : ∀ j, 0 < j → j < n + 1 → (r.getD j 0).len ≤ 1 := fun j h0 hj => by
      have := h.off 0 j (by omega) hj (by omega)
      simpa using this
    cases r with
    | nil => simp at hr
    | cons e0 r =>
      have hd' : e0.len = 2 ∧ e0.ld = 1 := by simpa using hd
      have ne0 : e0 ≠ 0 := by intro e; have := hd'.1; rw [e, P.len_zero] at this; omega
      have nd : detP n (m.map fun r => r.eraseIdx 0) ≠ 0 := by intro e; have := ih.1; rw [e, P.len_zero] at this; omega
      have l1 := P.len_mul ne0 nd
      have l2 := P.ld_mul ne0 nd
      rw [hd'.1, ih.1] at l1
      rw [hd'.2, ih.2] at l2
      unfold detP
      rw [List.headD_cons, List.range_succ_eq_map, List.zip_cons_cons, List.map_cons, List.foldl_cons, List.tail_cons]
      have es : (0 : P) + term (e0 * detP n (m.map fun r => r.eraseIdx 0)) 0 = e0 * detP n (m.map fun r => r.eraseIdx 0) := by
        show (0 : P) + (e0 * detP n (m.map fun r => r.eraseIdx 0)) = _
        grind
      rw [es]
      have fs := foldl_short (n := n) ((r.zip ((List.range n).map Nat.succ)).map fun x => term (x.1 * detP n (m.map fun r => r.eraseIdx x.2)) x.2)
        (e0 * detP n (m.map fun r => r.eraseIdx 0)) (by omega) (by
          intro p hp
          rw [List.mem_map] at hp
          obtain ⟨x, hx, e⟩ := hp
          rw [← e, len_term]
          obtain ⟨i, hi, e2⟩ := List.getElem_of_mem hx
          rw [List.getElem_zip] at e2
          rw [List.length_zip, List.length_map, List.length_range] at hi
          have e3 : x.2 = i + 1 := by rw [← e2]; simp
          have e4 : x.1 = r.getD i 0 := by
            rw [← e2]
            show r[i] = _
            rw [List.getD_eq_getElem?_getD, List.getElem?_eq_getElem (by omega)]; rfl
          have h5 := ho (i + 1) (by omega) (by omega)
          have e5 : (e0 :: r).getD (i + 1) 0 = r.getD i 0 := by simp
          rw [e5, ← e4] at h5
          have h6 := he (i + 1) (by omega) (by omega)
          rw [← e3] at h6
          have hn : 0 < n := by omega
          have := len_mul_le (p := x.1) (q := detP n (m.map fun r => r.eraseIdx x.2)) (a := 1) (b := n - 1) h5 (by omega)
          omega)
      refine ⟨?_, ?_⟩
      · rw [fs.1]; omega
      · rw [fs.2, l2]; grind

end Ma
/-! The specification's forms, by what they are. -/
namespace Ma
open AlOne

def xEntry (c : Rat) (d : Bool) : P := if d then ⟨trim [-c, 1], tr_trim _⟩ else ⟨trim [-c], tr_trim _⟩

/-- x less a table -/
def lessP (a : Al09.Table) : Mat := (a.zip (List.range a.length)).map fun r => (r.1.zip (List.range a.length)).map fun x => xEntry x.1 (decide (x.2 = r.2))

theorem lessP_vals (a : Al09.Table) : vals (lessP a) = Al09.lessX a := by
  unfold vals lessP Al09.lessX
  rw [List.map_map]
  refine List.map_congr_left fun r _ => ?_
  show ((r.1.zip (List.range a.length)).map _).map _ = _
  rw [List.map_map]
  refine List.map_congr_left fun x _ => ?_
  show (xEntry x.1 (decide (x.2 = r.2))).1 = _
  unfold xEntry
  by_cases h : x.2 = r.2
  · simp [h]
  · simp [h]

/-- a square table -/
structure Sq (n : Nat) (a : Al09.Table) : Prop where
  rows : a.length = n
  wid : ∀ r ∈ a, r.length = n

theorem lessP_row {n : Nat} {a : Al09.Table} (h : Sq n a) {i : Nat} (hi : i < n) :
    (lessP a).getD i [] = ((a.getD i []).zip (List.range n)).map fun x => xEntry x.1 (decide (x.2 = i)) := by
  unfold lessP
  have h1 : i < a.length := by rw [h.rows]; exact hi
  rw [List.getD_eq_getElem?_getD, List.getElem?_map]
  have e : (a.zip (List.range a.length))[i]? = some (a.getD i [], i) := by
    rw [List.getElem?_eq_getElem (by simp; omega), List.getElem_zip]
    simp [List.getD_eq_getElem?_getD, h1]
  rw [e, h.rows]; rfl

theorem row_len {n : Nat} {a : Al09.Table} (h : Sq n a) {i : Nat} (hi : i < n) : (a.getD i []).length = n := by
  have h1 : i < a.length := by rw [h.rows]; exact hi
  refine h.wid _ ?_
  rw [List.getD_eq_getElem?_getD, List.getElem?_eq_getElem h1]
  exact List.getElem_mem h1

theorem lessP_entry {n : Nat} {a : Al09.Table} (h : Sq n a) {i j : Nat} (hi : i < n) (hj : j < n) :
    ((lessP a).getD i []).getD j 0 = xEntry ((a.getD i []).getD j 0) (decide (j = i)) := by
  rw [lessP_row h hi]
  have hl := row_len h hi
  generalize a.getD i [] = r at hl
  rw [List.getD_eq_getElem?_getD, List.getElem?_map]
  have e : (r.zip (List.range n))[j]? = some (r.getD j 0, j) := by
    rw [List.getElem?_eq_getElem (by simp; omega), List.getElem_zip]
    simp [List.getD_eq_getElem?_getD, show j < r.length by omega]
  rw [e]; rfl

theorem xEntry_true (c : Rat) : (xEntry c true).len = 2 ∧ (xEntry c true).ld = 1 := by
  have : trim [-c, 1] = [-c, 1] := by rw [trim_cons]; simp [trim]
  constructor
  · show (trim [-c, 1]).length = 2
    rw [this]; rfl
  · show lead (trim [-c, 1]) = 1
    rw [this]; rfl

theorem xEntry_false (c : Rat) : (xEntry c false).len ≤ 1 := by
  show (trim [-c]).length ≤ 1
  rw [trim_cons]; simp only [trim, if_true]; split <;> simp

theorem lessP_isX {n : Nat} {a : Al09.Table} (h : Sq n a) : IsX n (lessP a) := by
  refine ⟨?_, ?_, ?_, ?_⟩
  · unfold lessP; simp [h.rows]
  · intro r hr
    unfold lessP at hr
    rw [List.mem_map] at hr
    obtain ⟨x, hx, e⟩ := hr
    have hx1 : x.1 ∈ a := (List.of_mem_zip (a := x.1) (b := x.2) hx).1
    rw [← e]; simp [h.rows, h.wid x.1 hx1]
  · intro i hi
    rw [lessP_entry h hi hi]
    simp only [decide_true]
    exact xEntry_true _
  · intro i j hi hj hij
    rw [lessP_entry h hi hj, decide_eq_false (by omega)]
    exact xEntry_false _

theorem choose_map {A C : Type} (f : A → C) : ∀ (k : Nat) (l : List A), Al09.choose k (l.map f) = (Al09.choose k l).map (List.map f)
  | 0, l => by simp [Al09.choose]
  | k + 1, [] => by simp [Al09.choose]
  | k + 1, x :: l => by
    simp only [List.map_cons, Al09.choose, List.map_append, List.map_map]
    rw [choose_map f k l, choose_map f (k + 1) l, List.map_map]
    congr 1

/-- the determinants of k rows and columns -/
def minorsP (a : Al09.Table) (k : Nat) : List P :=
  (Al09.choose k (lessP a)).flatMap fun R => (Al09.choose k (List.range a.length)).map fun S => detP k (pick R S)

theorem pick_val (R : Mat) (S : List Nat) : (vals R).map (fun r => S.map fun j => r.getD j []) = vals (pick R S) := by
  unfold vals pick
  rw [List.map_map, List.map_map]
  refine List.map_congr_left fun r _ => ?_
  show S.map _ = (S.map _).map _
  rw [List.map_map]
  refine List.map_congr_left fun j _ => ?_
  show (r.map fun p => p.1).getD j [] = (r.getD j 0).1
  simp only [List.getD_eq_getElem?_getD, List.getElem?_map]
  cases r[j]? with
  | none => exact P.zero_val.symm
  | some x => rfl

theorem minors_val (a : Al09.Table) (k : Nat) :
    ((Al09.choose k (Al09.lessX a)).flatMap fun rows => (Al09.choose k (List.range a.length)).map fun cols => Al09.det k (rows.map fun r => cols.map fun j => r.getD j []))
      = (minorsP a k).map fun p => p.1 := by
  unfold minorsP
  rw [← lessP_vals]
  unfold vals
  rw [choose_map, List.map_flatMap, List.flatMap_map]
  congr 1
  funext R
  rw [List.map_map]
  refine List.map_congr_left fun S _ => ?_
  show Al09.det k _ = (detP k (pick R S)).1
  rw [← det_val]
  congr 1
  exact pick_val R S

/-- what they have in common -/
def dP (a : Al09.Table) (k : Nat) : P := comL (minorsP a k) 0

theorem dP_val (a : Al09.Table) (k : Nat) : Al09.divisor a k = (dP a k).1 := by
  unfold Al09.divisor dP
  rw [minors_val, ← P.zero_val, comL_val]

theorem mem_minors {a : Al09.Table} {k : Nat} {p : P} : p ∈ minorsP a k ↔ ∃ R S, List.Sublist R (lessP a) ∧ R.length = k ∧ List.Sublist S (List.range a.length) ∧ S.length = k ∧ p = detP k (pick R S) := by
  unfold minorsP
  simp only [List.mem_flatMap, List.mem_map, mem_choose]
  constructor
  · rintro ⟨R, ⟨h1, h2⟩, S, ⟨h3, h4⟩, e⟩
    exact ⟨R, S, h1, h2, h3, h4, e.symm⟩
  · rintro ⟨R, S, h1, h2, h3, h4, e⟩
    exact ⟨R, ⟨h1, h2⟩, S, ⟨h3, h4⟩, e.symm⟩

theorem dP_each {a : Al09.Table} {k : Nat} {p : P} (h : p ∈ minorsP a k) : P.Dvd (dP a k) p := (comL_spec (minorsP a k) 0).each p h

/-- **each goes into the next** -/
theorem dP_next (a : Al09.Table) (k : Nat) : P.Dvd (dP a k) (dP a (k + 1)) := by
  refine (comL_spec (minorsP a (k + 1)) 0).all _ (P.Dvd.zero _) ?_
  intro p hp
  obtain ⟨R, S, h1, h2, h3, h4, e⟩ := mem_minors.mp hp
  rw [e]
  refine dvd_next (L := lessP a) (C := List.range a.length) ?_ R S h1 h2 h3 h4
  intro R S h1 h2 h3 h4
  exact dP_each (mem_minors.mpr ⟨R, S, h1, h2, h3, h4, rfl⟩)

theorem sublist_full {A : Type} {l m : List A} (h : List.Sublist l m) (e : l.length = m.length) : l = m := h.eq_of_length e

theorem pick_self {n : Nat} {m : Mat} (h : IsX n m) : pick m (List.range n) = m := by
  unfold pick
  conv => rhs; rw [← List.map_id m]
  refine List.map_congr_left fun r hr => ?_
  have hl := h.wid r hr
  apply List.ext_getElem
  · simp [hl]
  · intro i h1 h2
    simp only [List.length_map, List.length_range] at h1
    simp [List.getD_eq_getElem?_getD, show i < r.length by omega]

def charP (a : Al09.Table) : P := detP a.length (lessP a)
theorem charP_val (a : Al09.Table) : Al09.char_ a = (charP a).1 := by
  unfold Al09.char_ charP
  rw [← det_val, lessP_vals]

theorem choose_len {A : Type} : ∀ (l : List A), Al09.choose l.length l = [l]
  | [] => rfl
  | x :: l => by
    have h : ∀ (l : List A) (k : Nat), l.length < k → Al09.choose k l = [] := by
      intro l k hk
      apply List.eq_nil_iff_forall_not_mem.mpr
      intro m hm
      rw [mem_choose] at hm
      have := hm.1.length_le
      omega
    simp only [List.length_cons, Al09.choose]
    rw [choose_len l, h l (l.length + 1) (by omega)]; rfl

theorem com_zero_left {p : P} (h : p.ld = 1) : com 0 p = p :=
  com_eq ⟨P.Dvd.zero p, P.Dvd.refl p, fun _ _ h2 => h2, Or.inr h⟩

theorem minors_last {n : Nat} {a : Al09.Table} (h : Sq n a) : minorsP a n = [charP a] := by
  unfold minorsP charP
  have hx := lessP_isX h
  have e1 : Al09.choose n (lessP a) = [lessP a] := by
    have := choose_len (lessP a); rwa [hx.rows] at this
  have e2 : Al09.choose n (List.range a.length) = [List.range n] := by
    have := choose_len (List.range n)
    rw [List.length_range] at this
    rw [h.rows]; exact this
  rw [e1, e2, h.rows]
  simp [pick_self hx]

theorem charP_top {n : Nat} {a : Al09.Table} (h : Sq n a) : (charP a).len = n + 1 ∧ (charP a).ld = 1 := by
  have := (lessP_isX h).det
  unfold charP
  rw [h.rows]; exact this

theorem dP_last {n : Nat} {a : Al09.Table} (h : Sq n a) : dP a n = charP a := by
  unfold dP
  rw [minors_last h]
  exact com_zero_left (charP_top h).2

theorem dP_zero (a : Al09.Table) : dP a 0 = 1 := by
  unfold dP minorsP
  have : ((Al09.choose 0 (lessP a)).flatMap fun R => (Al09.choose 0 (List.range a.length)).map fun S => detP 0 (pick R S)) = [(1 : P)] := by
    simp [Al09.choose, detP]
  rw [this]
  exact com_zero_left P.ld_one

theorem dP_le (a : Al09.Table) (k : Nat) : ∀ d, P.Dvd (dP a k) (dP a (k + d))
  | 0 => P.Dvd.refl _
  | d + 1 => (dP_le a k d).trans (dP_next a (k + d))

theorem dP_char {n : Nat} {a : Al09.Table} (h : Sq n a) {k : Nat} (hk : k ≤ n) : P.Dvd (dP a k) (charP a) := by
  have := dP_le a k (n - k)
  rw [show k + (n - k) = n by omega, dP_last h] at this
  exact this

theorem charP_ne {n : Nat} {a : Al09.Table} (h : Sq n a) : charP a ≠ 0 := by
  intro e; have := (charP_top h).1; rw [e, P.len_zero] at this; omega

theorem dP_ne {n : Nat} {a : Al09.Table} (h : Sq n a) {k : Nat} (hk : k ≤ n) : dP a k ≠ 0 := by
  intro e
  have := dP_char h hk
  rw [e] at this
  exact charP_ne h this.of_zero

theorem dP_ld {n : Nat} {a : Al09.Table} (h : Sq n a) {k : Nat} (hk : k ≤ n) : (dP a k).ld = 1 := by
  rcases (comL_spec (minorsP a k) 0).top with h1 | h1
  · rcases h1 with h1 | h1
    · exact absurd h1 (dP_ne h hk)
    · exact h1
  · exfalso
    apply dP_ne h hk
    unfold dP
    rw [h1]; rfl

/-- **the quotient**: each is the one before times the form -/
theorem fP_spec {n : Nat} {a : Al09.Table} (h : Sq n a) {k : Nat} (hk : k < n) :
    ∃ f : P, dP a (k + 1) = f * dP a k ∧ f.ld = 1 ∧ Al09.factor a (k + 1) = f.1 ∧ over (dP a (k + 1)).1 (dP a k).1 = f.1 ∧ P.Dvd f (charP a) := by
  obtain ⟨f, hf⟩ := dP_next a k
  have h0 := dP_ne h (show k ≤ n by omega)
  have h1 := dP_ne h (show k + 1 ≤ n by omega)
  have hf0 : f ≠ 0 := by intro e; apply h1; rw [hf, e]; grind
  have hf' : dP a (k + 1) = f * dP a k := by rw [hf]; grind
  have hl : f.ld = 1 := by
    have := P.ld_mul h0 hf0
    rw [← hf, dP_ld h (show k ≤ n by omega), dP_ld h (show k + 1 ≤ n by omega)] at this
    grind
  have ho : over (dP a (k + 1)).1 (dP a k).1 = f.1 := by
    rw [hf']; exact over_mul f _ h0
  refine ⟨f, hf', hl, ?_, ho, ?_⟩
  · unfold Al09.factor
    rw [dP_val, dP_val, show k + 1 - 1 = k by omega, ho]
    have := mon_of_ld hl
    exact congrArg Subtype.val this
  · exact P.Dvd.trans ⟨dP a k, hf'⟩ (dP_char h (show k + 1 ≤ n by omega))

def fP (a : Al09.Table) (k : Nat) : P := ⟨over (dP a (k + 1)).1 (dP a k).1, by
  unfold over
  by_cases h : dP a k = 0
  · have : ((dP a k).1) = [] := P.eq_zero_iff.mp h
    rw [this]
    unfold divMod
    cases hl : (dP a (k + 1)).1.length with
    | zero => exact tr_nil
    | succ m => unfold divFrom; rw [if_pos (Or.inr rfl)]; exact tr_nil
  · obtain ⟨s, r, e, _⟩ := divMod_spec (dP a (k + 1)) (dP a k) h
    rw [e]; exact s.2⟩

theorem fP_all {n : Nat} {a : Al09.Table} (h : Sq n a) {k : Nat} (hk : k < n) :
    dP a (k + 1) = fP a k * dP a k ∧ (fP a k).ld = 1 ∧ Al09.factor a (k + 1) = (fP a k).1 ∧ P.Dvd (fP a k) (charP a) := by
  obtain ⟨f, h1, h2, h3, h4, h5⟩ := fP_spec h hk
  have e : fP a k = f := Subtype.ext h4
  rw [e]; exact ⟨h1, h2, h3, h5⟩

/-- **the forms** -/
def formsP (a : Al09.Table) : List P := ((List.range a.length).map fun k => fP a k).filter fun p => decide (2 ≤ p.1.length)

theorem forms_val {n : Nat} {a : Al09.Table} (h : Sq n a) : Al09.forms a = (formsP a).map fun p => p.1 := by
  unfold Al09.forms formsP
  have e : ((List.range a.length).map fun k => Al09.factor a (k + 1)) = ((List.range a.length).map fun k => fP a k).map fun p => p.1 := by
    rw [List.map_map]
    refine List.map_congr_left fun k hk => ?_
    rw [List.mem_range, h.rows] at hk
    exact (fP_all h hk).2.2.1
  rw [e, List.filter_map]
  rfl

end Ma
/-! How large the numbers of the determinants are. -/
namespace Ma
open AlOne

/-- made whole by D, then no larger than 2^m -/
def HtD (p : P) (D m : Nat) : Prop := ∃ z, Zof (P.cst (D : Rat) * p) z ∧ ∀ i, B (coZ z i) m

theorem HtD.ht {p : P} {D m b : Nat} (h : HtD p D m) (hD : 0 < D) (hb : D ≤ 2 ^ b) (hm : m ≤ b) : Ht p b := by
  obtain ⟨z, h1, h2⟩ := h
  exact ⟨D, hD, hb, z, h1, fun i => (h2 i).mono hm⟩
theorem HtD.mono {p : P} {D m n : Nat} (h : HtD p D m) (hm : m ≤ n) : HtD p D n := by
  obtain ⟨z, h1, h2⟩ := h
  exact ⟨z, h1, fun i => (h2 i).mono hm⟩

/-- the number at a power is whole, and so large -/
theorem htD_iff {p : P} {D m : Nat} : HtD p D m ↔ ∀ i, ∃ y : Int, (D : Rat) * p.c i = (y : Rat) ∧ B y m := by
  constructor
  · rintro ⟨z, h1, h2⟩ i
    exact ⟨coZ z i, by rw [← h1 i, cst_c], h2 i⟩
  · intro h
    have e : ∀ i, P.c (P.cst (D : Rat) * p) i = (((P.c (P.cst (D : Rat) * p) i).num : Int) : Rat) := by
      intro i
      obtain ⟨y, hy, _⟩ := h i
      rw [cst_c, hy]; simp
    have hz : ∀ i, coZ (nums (P.cst (D : Rat) * p)) i = (P.c (P.cst (D : Rat) * p) i).num := by
      intro i
      unfold nums P.c co coZ
      simp only [List.getD_eq_getElem?_getD, List.getElem?_map]
      cases (P.cst (D : Rat) * p).1[i]? <;> simp
    refine ⟨nums (P.cst (D : Rat) * p), fun i => ?_, fun i => ?_⟩
    · rw [hz i]; exact e i
    · obtain ⟨y, hy, hb⟩ := h i
      rw [hz i, cst_c, hy]; simpa using hb

theorem HtD.zero (D m : Nat) : HtD 0 D m := htD_iff.mpr fun i => ⟨0, by
  have : (0 : P).c i = 0 := by unfold P.c; rw [P.zero_val, co_nil]
  rw [this]; simp, B.zero _⟩
theorem HtD.add {p q : P} {D m : Nat} (h : HtD p D m) (h2 : HtD q D m) : HtD (p + q) D (m + 1) := by
  rw [htD_iff] at *
  intro i
  obtain ⟨y, e, b⟩ := h i
  obtain ⟨y2, e2, b2⟩ := h2 i
  refine ⟨y + y2, ?_, b.add b2⟩
  rw [P.c_add, Rat.intCast_add, ← e, ← e2]; grind
theorem HtD.neg {p : P} {D m : Nat} (h : HtD p D m) : HtD (-p) D m := by
  rw [htD_iff] at *
  intro i
  obtain ⟨y, e, b⟩ := h i
  refine ⟨-y, ?_, b.neg⟩
  rw [P.c_neg, Rat.intCast_neg, ← e]; grind
theorem HtD.one : HtD 1 1 0 := by
  rw [htD_iff]
  intro i
  have : (1 : P).c i = delta i := by unfold P.c; rw [P.one_val, co_one]
  rw [this]
  have h1 : (((1 : Nat) : Rat)) = 1 := rfl
  cases i with
  | zero => exact ⟨1, by rw [h1]; simp [delta], by unfold B; simp⟩
  | succ i => exact ⟨0, by simp [delta], B.zero _⟩

theorem MZ_B {m n : Nat} {f : Nat → Int} (hf : ∀ i, B (f i) n) : ∀ (a : List Int), (∀ x ∈ a, B x m) → ∀ i, B (MZ a f i) (m + n + a.length)
  | [], _, _ => B.zero _
  | c :: a, h, i => by
    have ih := MZ_B hf a (fun x hx => h x (by simp [hx]))
    have h1 : B (c * f i) (m + n + a.length) := ((h c (by simp)).mul (hf i)).mono (by omega)
    have h2 : B (shZ (MZ a f) i) (m + n + a.length) := by
      cases i with
      | zero => exact B.zero _
      | succ i => exact ih i
    exact h1.add h2

theorem HtD.mul {p q : P} {D E m n L : Nat} (h : HtD p D m) (h2 : HtD q E n) (hL : p.len ≤ L) (hD : 0 < D) : HtD (p * q) (D * E) (m + n + L) := by
  obtain ⟨z, h1, hb⟩ := h
  obtain ⟨y, h3, hb2⟩ := h2
  have ns := nums_spec h1
  rw [htD_iff]
  intro i
  refine ⟨MZ (nums (P.cst (D : Rat) * p)) (coZ y) i, ?_, ?_⟩
  · have e : (P.cst (D : Rat) * p) * (P.cst (E : Rat) * q) = P.cst ((D * E : Nat) : Rat) * (p * q) := by
      have e1 : P.cst ((D * E : Nat) : Rat) = P.cst (D : Rat) * P.cst (E : Rat) := by rw [cst_mul, Rat.natCast_mul]
      rw [e1]; grind
    rw [← cst_c, ← e, P.c_mul]
    have e1 : (P.cst (E : Rat) * q).c = fun j => ((coZ y j : Int) : Rat) := by funext j; exact h3 j
    have e2 := M_toQ (nums (P.cst (D : Rat) * p)) (coZ y) i
    rw [ns.1] at e2
    rw [e1]; exact e2
  · have hlen : (nums (P.cst (D : Rat) * p)).length ≤ L := by
      unfold nums
      rw [List.length_map]
      show (P.cst (D : Rat) * p).len ≤ L
      by_cases h0 : p = 0
      · subst h0
        have : P.cst (D : Rat) * (0 : P) = 0 := by grind
        rw [this, P.len_zero]; omega
      · have := natCast_ne hD
        rw [P.len_mul (cst_ne this) h0, P.len_cst this]; omega
    exact (MZ_B hb2 _ (fun x hx => by
      obtain ⟨j, hj⟩ := coZ_mem hx
      rw [← hj, ns.2.2 j]; exact hb j) i).mono (by omega)

theorem htD_foldl {D t : Nat} : ∀ (l : List P) (s : P) (k : Nat), HtD s D (t + k) → (∀ p ∈ l, HtD p D t) → HtD (l.foldl (· + ·) s) D (t + k + l.length)
  | [], _, _, hs, _ => hs
  | p :: l, s, k, hs, h => by
    have := htD_foldl l (s + p) (k + 1) (hs.add ((h p (by simp)).mono (by omega))) (fun q hq => h q (by simp [hq]))
    exact this.mono (by simp only [List.length_cons]; omega)

theorem htD_term {d : P} {D m : Nat} (h : HtD d D m) (j : Nat) : HtD (term d j) D m := by
  unfold term; split
  · exact h
  · exact h.neg

/-- rows with what makes each whole -/
def RowsD (m0 : Nat) : Mat → List Nat → Prop
  | [], [] => True
  | r :: m, D :: Ds => (0 < D ∧ ∀ p ∈ r, p.len ≤ 2 ∧ HtD p D m0) ∧ RowsD m0 m Ds
  | _, _ => False

theorem rowsD_erase {m0 : Nat} (j : Nat) : ∀ (m : Mat) (Ds : List Nat), RowsD m0 m Ds → RowsD m0 (m.map fun r => r.eraseIdx j) Ds
  | [], [], _ => trivial
  | _ :: m, _ :: Ds, h => ⟨⟨h.1.1, fun p hp => h.1.2 p ((List.eraseIdx_sublist _ _).subset hp)⟩, rowsD_erase j m Ds h.2⟩
  | [], _ :: _, h => h.elim
  | _ :: _, [], h => h.elim

def prod : List Nat → Nat
  | [] => 1
  | d :: l => d * prod l

def bt (m0 : Nat) : Nat → Nat
  | 0 => 0
  | n + 1 => m0 + bt m0 n + 2 + (n + 1)

theorem htD_det {m0 : Nat} : ∀ (n : Nat) (m : Mat) (Ds : List Nat), m.length = n → RowsD m0 m Ds → HtD (detP n m) (prod Ds) (bt m0 n)
  | 0, [], [], _, _ => HtD.one
  | 0, [], _ :: _, _, h => h.elim
  | 0, _ :: _, _, h, _ => by simp at h
  | n + 1, [], _, h, _ => by simp at h
  | n + 1, _ :: _, [], _, h => h.elim
  | n + 1, r :: m, D :: Ds, h, hr => by
    unfold detP
    have := htD_foldl (D := prod (D :: Ds)) (t := m0 + bt m0 n + 2)
      (((r.zip (List.range (n + 1))).map fun x => term (x.1 * detP n (m.map fun r => r.eraseIdx x.2)) x.2)) 0 0 (HtD.zero _ _) (by
        intro p hp
        rw [List.mem_map] at hp
        obtain ⟨x, hx, e⟩ := hp
        rw [← e]
        have hx1 : x.1 ∈ r := (List.of_mem_zip (a := x.1) (b := x.2) hx).1
        have ih := htD_det n (m.map fun r => r.eraseIdx x.2) Ds (by simpa using h) (rowsD_erase x.2 m Ds hr.2)
        exact htD_term ((hr.1.2 x.1 hx1).2.mul ih (hr.1.2 x.1 hx1).1 hr.1.1) _)
    refine this.mono ?_
    simp only [List.length_map, List.length_zip, List.length_range, bt]
    omega

/-- a number as the document lets it be -/
def Small (c : Rat) : Prop := c.num.natAbs ≤ 2 ^ 20 ∧ c.den ≤ 2 ^ 20
def SmallT (a : Al09.Table) : Prop := ∀ r ∈ a, ∀ c ∈ r, Small c

theorem prod_pos : ∀ {l : List Nat}, (∀ d ∈ l, 0 < d) → 0 < prod l
  | [], _ => by simp [prod]
  | d :: l, h => Nat.mul_pos (h d (by simp)) (prod_pos fun e he => h e (by simp [he]))
theorem prod_le {k : Nat} : ∀ {l : List Nat}, (∀ d ∈ l, d ≤ 2 ^ k) → prod l ≤ 2 ^ (k * l.length)
  | [], _ => by simp [prod]
  | d :: l, h => by
    have := Nat.mul_le_mul (h d (by simp)) (prod_le (l := l) fun e he => h e (by simp [he]))
    rw [List.length_cons, Nat.mul_succ, Nat.add_comm, Nat.pow_add]
    exact this
theorem dvd_prod : ∀ {l : List Nat} {d : Nat}, d ∈ l → d ∣ prod l
  | e :: l, d, h => by
    rcases List.mem_cons.mp h with e1 | e1
    · subst e1; exact Nat.dvd_mul_right _ _
    · exact Nat.dvd_trans (dvd_prod e1) (Nat.dvd_mul_left _ _)

/-- one row of x less a table -/
theorem row_htD {r : List Rat} {n : Nat} (hr : r.length = n) (hn : n ≤ 4) (hs : ∀ c ∈ r, Small c) (c : Rat) (hc : c ∈ r) (d : Bool) :
    (xEntry c d).len ≤ 2 ∧ HtD (xEntry c d) (prod (r.map (·.den))) 100 := by
  have hD := prod_le (k := 20) (l := r.map (·.den)) (fun e he => by
    rw [List.mem_map] at he
    obtain ⟨x, hx, e1⟩ := he
    rw [← e1]; exact (hs x hx).2)
  have hD80 : prod (r.map (·.den)) ≤ 2 ^ 80 := by
    refine Nat.le_trans hD (Nat.pow_le_pow_right (by omega) ?_)
    rw [List.length_map]; omega
  have hdv : c.den ∣ prod (r.map (·.den)) := dvd_prod (List.mem_map.mpr ⟨c, hc, rfl⟩)
  generalize hDe : prod (r.map (·.den)) = D at *
  obtain ⟨q, hq⟩ := hdv
  have hq80 : q ≤ 2 ^ 80 := by
    have : q ≤ D := by rw [hq]; exact Nat.le_mul_of_pos_left _ (Nat.pos_of_ne_zero c.den_nz)
    omega
  have hneg : ∃ y : Int, (D : Rat) * (-c) = (y : Rat) ∧ B y 100 := by
    refine ⟨-(c.num * q), ?_, ?_⟩
    · have h1 := mul_den c
      rw [Rat.intCast_neg, Rat.intCast_mul, ← h1, hq, Rat.natCast_mul]
      have : ((q : Int) : Rat) = (q : Rat) := rfl
      rw [this]; grind
    · refine B.neg ?_
      have h1 : B c.num 20 := (hs c hc).1
      have h2 : B (q : Int) 80 := by unfold B; rw [Int.natAbs_natCast]; exact hq80
      exact h1.mul h2
  have hone : ∃ y : Int, (D : Rat) * 1 = (y : Rat) ∧ B y 100 := ⟨(D : Int), by
    have : ((D : Int) : Rat) = (D : Rat) := rfl
    rw [this]; grind, by
    unfold B; rw [Int.natAbs_natCast]
    exact Nat.le_trans hD80 (Nat.pow_le_pow_right (by omega) (by omega))⟩
  have hzero : ∃ y : Int, (D : Rat) * 0 = (y : Rat) ∧ B y 100 := ⟨0, by simp, B.zero _⟩
  cases d with
  | true =>
    refine ⟨by rw [(xEntry_true c).1]; omega, ?_⟩
    rw [htD_iff]
    intro i
    have : (xEntry c true).c i = co [-c, 1] i := co_trim _ _
    rw [this]
    match i with
    | 0 => exact hneg
    | 1 => exact hone
    | i + 2 => exact hzero
  | false =>
    refine ⟨by have := xEntry_false c; omega, ?_⟩
    rw [htD_iff]
    intro i
    have : (xEntry c false).c i = co [-c] i := co_trim _ _
    rw [this]
    match i with
    | 0 => exact hneg
    | i + 1 => exact hzero

theorem rows_exist {m0 k : Nat} : ∀ (R : Mat), (∀ r ∈ R, ∃ D, 0 < D ∧ D ≤ 2 ^ k ∧ ∀ p ∈ r, p.len ≤ 2 ∧ HtD p D m0) →
    ∃ Ds, RowsD m0 R Ds ∧ Ds.length = R.length ∧ (∀ d ∈ Ds, 0 < d) ∧ (∀ d ∈ Ds, d ≤ 2 ^ k)
  | [], _ => ⟨[], trivial, rfl, by simp, by simp⟩
  | r :: R, h => by
    obtain ⟨D, h1, h2, h3⟩ := h r (by simp)
    obtain ⟨Ds, h4, h5, h6, h7⟩ := rows_exist R (fun s hs => h s (by simp [hs]))
    refine ⟨D :: Ds, ⟨⟨h1, h3⟩, h4⟩, by simp [h5], ?_, ?_⟩
    · intro d hd
      rcases List.mem_cons.mp hd with e | e
      · subst e; exact h1
      · exact h6 d e
    · intro d hd
      rcases List.mem_cons.mp hd with e | e
      · subst e; exact h2
      · exact h7 d e

theorem lessP_good {n : Nat} {a : Al09.Table} (h : Sq n a) (hn : n ≤ 4) (hs : SmallT a) : ∀ r ∈ lessP a, ∃ D, 0 < D ∧ D ≤ 2 ^ 80 ∧ ∀ p ∈ r, p.len ≤ 2 ∧ HtD p D 100 := by
  intro r hr
  unfold lessP at hr
  rw [List.mem_map] at hr
  obtain ⟨x, hx, e⟩ := hr
  have hx1 : x.1 ∈ a := (List.of_mem_zip (a := x.1) (b := x.2) hx).1
  have hw := h.wid x.1 hx1
  refine ⟨prod (x.1.map (·.den)), ?_, ?_, ?_⟩
  · refine prod_pos fun d hd => ?_
    rw [List.mem_map] at hd
    obtain ⟨c, _, e2⟩ := hd
    rw [← e2]; exact Nat.pos_of_ne_zero c.den_nz
  · refine Nat.le_trans (prod_le (k := 20) (fun d hd => ?_)) (Nat.pow_le_pow_right (by omega) ?_)
    · rw [List.mem_map] at hd
      obtain ⟨c, hc, e2⟩ := hd
      rw [← e2]; exact (hs x.1 hx1 c hc).2
    · rw [List.length_map]; omega
  · intro p hp
    rw [← e, List.mem_map] at hp
    obtain ⟨y, hy, e2⟩ := hp
    have hy1 : y.1 ∈ x.1 := (List.of_mem_zip (a := y.1) (b := y.2) hy).1
    rw [← e2]
    exact row_htD hw hn (hs x.1 hx1) y.1 hy1 _

theorem pick_good {m0 k : Nat} {R : Mat} {S : List Nat} (h : ∀ r ∈ R, ∃ D, 0 < D ∧ D ≤ 2 ^ k ∧ ∀ p ∈ r, p.len ≤ 2 ∧ HtD p D m0) :
    ∀ r ∈ pick R S, ∃ D, 0 < D ∧ D ≤ 2 ^ k ∧ ∀ p ∈ r, p.len ≤ 2 ∧ HtD p D m0 := by
  intro r hr
  unfold pick at hr
  rw [List.mem_map] at hr
  obtain ⟨t, ht, e⟩ := hr
  obtain ⟨D, h1, h2, h3⟩ := h t ht
  refine ⟨D, h1, h2, fun p hp => ?_⟩
  rw [← e, List.mem_map] at hp
  obtain ⟨j, _, e2⟩ := hp
  rw [← e2, List.getD_eq_getElem?_getD]
  cases hj : t[j]? with
  | none => exact ⟨by show (0 : P).len ≤ 2; rw [P.len_zero]; omega, HtD.zero _ _⟩
  | some q => exact h3 q (List.mem_of_getElem? hj)

theorem bt_mono {m0 : Nat} : ∀ {k n : Nat}, k ≤ n → bt m0 k ≤ bt m0 n
  | k, 0, h => by
    have : k = 0 := by omega
    subst this; omega
  | k, n + 1, h => by
    rcases Nat.lt_or_ge k (n + 1) with h1 | h1
    · have := bt_mono (m0 := m0) (k := k) (n := n) (by omega)
      simp only [bt]; omega
    · have : k = n + 1 := by omega
      subst this; omega

theorem det_ht {R : Mat} {k : Nat} (hk : k ≤ 4) (hR : R.length = k) (h : ∀ r ∈ R, ∃ D, 0 < D ∧ D ≤ 2 ^ 80 ∧ ∀ p ∈ r, p.len ≤ 2 ∧ HtD p D 100) :
    Ht (detP k R) 418 ∧ (detP k R).len ≤ 5 := by
  obtain ⟨Ds, h1, h2, h3, h4⟩ := rows_exist R h
  have hd := htD_det k R Ds hR h1
  refine ⟨hd.ht (prod_pos h3) ?_ ?_, ?_⟩
  · refine Nat.le_trans (prod_le h4) (Nat.pow_le_pow_right (by omega) ?_)
    rw [h2, hR]
    have : 80 * k ≤ 80 * 4 := Nat.mul_le_mul_left _ hk
    omega
  · have := bt_mono (m0 := 100) hk
    have e : bt 100 4 = 418 := by decide
    omega
  · have hw : ∀ (R : Mat), (∀ r ∈ R, ∃ D, 0 < D ∧ D ≤ 2 ^ 80 ∧ ∀ p ∈ r, p.len ≤ 2 ∧ HtD p D 100) → Rws R (List.replicate R.length 1) := by
      intro R
      induction R with
      | nil => intro _; exact trivial
      | cons r R ih =>
        intro h
        obtain ⟨D, _, _, h5⟩ := h r (by simp)
        exact ⟨fun p hp => (h5 p hp).1, ih fun s hs => h s (by simp [hs])⟩
    have := len_det k R _ hR (hw R h)
    simp [hR] at this
    omega

/-- **the determinants' numbers** -/
theorem minor_ht {n : Nat} {a : Al09.Table} (h : Sq n a) (hn : n ≤ 4) (hs : SmallT a) {k : Nat} {p : P} (hp : p ∈ minorsP a k) : Ht p 418 ∧ p.len ≤ 5 := by
  obtain ⟨R, S, h1, h2, h3, h4, e⟩ := mem_minors.mp hp
  rw [e]
  have hk : k ≤ 4 := by
    have := h3.length_le
    rw [List.length_range, h.rows] at this
    omega
  refine det_ht hk (by unfold pick; simpa using h2) (pick_good ?_)
  intro r hr
  exact lessP_good h hn hs r (h1.subset hr)

theorem ht_zero (b : Nat) : Ht 0 b := by
  have := (HtD.zero 1 0).ht (b := b) (by omega) (Nat.one_le_two_pow) (by omega)
  exact this

theorem comL_zero : ∀ (l : List P) (s : P), s ≠ 0 → comL l s ≠ 0
  | [], s, h => h
  | p :: l, s, h => by
    refine comL_zero l (com s p) ?_
    intro e
    have := (com_spec s p).left
    rw [e] at this
    exact h this.of_zero

/-- **what some of them have in common** -/
theorem comL_ht {b : Nat} (hb : 3 ≤ b) : ∀ (l : List P), (∀ p ∈ l, Ht p b ∧ p.len ≤ 5) → Ht (comL l 0) (15 * b + 120) ∧ (comL l 0).len ≤ 5 := by
  intro l h
  have c := comL_spec l 0
  by_cases h0 : comL l 0 = 0
  · rw [h0]; exact ⟨ht_zero _, by rw [P.len_zero]; omega⟩
  · have hex : ∃ p ∈ l, p ≠ 0 := by
      apply Classical.byContradiction
      intro hn
      apply h0
      have : P.Dvd 0 (comL l 0) := c.all 0 (P.Dvd.zero 0) (fun p hp => by
        have : p = 0 := Classical.byContradiction fun hp0 => hn ⟨p, hp, hp0⟩
        rw [this]; exact P.Dvd.zero 0)
      exact this.of_zero
    obtain ⟨p, hp, hp0⟩ := hex
    have hl : (comL l 0).ld = 1 := by
      rcases c.top with h1 | h1
      · rcases h1 with h1 | h1
        · exact absurd h1 h0
        · exact h1
      · rw [h1] at hp; simp at hp
    have hpp := h p hp
    exact ⟨ht_dvd hb hp0 hpp.2 hpp.1 hl (c.each p hp), Nat.le_trans (P.Dvd.len (c.each p hp) hp0) hpp.2⟩

/-- **the forms' numbers** -/
theorem form_ht {n : Nat} {a : Al09.Table} (h : Sq n a) (hn : n ≤ 4) (hs : SmallT a) {k : Nat} (hk : k < n) : Ht (fP a k) 6390 ∧ (fP a k).len ≤ 5 := by
  have f := fP_all h hk
  have hc : charP a ∈ minorsP a n := by rw [minors_last h]; simp
  have hcc := minor_ht h hn hs hc
  have := ht_dvd (by omega) (charP_ne h) hcc.2 hcc.1 f.2.1 f.2.2.2
  exact ⟨this, Nat.le_trans (P.Dvd.len f.2.2.2 (charP_ne h)) hcc.2⟩

/-- a number's own size from what makes it whole -/
theorem num_den_le {c : Rat} {D b : Nat} {y : Int} (hD : 0 < D) (hDb : D ≤ 2 ^ b) (e : (D : Rat) * c = (y : Rat)) (hy : B y b) : c.num.natAbs ≤ 2 ^ b ∧ c.den ≤ 2 ^ b := by
  have h1 := mul_den c
  have h2 : (D : Int) * c.num = y * (c.den : Int) := by
    have : (((D : Int) * c.num : Int) : Rat) = ((y * (c.den : Int) : Int) : Rat) := by
      rw [Rat.intCast_mul, Rat.intCast_mul, ← h1, ← e]
      have e1 : ((D : Int) : Rat) = (D : Rat) := rfl
      have e2 : ((c.den : Int) : Rat) = (c.den : Rat) := rfl
      rw [e1, e2]; grind
    exact Rat.intCast_inj.mp this
  have h3 : D * c.num.natAbs = y.natAbs * c.den := by
    have := congrArg Int.natAbs h2
    rwa [Int.natAbs_mul, Int.natAbs_mul, Int.natAbs_natCast, Int.natAbs_natCast] at this
  have hcop : Nat.Coprime c.den c.num.natAbs := Nat.Coprime.symm c.reduced
  have hdv : c.den ∣ D := by
    refine hcop.dvd_of_dvd_mul_right (k := c.den) (m := D) (n := c.num.natAbs) ?_
    rw [h3]; exact Nat.dvd_mul_left _ _
  obtain ⟨q, hq⟩ := hdv
  have hdp : 0 < c.den := Nat.pos_of_ne_zero c.den_nz
  refine ⟨?_, Nat.le_trans (Nat.le_of_dvd hD ⟨q, hq⟩) hDb⟩
  have h4 : c.den * (q * c.num.natAbs) = c.den * y.natAbs := by
    rw [← Nat.mul_assoc, ← hq, h3, Nat.mul_comm]
  have h5 : q * c.num.natAbs = y.natAbs := Nat.eq_of_mul_eq_mul_left hdp h4
  have hq0 : 0 < q := by
    rcases Nat.eq_zero_or_pos q with h0 | h0
    · rw [h0, Nat.mul_zero] at hq; omega
    · exact h0
  have : c.num.natAbs ≤ y.natAbs := by rw [← h5]; exact Nat.le_mul_of_pos_left _ hq0
  exact Nat.le_trans this hy

theorem ht_num {p : P} {b : Nat} (h : Ht p b) (i : Nat) : (p.c i).num.natAbs ≤ 2 ^ b ∧ (p.c i).den ≤ 2 ^ b := by
  obtain ⟨D, h1, h2, z, h3, h4⟩ := h
  exact num_den_le h1 h2 (by rw [← cst_c, h3 i]) (h4 i)

end Ma
/-! A sharper bound: five small places in a row where the polynomial isn't 0. -/
namespace Ma
open AlOne

/-- x less a number -/
def lin (a : Rat) : P := ⟨[-a, 1], tr_of_lead fun _ => by show (1 : Rat) ≠ 0; decide⟩
theorem lin_len (a : Rat) : (lin a).len = 2 := rfl
theorem lin_ne (a : Rat) : lin a ≠ 0 := by intro e; have := lin_len a; rw [e, P.len_zero] at this; omega
theorem lin_val (x a : Rat) : value x (lin a).1 = x - a := by
  show -a + x * (1 + x * 0) = x - a
  grind
theorem val_add (x : Rat) (p q : P) : value x (p + q).1 = value x p.1 + value x q.1 := by
  show value x (add p.1 q.1) = _
  unfold add
  rw [val_trim, val_addRaw]

/-- a root goes out as a factor -/
theorem root_factor {p : P} {a : Rat} (h : value a p.1 = 0) : ∃ q, p = q * lin a := by
  obtain ⟨s, r, _, e, hr⟩ := divMod_spec p (lin a) (lin_ne a)
  rw [lin_len] at hr
  have h1 : value a p.1 = value a s.1 * value a (lin a).1 + value a r.1 := by
    rw [e, val_add]; congr 1; exact val_mul _ _ _
  rw [h, lin_val] at h1
  have hr0 : value a r.1 = 0 := by grind
  have : r = 0 := by
    rcases Nat.lt_or_ge r.len 1 with h2 | h2
    · exact P.eq_zero_iff.mpr (List.eq_nil_of_length_eq_zero (by show r.len = 0; omega))
    · have e1 := P.eq_cst (p := r) (by omega)
      obtain ⟨l, hl⟩ := r
      have hl1 : l.length = 1 := by
        have : l.length < 2 := hr
        have : 1 ≤ l.length := h2
        omega
      match l, hl1, hl with
      | [c], _, hl =>
        have : c + a * 0 = 0 := hr0
        have hc : c = 0 := by grind
        exact absurd hc (tr_one_ne hl)
  refine ⟨s, ?_⟩
  rw [e, this]; grind

/-- no more roots than its length less 1 -/
theorem few_roots : ∀ (l : List Rat) (p : P), l.Nodup → (∀ a ∈ l, value a p.1 = 0) → p ≠ 0 → l.length < p.len
  | [], p, _, _, hp => P.len_pos hp
  | a :: l, p, hn, h, hp => by
    obtain ⟨q, hq⟩ := root_factor (h a (by simp))
    have hq0 : q ≠ 0 := by intro e; apply hp; rw [hq, e]; grind
    have hl := P.len_mul hq0 (lin_ne a)
    rw [← hq, lin_len] at hl
    rw [List.nodup_cons] at hn
    have := few_roots l q hn.2 (fun b hb => by
      have h1 := h b (by simp [hb])
      rw [hq] at h1
      have h2 : value b (q * lin a).1 = value b q.1 * value b (lin a).1 := val_mul _ _ _
      rw [h2, lin_val] at h1
      rcases Rat.mul_eq_zero.mp h1 with h3 | h3
      · exact h3
      · exfalso
        apply hn.1
        have : b = a := by grind
        rw [← this]; exact hb) hq0
    rw [List.length_cons]; omega

/-- five in a row without a root -/
theorem block {p : P} (hp : p ≠ 0) (hl : p.len ≤ 5) : ∃ t : Nat, t ≤ 20 ∧ ∀ k : Nat, 1 ≤ k → k ≤ 5 → value (((t + k : Nat) : Int) : Rat) p.1 ≠ 0 := by
  apply Classical.byContradiction
  intro hn
  have hb : ∀ j : Nat, j ≤ 4 → ∃ k : Nat, 1 ≤ k ∧ k ≤ 5 ∧ value (((5 * j + k : Nat) : Int) : Rat) p.1 = 0 := by
    intro j hj
    apply Classical.byContradiction
    intro hk
    exact hn ⟨5 * j, by omega, fun k h1 h2 h3 => hk ⟨k, h1, h2, h3⟩⟩
  obtain ⟨k0, a0, b0, c0⟩ := hb 0 (by omega)
  obtain ⟨k1, a1, b1, c1⟩ := hb 1 (by omega)
  obtain ⟨k2, a2, b2, c2⟩ := hb 2 (by omega)
  obtain ⟨k3, a3, b3, c3⟩ := hb 3 (by omega)
  obtain ⟨k4, a4, b4, c4⟩ := hb 4 (by omega)
  have ne : ∀ {m n : Nat}, m ≠ n → (((m : Nat) : Int) : Rat) ≠ (((n : Nat) : Int) : Rat) := by
    intro m n h e
    have := Rat.intCast_inj.mp e
    omega
  have := few_roots [(((5 * 0 + k0 : Nat) : Int) : Rat), (((5 * 1 + k1 : Nat) : Int) : Rat), (((5 * 2 + k2 : Nat) : Int) : Rat), (((5 * 3 + k3 : Nat) : Int) : Rat), (((5 * 4 + k4 : Nat) : Int) : Rat)] p (by
    simp only [List.nodup_cons, List.mem_cons, List.not_mem_nil, or_false, not_or, List.nodup_nil, and_true]
    refine ⟨⟨ne (by omega), ne (by omega), ne (by omega), ne (by omega)⟩, ⟨ne (by omega), ne (by omega), ne (by omega)⟩, ⟨ne (by omega), ne (by omega)⟩, ne (by omega), by simp⟩) (by
    intro a ha
    simp only [List.mem_cons, List.not_mem_nil, or_false] at ha
    rcases ha with e | e | e | e | e <;> subst e <;> assumption) hp
  simp at this
  omega

theorem vz_B2 {b : Nat} {a : Int} (ha : B a 5) : ∀ (p : List Int) (n : Nat), (∀ x ∈ p, B x b) → p.length ≤ n + 1 → B (vz a p) (b + n * 6)
  | [], n, _, _ => B.zero _
  | [c], n, h, _ => by
    have := h c (by simp)
    show B (c + a * 0) _
    rw [Int.mul_zero, Int.add_zero]
    exact this.mono (by omega)
  | c :: d :: p, n, h, hl => by
    cases n with
    | zero => simp at hl
    | succ n =>
      have ih := vz_B2 ha (d :: p) n (fun x hx => h x (List.mem_cons_of_mem _ hx)) (by simp only [List.length_cons] at *; omega)
      have hc := h c (by simp)
      have h1 : B (a * vz a (d :: p)) (5 + (b + n * 6)) := ha.mul ih
      have h2 : B c (5 + (b + n * 6)) := hc.mono (by omega)
      exact (h2.add h1).mono (by omega)

/-- **the numbers of a divisor** -/
theorem ht_dvd2 {p g : P} {b : Nat} (hp : p ≠ 0) (hl : p.len ≤ 5) (hh : Ht p b) (hg : g.ld = 1) (hd : P.Dvd g p) : Ht g (b + 180) := by
  obtain ⟨h, hgh⟩ := hd
  obtain ⟨D, hD, hDb, zp, hzp, hzb⟩ := hh
  have hg0 : g ≠ 0 := by intro e; subst e; apply hp; grind
  have hh0 : h ≠ 0 := by intro e; subst e; apply hp; grind
  obtain ⟨e0, he0⟩ := exists_whole g
  obtain ⟨e, ⟨he, zg, hzg⟩, hmin⟩ := least_of (fun k => 0 < k ∧ ∃ z, Zof (P.cst (k : Rat) * g) z) e0 he0
  have heq := natCast_ne he
  have hDq := natCast_ne hD
  have htop : coZ zg (g.len - 1) = (e : Int) := by
    have := hzg (g.len - 1)
    rw [cst_c, ← ld_c, hg] at this
    have h2 : ((e : Int) : Rat) = ((coZ zg (g.len - 1) : Int) : Rat) := by
      rw [← this]
      show (e : Rat) = _
      grind
    exact (Rat.intCast_inj.mp h2).symm
  have prim : ∀ l, Pri l → ¬ ∀ i, (l : Int) ∣ coZ zg i := by
    intro l hl' hall
    have h1 := hall (g.len - 1)
    rw [htop] at h1
    exact primitive he hzg hmin hl' (Int.ofNat_dvd.mp h1) hall
  have hprod : (P.cst (e : Rat) * g) * (P.cst ((D : Rat) / (e : Rat)) * h) = P.cst (D : Rat) * p := by
    rw [hgh]
    have e1 : P.cst (e : Rat) * P.cst ((D : Rat) / (e : Rat)) = P.cst (D : Rat) := by
      rw [cst_mul]; congr 1; grind
    grind
  obtain ⟨zh, hzh⟩ := gauss_div hzg hzp hprod prim
  generalize hG : P.cst (e : Rat) * g = G at hzg hprod
  generalize hH : P.cst ((D : Rat) / (e : Rat)) * h = H at hzh hprod
  generalize hp' : P.cst (D : Rat) * p = p' at hzp hprod
  have hG0 : G ≠ 0 := by rw [← hG]; exact P.mul_ne_zero (cst_ne heq) hg0
  have hH0 : H ≠ 0 := by
    rw [← hH]
    refine P.mul_ne_zero (cst_ne ?_) hh0
    intro h0
    have : (D : Rat) / (e : Rat) * (e : Rat) = D := by grind
    rw [h0] at this; grind
  have hp0 : p' ≠ 0 := by rw [← hp']; exact P.mul_ne_zero (cst_ne hDq) hp
  have lenG : G.len = g.len := by
    rw [← hG, P.len_mul (cst_ne heq) hg0, P.len_cst heq]; omega
  have lenp : p'.len = p.len := by
    rw [← hp', P.len_mul (cst_ne hDq) hp, P.len_cst hDq]; omega
  have nG := nums_spec hzg
  have nH := nums_spec hzh
  have np := nums_spec hzp
  have lG : (nums G).length ≤ 5 := by
    have h1 : G.len ≤ p'.len := P.Dvd.len ⟨H, hprod.symm⟩ hp0
    have h2 : (nums G).length = G.len := by unfold nums; rw [List.length_map]; rfl
    omega
  have heb : e ≤ 2 ^ b := by
    have h1 := P.ld_mul hG0 hH0
    rw [hprod, ld_c p', ld_c G, ld_c H, hzp _, hzg _, hzh _, lenG, htop, ← Rat.intCast_mul] at h1
    have h2 := Rat.intCast_inj.mp h1
    have h3 := hzb (p'.len - 1)
    have h4 : coZ zp (p'.len - 1) ≠ 0 := by
      intro h0
      have := P.ld_ne hp0
      rw [ld_c, hzp _, h0] at this
      exact this rfl
    rw [h2] at h3 h4
    have h5 : coZ zh (H.len - 1) ≠ 0 := by intro h0; rw [h0] at h4; simp at h4
    have h6 : B (e : Int) b := by
      rw [Int.mul_comm] at h3
      exact B.of_mul h5 h3
    unfold B at h6
    rwa [Int.natAbs_natCast] at h6
  refine ⟨e, he, Nat.le_trans heb (Nat.pow_le_pow_right (by omega) (by omega)), nums G, by rw [hG]; exact nG.2.1, ?_⟩
  obtain ⟨t, ht, hblk⟩ := block hp0 (by omega)
  have hval : ∀ k : Nat, 1 ≤ k → k ≤ 5 → B (vz ((t : Int) + (k : Int)) (nums G)) (b + 24) := by
    intro k h1 h2
    have hne0 := hblk k h1 h2
    have ha : ((t + k : Nat) : Int) = (t : Int) + (k : Int) := by omega
    rw [ha] at hne0
    generalize hae : (t : Int) + (k : Int) = a at hne0
    have hmul : vz a (nums G) * vz a (nums H) = vz a (nums p') := by
      have h3 : value (a : Rat) p'.1 = value (a : Rat) G.1 * value (a : Rat) H.1 := by
        rw [← hprod]; exact val_mul _ _ _
      rw [val_nums hzg, val_nums hzh, val_nums hzp, ← Rat.intCast_mul] at h3
      exact (Rat.intCast_inj.mp h3).symm
    have hmem : ∀ x ∈ nums p', B x b := by
      intro x hx
      obtain ⟨i, hi⟩ := coZ_mem hx
      rw [← hi, np.2.2 i]; exact hzb i
    have hne : vz a (nums p') ≠ 0 := by
      intro h0
      apply hne0
      rw [val_nums hzp, h0]; rfl
    have haB : B a 5 := by
      unfold B
      have : a.natAbs ≤ 25 := by omega
      have : (2 : Nat) ^ 5 = 32 := by decide
      omega
    have hB := vz_B2 haB (nums p') 4 hmem (by
      have h5 : (nums p').length = p'.len := by unfold nums; rw [List.length_map]; rfl
      omega)
    rw [← hmul, Int.mul_comm] at hB
    refine B.of_mul ?_ hB
    intro h0
    rw [h0, Int.mul_zero] at hmul
    exact hne hmul.symm
  obtain ⟨c0, c1, c2, c3, c4, hc, hv⟩ : ∃ c0 c1 c2 c3 c4 : Int, (∀ i, coZ (nums G) i = coZ [c0, c1, c2, c3, c4] i) ∧ (∀ a, vz a (nums G) = vz a [c0, c1, c2, c3, c4]) := by
    generalize nums G = w at lG
    match w, lG with
    | [], _ => exact ⟨0, 0, 0, 0, 0, fun i => by
        match i with
        | 0 | 1 | 2 | 3 | 4 => rfl
        | _ + 5 => rfl, fun a => by simp [vz]⟩
    | [x0], _ => exact ⟨x0, 0, 0, 0, 0, fun i => by
        match i with
        | 0 | 1 | 2 | 3 | 4 => rfl
        | _ + 5 => rfl, fun a => by simp [vz]⟩
    | [x0, x1], _ => exact ⟨x0, x1, 0, 0, 0, fun i => by
        match i with
        | 0 | 1 | 2 | 3 | 4 => rfl
        | _ + 5 => rfl, fun a => by simp [vz]⟩
    | [x0, x1, x2], _ => exact ⟨x0, x1, x2, 0, 0, fun i => by
        match i with
        | 0 | 1 | 2 | 3 | 4 => rfl
        | _ + 5 => rfl, fun a => by simp [vz]⟩
    | [x0, x1, x2, x3], _ => exact ⟨x0, x1, x2, x3, 0, fun i => by
        match i with
        | 0 | 1 | 2 | 3 | 4 => rfl
        | _ + 5 => rfl, fun a => by simp [vz]⟩
    | [x0, x1, x2, x3, x4], _ => exact ⟨x0, x1, x2, x3, x4, fun i => rfl, fun a => rfl⟩
  have htb : B (t : Int) 5 := by
    unfold B
    rw [Int.natAbs_natCast]
    have : (2 : Nat) ^ 5 = 32 := by decide
    omega
  have f := five c0 c1 c2 c3 c4 _ (b + 24) 5 (by omega) htb (fun k h1 h2 => by rw [← hv]; exact hval k h1 h2)
  obtain ⟨f0, f1, f2, f3, f4⟩ := f
  intro i
  rw [hc i]
  match i with
  | 0 => exact f0.mono (by omega)
  | 1 => exact f1.mono (by omega)
  | 2 => exact f2.mono (by omega)
  | 3 => exact f3.mono (by omega)
  | 4 => exact f4.mono (by omega)
  | _ + 5 => exact B.zero _

end Ma
/-! Numbers' texts: the one text of each number, and who reads it. -/
namespace Ma
open AlBase (digits digitsFrom readDigits split)

/-- the digits, the last one behind -/
def dg (n : Nat) : List Nat := if h : n < 10 then [48 + n] else dg (n / 10) ++ [48 + n % 10]
termination_by n
decreasing_by omega

theorem digitsFrom_eq : ∀ (f n : Nat) (l : List Nat), n < f → digitsFrom f n l = dg n ++ l
  | 0, n, l, h => by omega
  | f + 1, n, l, h => by
    unfold digitsFrom
    rw [dg]
    split
    · rfl
    · rw [digitsFrom_eq f (n / 10) _ (by omega), List.append_assoc]; rfl

theorem digits_eq (n : Nat) : digits n = dg n := by
  unfold digits; rw [digitsFrom_eq _ _ _ (by omega), List.append_nil]

theorem dg_mem : ∀ (n : Nat), ∀ b ∈ dg n, 48 ≤ b ∧ b ≤ 57 := by
  intro n
  induction n using Nat.strongRecOn with
  | _ n ih =>
    intro b hb
    rw [dg] at hb
    split at hb
    · simp at hb; omega
    · rw [List.mem_append] at hb
      rcases hb with h | h
      · exact ih (n / 10) (by omega) b h
      · simp at h; omega

theorem dg_ne (n : Nat) : dg n ≠ [] := by
  rw [dg]; split <;> simp

/-- the value of digits -/
def dval (n : Nat) (w : List Nat) : Nat := w.foldl (fun (n b : Nat) => 10 * n + (b - 48)) n

theorem dval_dg : ∀ (n : Nat), dval 0 (dg n) = n := by
  intro n
  induction n using Nat.strongRecOn with
  | _ n ih =>
    rw [dg]
    split
    · simp [dval]
    · have := ih (n / 10) (by omega)
      unfold dval at *
      rw [List.foldl_append, this]
      simp only [List.foldl_cons, List.foldl_nil]
      omega

theorem dg_head : ∀ (n : Nat), 0 < n → (dg n).headD 0 ≠ 48 := by
  intro n
  induction n using Nat.strongRecOn with
  | _ n ih =>
    intro h
    rw [dg]
    split
    · simp; omega
    · have := ih (n / 10) (by omega) (by omega)
      cases hd : dg (n / 10) with
      | nil => exact absurd hd (dg_ne _)
      | cons a l => rw [hd] at this; simpa using this

theorem dg_zero : dg 0 = [48] := by rw [dg]; simp

/-- digits without a zero before -/
structure Dig (w : List Nat) : Prop where
  ne : w ≠ []
  mem : ∀ b ∈ w, 48 ≤ b ∧ b ≤ 57
  lead : w.headD 0 = 48 → w.length = 1

theorem dig_dg (n : Nat) : Dig (dg n) := by
  refine ⟨dg_ne n, dg_mem n, fun h => ?_⟩
  rcases Nat.eq_zero_or_pos n with h0 | h0
  · subst h0; rw [dg_zero]; rfl
  · exact absurd h (dg_head n h0)

theorem dval_append (n : Nat) (v : List Nat) (b : Nat) : dval n (v ++ [b]) = 10 * dval n v + (b - 48) := by
  unfold dval; rw [List.foldl_append]; rfl

theorem snoc_cases {A : Type} (l : List A) : l = [] ∨ ∃ v b, l = v ++ [b] := by
  rcases List.eq_nil_or_concat l with h | ⟨v, b, h⟩
  · exact Or.inl h
  · exact Or.inr ⟨v, b, by simpa using h⟩

theorem dg_dval : ∀ (k : Nat) (w : List Nat), w.length = k → Dig w → dg (dval 0 w) = w
  | 0, w, hk, h => absurd (List.eq_nil_of_length_eq_zero hk) h.ne
  | k + 1, w, hk, h => by
    rcases snoc_cases w with e | ⟨v, b, e⟩
    · exact absurd e h.ne
    · subst e
      have hb := h.mem b (by simp)
      rcases snoc_cases v with ev | ⟨v', b', ev⟩
      · subst ev
        rw [dg]
        have e1 : dval 0 ([] ++ [b]) = b - 48 := by simp [dval]
        rw [e1]
        rw [dif_pos (by omega)]
        simp; omega
      · have hvne : v ≠ [] := by rw [ev]; simp
        have hv : Dig v := by
          refine ⟨hvne, fun x hx => h.mem x (by simp [hx]), fun hx => ?_⟩
          have : (v ++ [b]).headD 0 = 48 := by
            cases v with
            | nil => exact absurd rfl hvne
            | cons a l => simpa using hx
          have := h.lead this
          simp at this
          exact absurd this hvne
        have ih := dg_dval k v (by simpa using hk) hv
        rw [dval_append]
        have hpos : 0 < dval 0 v := by
          rcases Nat.eq_zero_or_pos (dval 0 v) with h0 | h0
          · rw [h0, dg_zero] at ih
            have h1 : (v ++ [b]).headD 0 = 48 := by rw [← ih]; rfl
            have := h.lead h1
            rw [← ih] at this
            simp at this
          · exact h0
        rw [dg, dif_neg (by omega)]
        have e1 : (10 * dval 0 v + (b - 48)) / 10 = dval 0 v := by omega
        have e2 : 48 + (10 * dval 0 v + (b - 48)) % 10 = b := by omega
        rw [e1, e2, ih]

theorem readDigits_dg (n : Nat) : readDigits (dg n) = some n := by
  unfold readDigits
  rw [if_neg (dg_ne n), if_neg]
  · have := dval_dg n
    unfold dval at this
    rw [this]
  · rw [Bool.not_eq_false, List.all_eq_true]
    intro b hb
    have := dg_mem n b hb
    simp [this.1, this.2]

theorem dg_inj {m n : Nat} (h : dg m = dg n) : m = n := by
  rw [← dval_dg m, h, dval_dg]

/-! splits -/
theorem split_none {sep : Nat} : ∀ {w : List Nat}, sep ∉ w → split sep w = [w]
  | [], _ => rfl
  | b :: l, h => by
    have h1 : b ≠ sep := fun e => h (by simp [e])
    have h2 : sep ∉ l := fun e => h (by simp [e])
    unfold split
    rw [if_neg h1, split_none h2]

theorem split_one {sep : Nat} {v : List Nat} : ∀ {w : List Nat}, sep ∉ w → split sep (w ++ sep :: v) = w :: split sep v
  | [], _ => by
    show split sep (sep :: v) = _
    rw [split]; simp
  | b :: l, h => by
    have h1 : b ≠ sep := fun e => h (by simp [e])
    have h2 : sep ∉ l := fun e => h (by simp [e])
    show split sep (b :: (l ++ sep :: v)) = _
    rw [split, if_neg h1, split_one h2]

theorem dg_notin {n b : Nat} (hb : b < 48 ∨ 57 < b) : b ∉ dg n := fun h => by
  have := dg_mem n b h; omega

/-! the text of a number -/
def numT (c : Rat) : List Nat := dg c.num.natAbs ++ (if c.den = 1 then [] else 47 :: dg c.den)
def sgnT (c : Rat) : List Nat := (if c.num < 0 then [45] else []) ++ numT c

theorem numberText_eq {c : Rat} (h : 0 ≤ c.num) : AlBase.numberText c = numT c := by
  unfold AlBase.numberText numT
  rw [digits_eq, digits_eq]
  have : c.num.toNat = c.num.natAbs := by omega
  rw [this]

theorem numText_eq (c : Rat) : AlOne.numText c = sgnT c := by
  unfold AlOne.numText AlBase.const AlBase.plus
  by_cases h0 : c = 0
  · subst h0
    simp only [if_true]
    show [48] = sgnT 0
    unfold sgnT numT
    simp [dg_zero]
  · rw [if_neg h0]
    show (if c < 0 then 45 :: AlBase.termText [] (-c) else AlBase.termText [] c) ++ [] = _
    rw [List.append_nil]
    have hlt : c < 0 ↔ c.num < 0 := by
      rw [Rat.lt_iff]; simp
    unfold sgnT
    by_cases h : c < 0
    · rw [if_pos h, if_pos (hlt.mp h)]
      show 45 :: AlBase.numberText (-c) = _
      have hn := hlt.mp h
      rw [numberText_eq (by rw [Rat.neg_num]; omega)]
      unfold numT
      rw [Rat.neg_num, Rat.neg_den, Int.natAbs_neg]; rfl
    · rw [if_neg h, if_neg (fun h' => h (hlt.mpr h'))]
      show AlBase.numberText c = _
      have hn : 0 ≤ c.num := by
        have : ¬ c.num < 0 := fun h' => h (hlt.mpr h')
        omega
      rw [numberText_eq hn]; rfl

theorem numT_notin {c : Rat} {b : Nat} (hb : b < 47 ∨ 57 < b) : b ∉ numT c := by
  unfold numT
  rw [List.mem_append]
  rintro (h | h)
  · exact dg_notin (by omega) h
  · split at h
    · simp at h
    · rcases List.mem_cons.mp h with e | e
      · omega
      · exact dg_notin (by omega) e

theorem sgnT_notin {c : Rat} {b : Nat} (hb : b < 45 ∨ 57 < b) : b ∉ sgnT c := by
  unfold sgnT
  rw [List.mem_append]
  rintro (h | h)
  · split at h
    · simp at h; omega
    · simp at h
  · exact numT_notin (by omega) h

theorem numT_head (c : Rat) : ∃ b l, numT c = b :: l ∧ 48 ≤ b ∧ b ≤ 57 := by
  unfold numT
  cases h : dg c.num.natAbs with
  | nil => exact absurd h (dg_ne _)
  | cons b l =>
    have := dg_mem c.num.natAbs b (by rw [h]; simp)
    exact ⟨b, _, rfl, this.1, this.2⟩

theorem mkRat_abs {c : Rat} (h : 0 ≤ c.num) : ((c.num.natAbs : Nat) : Rat) / ((c.den : Nat) : Rat) = c := by
  have e1 : ((c.num.natAbs : Nat) : Rat) = ((c.num : Int) : Rat) := by
    have : ((c.num.natAbs : Nat) : Int) = c.num := by omega
    rw [← this]; rfl
  rw [e1, Rat.div_def]
  have := Rat.num_divInt_den c
  rw [Rat.divInt_eq_div, Rat.div_def] at this
  exact this

theorem readNumber_numT {c : Rat} (h : 0 ≤ c.num) : AlBase.readNumber (numT c) = some c := by
  unfold AlBase.readNumber numT
  by_cases hd : c.den = 1
  · rw [if_pos hd, List.append_nil, split_none (dg_notin (by omega))]
    show (readDigits _).map _ = _
    rw [readDigits_dg]
    show some ((c.num.natAbs : Nat) : Rat) = _
    congr 1
    have := mkRat_abs h
    rw [hd] at this
    have e : (((1 : Nat) : Rat)) = 1 := rfl
    rw [e] at this
    grind
  · rw [if_neg hd, split_one (dg_notin (by omega)), split_none (dg_notin (by omega))]
    show (readDigits _).bind _ = _
    rw [readDigits_dg]
    show (readDigits _).bind _ = _
    rw [readDigits_dg]
    show (if c.den = 0 then none else some _) = _
    rw [if_neg c.den_nz, mkRat_abs h]

end Ma
/-! Who reads a number: just its one text. -/
namespace Ma
open AlBase (Mono Poly)

def GoodM (m : Mono) : Prop := ∀ y ∈ m, 0 < y.2
/-- the number alone stands last -/
def LN : Poly → Prop
  | [] => True
  | (m, _) :: p => (m = [] → p = []) ∧ LN p
def GoodT (p : Poly) : Prop := ∀ x ∈ p, GoodM x.1
structure GoodP (p : Poly) : Prop where
  t : GoodT p
  l : LN p

theorem degree_nil : AlBase.degree [] = 0 := rfl
theorem degree_pos {m : Mono} (h : GoodM m) (hn : m ≠ []) : 0 < AlBase.degree m := by
  cases m with
  | nil => exact absurd rfl hn
  | cons y m =>
    have := h y (by simp)
    simp only [AlBase.degree, List.map_cons, List.sum_cons]; omega

theorem above_nil_right {m : Mono} (h : GoodM m) (hn : m ≠ []) : AlBase.above m [] = true := by
  have := degree_pos h hn
  unfold AlBase.above
  rw [degree_nil, if_neg (by omega)]; simp [this]
theorem above_nil_left (n : Mono) : AlBase.above [] n = false := by
  unfold AlBase.above
  rw [degree_nil]
  split
  · rfl
  · simp

theorem plus_nil (m : Mono) (c : Rat) : AlBase.plus m c [] = if c = 0 then [] else [(m, c)] := by unfold AlBase.plus; rfl
theorem plus_cons (m : Mono) (c : Rat) (n : Mono) (d : Rat) (p : Poly) : AlBase.plus m c ((n, d) :: p) =
    if c = 0 then (n, d) :: p else if m = n then (if c + d = 0 then p else (n, c + d) :: p) else if AlBase.above m n = true then (m, c) :: (n, d) :: p else (n, d) :: AlBase.plus m c p := by
  rw [AlBase.plus]

theorem plus_good {m : Mono} (hm : GoodM m) (c : Rat) : ∀ {p : Poly}, GoodP p → GoodP (AlBase.plus m c p)
  | [], _ => by
    rw [plus_nil]
    split
    · exact ⟨by intro x hx; simp at hx, trivial⟩
    · exact ⟨by intro x hx; simp at hx; subst hx; exact hm, ⟨fun _ => rfl, trivial⟩⟩
  | (n, d) :: p, h => by
    have hp : GoodP p := ⟨fun x hx => h.t x (by simp [hx]), h.l.2⟩
    have hn : GoodM n := h.t (n, d) (by simp)
    rw [plus_cons]
    split
    · exact h
    · split
      · rename_i e
        split
        · exact hp
        · refine ⟨fun x hx => ?_, ⟨h.l.1, h.l.2⟩⟩
          rcases List.mem_cons.mp hx with e2 | e2
          · subst e2; exact hn
          · exact hp.t x e2
      · rename_i hne
        split
        · rename_i ha
          refine ⟨fun x hx => ?_, ⟨fun e => ?_, h.l⟩⟩
          · rcases List.mem_cons.mp hx with e2 | e2
            · subst e2; exact hm
            · exact h.t x e2
          · rw [e, above_nil_left] at ha; simp at ha
        · rename_i ha
          have ih := plus_good hm c hp
          refine ⟨fun x hx => ?_, ⟨fun e => ?_, ih.l⟩⟩
          · rcases List.mem_cons.mp hx with e2 | e2
            · subst e2; exact hn
            · exact ih.t x e2
          · exfalso
            apply ha
            rw [e]
            exact above_nil_right hm (fun e2 => hne (by rw [e2, e]))

theorem add_good {q : Poly} (hq : GoodT q) : ∀ {p : Poly}, GoodP p → GoodP (AlBase.add p q) := by
  unfold AlBase.add
  induction q with
  | nil => intro p hp; exact hp
  | cons x q ih =>
    intro p hp
    rw [List.foldl_cons]
    exact ih (fun y hy => hq y (by simp [hy])) (plus_good (hq x (by simp)) _ hp)

theorem scale_good {c : Rat} {p : Poly} (h : GoodP p) : GoodP (AlBase.scale c p) := by
  unfold AlBase.scale
  split
  · exact ⟨by intro x hx; simp at hx, trivial⟩
  · refine ⟨fun x hx => ?_, ?_⟩
    · rw [List.mem_map] at hx
      obtain ⟨y, hy, e⟩ := hx
      rw [← e]; exact h.t y hy
    · have := h.l
      clear h
      induction p with
      | nil => exact trivial
      | cons x p ih =>
        exact ⟨fun e => by rw [this.1 e]; rfl, ih this.2⟩

theorem put_good {a i : Nat} (hi : 0 < i) : ∀ {m : Mono}, GoodM m → GoodM (AlBase.put a i m)
  | [], _ => by intro y hy; simp [AlBase.put] at hy; subst hy; exact hi
  | (b, j) :: m, h => by
    have hm : GoodM m := fun y hy => h y (by simp [hy])
    have hj : 0 < j := h (b, j) (by simp)
    unfold AlBase.put
    split
    · intro y hy
      rcases List.mem_cons.mp hy with e | e
      · subst e; exact hi
      · exact h y e
    · split
      · intro y hy
        rcases List.mem_cons.mp hy with e | e
        · subst e; show 0 < i + j; omega
        · exact hm y e
      · intro y hy
        rcases List.mem_cons.mp hy with e | e
        · subst e; exact hj
        · exact put_good hi hm y e

theorem times_good {n : Mono} (hn : GoodM n) : ∀ {m : Mono}, GoodM m → GoodM (AlBase.times m n) := by
  unfold AlBase.times
  induction n with
  | nil => intro m hm; exact hm
  | cons x n ih =>
    intro m hm
    rw [List.foldl_cons]
    exact ih (fun y hy => hn y (by simp [hy])) (put_good (hn x (by simp)) hm)

theorem termTimes_good {x : Mono × Rat} {p : Poly} (hx : GoodM x.1) (h : GoodP p) : GoodT (AlBase.termTimes x p) := by
  unfold AlBase.termTimes
  intro y hy
  rw [List.mem_map] at hy
  obtain ⟨z, hz, e⟩ := hy
  rw [← e]
  exact times_good ((scale_good h).t z hz) hx

theorem mul_good {p q : Poly} (hp : GoodT p) (hq : GoodP q) : GoodP (AlBase.mul p q) := by
  unfold AlBase.mul
  have : ∀ (s : Poly), GoodP s → GoodP (p.foldl (fun (s : Poly) (x : Mono × Rat) => AlBase.add s (AlBase.termTimes x q)) s) := by
    induction p with
    | nil => intro s hs; exact hs
    | cons x p ih =>
      intro s hs
      rw [List.foldl_cons]
      exact ih (fun y hy => hp y (by simp [hy])) _ (add_good (termTimes_good (hp x (by simp)) hq) hs)
  exact this [] ⟨by intro x hx; simp at hx, trivial⟩

theorem const_good (c : Rat) : GoodP (AlBase.const c) := plus_good (by intro y hy; simp at hy) c ⟨by intro x hx; simp at hx, trivial⟩
theorem one_good : GoodP AlBase.one := ⟨by intro x hx; simp [AlBase.one] at hx; subst hx; intro y hy; simp at hy, ⟨fun _ => rfl, trivial⟩⟩
theorem mono_good {a n : Nat} (h : 0 < n) : GoodP [([(a, n)], 1)] :=
  ⟨by intro x hx; simp at hx; subst hx; intro y hy; simp at hy; subst hy; exact h, ⟨fun e => by simp at e, trivial⟩⟩

theorem readFactor_good {w : List Nat} {p : Poly} (h : AlBase.readFactor w = some p) : GoodP p := by
  unfold AlBase.readFactor at h
  split at h
  · split at h
    · simp at h; subst h; exact mono_good (by omega)
    · rw [Option.map_eq_some_iff] at h
      obtain ⟨c, _, e⟩ := h
      subst e; exact const_good c
  · rw [Option.bind_eq_some_iff] at h
    obtain ⟨a, _, h⟩ := h
    rw [Option.map_eq_some_iff] at h
    obtain ⟨n, _, e⟩ := h
    subst e
    split
    · exact one_good
    · exact mono_good (by omega)
  · simp at h

theorem mapM_all {A C : Type} {f : A → Option C} {G : C → Prop} (hf : ∀ a c, f a = some c → G c) : ∀ (l : List A) (r : List C), l.mapM f = some r → ∀ c ∈ r, G c
  | [], r, h => by simp at h; subst h; simp
  | a :: l, r, h => by
    rw [List.mapM_cons] at h
    simp only [Option.bind_eq_bind, Option.pure_def, Option.bind_eq_some_iff] at h
    obtain ⟨c, hc, r', hr, e⟩ := h
    simp at e; subst e
    intro d hd
    rcases List.mem_cons.mp hd with e | e
    · subst e; exact hf a d hc
    · exact mapM_all hf l r' hr d e

theorem readTerm_good {w : List Nat} {p : Poly} (h : AlBase.readTerm w = some p) : GoodP p := by
  unfold AlBase.readTerm at h
  rw [Option.map_eq_some_iff] at h
  obtain ⟨l, hl, e⟩ := h
  have hg := mapM_all (G := GoodP) (fun a c hc => readFactor_good hc) _ _ hl
  subst e
  clear hl
  have : ∀ s : Poly, GoodP s → GoodP (l.foldl AlBase.mul s) := by
    induction l with
    | nil => intro s hs; exact hs
    | cons q l ih =>
      intro s hs
      rw [List.foldl_cons]
      exact ih (fun c hc => hg c (by simp [hc])) _ (mul_good hs.t (hg q (by simp)))
  exact this _ one_good

theorem neg_good {p : Poly} (h : GoodP p) : GoodP (AlBase.neg p) := scale_good h

theorem readMore_good : ∀ (n : Nat) (s : Poly) (l : List (List Nat)) (p : Poly), l.length ≤ n → GoodP s → AlBase.readMore s l = some p → GoodP p
  | _, s, [], p, _, hs, h => by simp [AlBase.readMore] at h; subst h; exact hs
  | _, s, [_], p, _, hs, h => by simp [AlBase.readMore] at h
  | 0, s, a :: w :: l, p, hn, hs, h => by simp at hn
  | n + 1, s, a :: w :: l, p, hn, hs, h => by
    unfold AlBase.readMore at h
    simp only [List.length_cons] at hn
    split at h
    · rw [Option.bind_eq_some_iff] at h
      obtain ⟨q, hq, h⟩ := h
      exact readMore_good n _ l p (by omega) (add_good (readTerm_good hq).t hs) h
    · split at h
      · rw [Option.bind_eq_some_iff] at h
        obtain ⟨q, hq, h⟩ := h
        exact readMore_good n _ l p (by omega) (add_good (neg_good (readTerm_good hq)).t hs) h
      · simp at h

theorem readSum_good {t : List Nat} {p : Poly} (h : AlBase.readSum t = some p) : GoodP p := by
  unfold AlBase.readSum at h
  split at h
  · simp at h
  · split at h
    · rw [Option.bind_eq_some_iff] at h
      obtain ⟨q, hq, h⟩ := h
      exact readMore_good _ _ _ p (Nat.le_refl _) (neg_good (readTerm_good hq)) h
    · rw [Option.bind_eq_some_iff] at h
      obtain ⟨q, hq, h⟩ := h
      exact readMore_good _ _ _ p (Nat.le_refl _) (readTerm_good hq) h

theorem foldl_max_le : ∀ (p : Poly) (s : Nat), s ≤ p.foldl (fun (s : Nat) (x : Mono × Rat) => max s (AlBase.degree x.1)) s
  | [], s => Nat.le_refl s
  | x :: p, s => by
    rw [List.foldl_cons]
    exact Nat.le_trans (Nat.le_max_left _ _) (foldl_max_le p _)

theorem deg_zero {p : Poly} (h : GoodP p) (hd : AlBase.polyDegree p = 0) : p = [] ∨ ∃ c, p = [([], c)] := by
  cases p with
  | nil => exact Or.inl rfl
  | cons x p =>
    right
    obtain ⟨m, c⟩ := x
    have h1 : AlBase.degree m = 0 := by
      unfold AlBase.polyDegree at hd
      rw [List.foldl_cons] at hd
      have h2 := foldl_max_le p (max 0 (AlBase.degree m))
      have h3 : p.foldl (fun (s : Nat) (x : Mono × Rat) => max s (AlBase.degree x.1)) (max 0 (AlBase.degree m)) = 0 := hd
      omega
    have hm : m = [] := Classical.byContradiction fun hn => by
      have h2 : 0 < AlBase.degree m := degree_pos (h.t (m, c) (by simp)) hn
      omega
    have := h.l.1 hm
    rw [hm, this]
    exact ⟨c, rfl⟩

theorem text_one (c : Rat) : AlBase.text [([], c)] = sgnT c := by
  by_cases h0 : c = 0
  · subst h0
    show (if (0 : Rat) < 0 then _ else AlBase.termText [] 0) ++ [] = _
    rw [if_neg (by decide)]
    show AlBase.numberText 0 ++ [] = _
    rw [numberText_eq (by decide)]
    unfold sgnT
    simp
  · have := numText_eq c
    unfold AlOne.numText AlBase.const AlBase.plus at this
    rw [if_neg h0] at this
    exact this

theorem value_const (c : Rat) : AlBase.value (fun _ => 0) [([], c)] = c := by
  show (0 : Rat) + c * 1 = c
  grind

theorem readNum_text {t : List Nat} {c : Rat} (h : AlOne.readNum t = some c) : t = sgnT c := by
  unfold AlOne.readNum AlBase.read at h
  rw [Option.bind_eq_some_iff] at h
  obtain ⟨p, hp, h⟩ := h
  rw [Option.bind_eq_some_iff] at hp
  obtain ⟨q, hq, hp⟩ := hp
  have hg := readSum_good hq
  split at hp
  · rename_i ht
    simp at hp; subst hp
    split at h
    · rename_i hd
      rcases deg_zero hg hd with e | ⟨d, e⟩
      · subst e
        simp [AlBase.value] at h
        rw [← ht, ← h]
        show [48] = sgnT 0
        unfold sgnT numT; simp [dg_zero]
      · subst e
        rw [value_const] at h
        simp at h
        rw [← ht, text_one, h]
    · simp at h
  · simp at hp

/-! the other way -/
theorem const_ne {c : Rat} (h : c ≠ 0) : AlBase.const c = [([], c)] := by unfold AlBase.const; rw [plus_nil, if_neg h]
theorem const_zero : AlBase.const 0 = [] := by unfold AlBase.const; rw [plus_nil, if_pos rfl]

theorem mul_one_const (c : Rat) : AlBase.mul AlBase.one (AlBase.const c) = AlBase.const c := by
  by_cases h : c = 0
  · subst h; rw [const_zero]; rfl
  · rw [const_ne h]
    show AlBase.add [] (AlBase.termTimes ([], 1) [([], c)]) = _
    unfold AlBase.termTimes AlBase.scale
    rw [if_neg (by decide)]
    show AlBase.plus [] (1 * c) [] = _
    rw [plus_nil, Rat.one_mul, if_neg h]

theorem neg_const (c : Rat) : AlBase.neg (AlBase.const c) = AlBase.const (-c) := by
  by_cases h : c = 0
  · subst h; rw [Rat.neg_zero, const_zero]; rfl
  · have h2 : -c ≠ 0 := by grind
    rw [const_ne h, const_ne h2]
    unfold AlBase.neg AlBase.scale
    rw [if_neg (by decide)]
    show [(([] : Mono), (-1) * c)] = _
    have : (-1) * c = -c := by grind
    rw [this]

theorem readLetter_none {w : List Nat} (h : ∀ b ∈ w, b ≤ 57) : AlBase.readLetter w = none := by
  unfold AlBase.readLetter
  split
  · rename_i b
    have := h b (by simp)
    rw [if_neg (by omega)]
  · rfl

theorem numT_le {c : Rat} : ∀ b ∈ numT c, b ≤ 57 := by
  intro b hb
  apply Classical.byContradiction
  intro h
  exact numT_notin (c := c) (b := b) (by omega) hb

theorem readFactor_numT {c : Rat} (h : 0 ≤ c.num) : AlBase.readFactor (numT c) = some (AlBase.const c) := by
  unfold AlBase.readFactor
  rw [split_none (numT_notin (by omega))]
  show (match AlBase.readLetter (numT c) with | some a => some (AlBase.letter a) | none => (AlBase.readNumber (numT c)).map AlBase.const) = _
  rw [readLetter_none numT_le, readNumber_numT h]; rfl

theorem readTerm_numT {c : Rat} (h : 0 ≤ c.num) : AlBase.readTerm (numT c) = some (AlBase.const c) := by
  unfold AlBase.readTerm
  rw [split_none (numT_notin (by omega))]
  show (List.mapM AlBase.readFactor [numT c]).map _ = _
  rw [List.mapM_cons, readFactor_numT h, List.mapM_nil]
  show some (AlBase.mul AlBase.one (AlBase.const c)) = _
  rw [mul_one_const]

theorem readSum_sgnT (c : Rat) : AlBase.readSum (sgnT c) = some (AlBase.const c) := by
  unfold AlBase.readSum
  rw [split_none (sgnT_notin (by omega))]
  show (if (sgnT c).headD 0 = 45 then (AlBase.readTerm (sgnT c).tail).bind fun p => AlBase.readMore (AlBase.neg p) [] else (AlBase.readTerm (sgnT c)).bind fun p => AlBase.readMore p []) = _
  by_cases h : c.num < 0
  · have e : sgnT c = 45 :: numT (-c) := by
      unfold sgnT numT
      rw [if_pos h, Rat.neg_num, Rat.neg_den, Int.natAbs_neg]; rfl
    rw [e, if_pos (show (45 :: numT (-c)).headD 0 = 45 from rfl), List.tail_cons, readTerm_numT (by rw [Rat.neg_num]; omega)]
    show AlBase.readMore (AlBase.neg (AlBase.const (-c))) [] = _
    rw [neg_const, Rat.neg_neg]; rfl
  · have e : sgnT c = numT c := by unfold sgnT; rw [if_neg h]; rfl
    obtain ⟨b, l, e2, h1, h2⟩ := numT_head c
    rw [e, if_neg (by rw [e2]; show b ≠ 45; omega), readTerm_numT (by omega)]
    rfl

theorem readNum_sgnT (c : Rat) : AlOne.readNum (sgnT c) = some c := by
  unfold AlOne.readNum AlBase.read
  rw [readSum_sgnT]
  have e : AlBase.text (AlBase.const c) = sgnT c := numText_eq c
  show (if AlBase.text (AlBase.const c) = sgnT c then some (AlBase.const c) else none).bind _ = _
  rw [if_pos e]
  show (if AlBase.polyDegree (AlBase.const c) = 0 then some (AlBase.value (fun _ => 0) (AlBase.const c)) else none) = _
  by_cases h : c = 0
  · subst h; rw [const_zero]; rfl
  · rw [const_ne h, value_const]; rfl

/-- **a number is read from its text alone** -/
theorem readNum_iff {t : List Nat} {c : Rat} : AlOne.readNum t = some c ↔ t = sgnT c :=
  ⟨readNum_text, fun h => by rw [h, readNum_sgnT]⟩

end Ma
/-! The text of a polynomial, power by power from the highest one down. -/
namespace Ma
open AlBase (Mono Poly)

def mo (k : Nat) : Mono := if k = 0 then [] else [(AlOne.X, k)]
/-- the terms, the higher powers first -/
def termsD : List Rat → Nat → Poly
  | [], _ => []
  | c :: p, k => termsD p (k + 1) ++ (if c = 0 then [] else [(mo k, c)])

theorem degree_mo (k : Nat) : AlBase.degree (mo k) = k := by
  unfold mo
  split
  · rename_i h; rw [h]; rfl
  · simp [AlBase.degree]

theorem plus_top {k : Nat} {c : Rat} {s : Poly} (h : ∀ x ∈ s, AlBase.degree x.1 < k) : AlBase.plus (mo k) c s = (if c = 0 then [] else [(mo k, c)]) ++ s := by
  cases s with
  | nil => rw [plus_nil, List.append_nil]
  | cons x s =>
    obtain ⟨n, d⟩ := x
    have hd : AlBase.degree n < k := h (n, d) (by simp)
    rw [plus_cons]
    split
    · rfl
    · have hne : mo k ≠ n := by intro e; rw [← e, degree_mo] at hd; omega
      rw [if_neg hne]
      have : AlBase.above (mo k) n = true := by
        unfold AlBase.above
        rw [degree_mo, if_neg (by omega)]; simp [hd]
      rw [if_pos this]; rfl

theorem gather_eq : ∀ (p : List Rat) (k : Nat) (s : Poly), (∀ x ∈ s, AlBase.degree x.1 < k) →
    AlBase.add s ((p.zip (List.range' k p.length)).map fun x => (mo x.2, x.1)) = termsD p k ++ s
  | [], k, s, _ => rfl
  | c :: p, k, s, h => by
    rw [List.length_cons, List.range'_succ, List.zip_cons_cons, List.map_cons]
    unfold AlBase.add
    rw [List.foldl_cons]
    have e := plus_top (c := c) h
    show List.foldl _ (AlBase.plus (mo k) c s) _ = _
    rw [e]
    have := gather_eq p (k + 1) ((if c = 0 then [] else [(mo k, c)]) ++ s) (by
      intro x hx
      rw [List.mem_append] at hx
      rcases hx with hx | hx
      · split at hx
        · simp at hx
        · simp at hx; subst hx; show AlBase.degree (mo k) < k + 1; rw [degree_mo]; omega
      · have := h x hx; omega)
    unfold AlBase.add at this
    rw [this]
    show _ = (termsD p (k + 1) ++ _) ++ s
    rw [List.append_assoc]

theorem toPoly_eq (p : List Rat) : AlOne.toPoly p = termsD p 0 := by
  unfold AlOne.toPoly AlBase.gather
  have := gather_eq p 0 [] (by simp)
  rw [List.append_nil] at this
  rw [← this, List.range_eq_range']
  rfl

/-- one more term behind a text -/
def stepT (acc : List Nat) (x : Mono × Rat) : List Nat :=
  acc ++ (if acc = [] then (if x.2 < 0 then [45] else []) else (if x.2 < 0 then [32, 45, 32] else [32, 43, 32])) ++ AlBase.termText x.1 (if x.2 < 0 then -x.2 else x.2)

theorem termText_ne (m : Mono) (c : Rat) : AlBase.termText m c ≠ [] := by
  have hn : AlBase.numberText c ≠ [] := by
    unfold AlBase.numberText
    rw [digits_eq]
    intro h
    rw [List.append_eq_nil_iff] at h
    exact dg_ne _ h.1
  unfold AlBase.termText
  split
  · exact hn
  · rename_i h0
    split
    · unfold AlBase.monoText
      cases m with
      | nil => exact absurd rfl h0
      | cons y m =>
        rw [List.map_cons]
        cases m with
        | nil => simp [AlBase.join]
        | cons z m => simp [AlBase.join]
    · simp

theorem stepT_ne (acc : List Nat) (x : Mono × Rat) : stepT acc x ≠ [] := by
  unfold stepT
  intro h
  rw [List.append_eq_nil_iff] at h
  exact termText_ne _ _ h.2

theorem foldl_step : ∀ (l : Poly) (acc : List Nat), acc ≠ [] → l.foldl stepT acc = acc ++ l.flatMap AlBase.moreText
  | [], acc, _ => by simp
  | x :: l, acc, h => by
    rw [List.foldl_cons, foldl_step l _ (stepT_ne acc x), List.flatMap_cons]
    unfold stepT AlBase.moreText
    rw [if_neg h]
    split <;> simp [List.append_assoc]

theorem text_fold {l : Poly} (h : l ≠ []) : AlBase.text l = l.foldl stepT [] := by
  cases l with
  | nil => exact absurd rfl h
  | cons x l =>
    obtain ⟨m, c⟩ := x
    rw [List.foldl_cons, foldl_step l _ (stepT_ne [] (m, c))]
    unfold AlBase.text stepT
    simp only [if_true, List.nil_append]
    split <;> rfl

theorem termsD_ne : ∀ {p : List Rat} {k : Nat}, Tr p → p ≠ [] → termsD p k ≠ []
  | [], _, _, h => absurd rfl h
  | [c], k, h, _ => by
    have := tr_one_ne h
    simp [termsD, this]
  | c :: d :: p, k, h, _ => by
    have := termsD_ne (k := k + 1) (tr_tail h) (by simp)
    show termsD (d :: p) (k + 1) ++ _ ≠ []
    intro e
    rw [List.append_eq_nil_iff] at e
    exact this e.1

/-- **the text of a polynomial** -/
theorem text_eq {p : List Rat} (h : Tr p) (hne : p ≠ []) : AlOne.text p = (termsD p 0).foldl stepT [] := by
  unfold AlOne.text
  rw [toPoly_eq, text_fold (termsD_ne h hne)]
theorem text_zero : AlOne.text [] = [48] := rfl

/-- the term of a power -/
def powT (k : Nat) : List Nat := 120 :: (if k = 1 then [] else 94 :: dg k)
theorem termText_mo {k : Nat} {c : Rat} (hc : 0 ≤ c.num) : AlBase.termText (mo k) c = if k = 0 then numT c else if c = 1 then powT k else numT c ++ 42 :: powT k := by
  unfold AlBase.termText mo
  by_cases h : k = 0
  · rw [if_pos h, if_pos rfl, if_pos h, numberText_eq hc]
  · rw [if_neg h, if_neg (by simp), if_neg h, numberText_eq hc]
    have : AlBase.monoText [(AlOne.X, k)] = powT k := by
      unfold AlBase.monoText powT
      simp only [List.map_cons, List.map_nil, AlBase.join]
      rw [digits_eq]
      rfl
    rw [this]

/-- power by power: what the highest n of k + n powers give -/
theorem termsD_snoc : ∀ (p : List Rat) (c : Rat) (k : Nat), termsD (p ++ [c]) k = (if c = 0 then [] else [(mo (k + p.length), c)]) ++ termsD p k
  | [], c, k => by simp [termsD]
  | d :: p, c, k => by
    show termsD (p ++ [c]) (k + 1) ++ _ = _
    rw [termsD_snoc p c (k + 1), List.append_assoc, List.length_cons, show k + 1 + p.length = k + (p.length + 1) by omega]
    rfl

end Ma
/-! A fraction in lowest terms, by whole numbers. -/
namespace Ma

def lowS (t b : Int) : Int := if b < 0 then -((Nat.gcd t.natAbs b.natAbs : Nat) : Int) else ((Nat.gcd t.natAbs b.natAbs : Nat) : Int)

theorem lowS_ne {t b : Int} (h : b ≠ 0) : lowS t b ≠ 0 := by
  have : 0 < Nat.gcd t.natAbs b.natAbs := Nat.gcd_pos_of_pos_right _ (by omega)
  unfold lowS; split <;> omega

theorem lowS_abs (t b : Int) : (lowS t b).natAbs = Nat.gcd t.natAbs b.natAbs := by
  unfold lowS; split
  · rw [Int.natAbs_neg, Int.natAbs_natCast]
  · rw [Int.natAbs_natCast]

theorem lowS_le {t b : Int} (h : b ≠ 0) : (lowS t b).natAbs ≤ b.natAbs := by
  rw [lowS_abs]; exact Nat.le_of_dvd (by omega) (Nat.gcd_dvd_right _ _)

theorem lowS_sign {t b : Int} (h : b ≠ 0) : lowS t b = b.sign * ((Nat.gcd t.natAbs b.natAbs : Nat) : Int) := by
  unfold lowS
  split
  · rename_i hb
    rw [Int.sign_eq_neg_one_of_neg hb]; omega
  · have : 0 < b := by omega
    rw [Int.sign_eq_one_of_pos this]; omega

theorem low_num {t b : Int} (h : b ≠ 0) : t.fdiv (lowS t b) = (Rat.divInt t b).num := by
  rw [Rat.num_divInt, lowS_sign h]
  have e : b.gcd t = Nat.gcd t.natAbs b.natAbs := by rw [Nat.gcd_comm]; rfl
  rw [e]
  have hg : 0 < Nat.gcd t.natAbs b.natAbs := Nat.gcd_pos_of_pos_right _ (by omega)
  generalize hge : Nat.gcd t.natAbs b.natAbs = g at *
  have hd : (g : Int) ∣ t := by rw [← hge]; exact Int.ofNat_dvd_left.mpr (Nat.gcd_dvd_left _ _)
  obtain ⟨q, hq⟩ := hd
  have hg0 : (g : Int) ≠ 0 := by omega
  rcases Int.lt_or_gt_of_ne h with hb | hb
  · rw [Int.sign_eq_neg_one_of_neg hb, hq]
    have e1 : (g : Int) * q = (-1 * (g : Int)) * (-q) := by grind
    have e2 : -1 * ((g : Int) * q) = (g : Int) * (-q) := by grind
    rw [e2, Int.mul_ediv_cancel_left _ hg0, e1, Int.mul_fdiv_cancel_left _ (by omega)]
  · rw [Int.sign_eq_one_of_pos hb, hq]
    have e1 : (g : Int) * q = (1 * (g : Int)) * q := by grind
    have e2 : 1 * ((g : Int) * q) = (g : Int) * q := by grind
    rw [e2, Int.mul_ediv_cancel_left _ hg0, e1, Int.mul_fdiv_cancel_left _ (by omega)]

theorem low_den {t b : Int} (h : b ≠ 0) : b.fdiv (lowS t b) = ((Rat.divInt t b).den : Int) := by
  rw [Rat.den_divInt, if_neg h, lowS_sign h]
  have e : b.gcd t = Nat.gcd t.natAbs b.natAbs := by rw [Nat.gcd_comm]; rfl
  rw [e]
  have hg : 0 < Nat.gcd t.natAbs b.natAbs := Nat.gcd_pos_of_pos_right _ (by omega)
  generalize hge : Nat.gcd t.natAbs b.natAbs = g at *
  have hd : g ∣ b.natAbs := by rw [← hge]; exact Nat.gcd_dvd_right _ _
  obtain ⟨q, hq⟩ := hd
  rw [hq, Nat.mul_div_cancel_left _ hg]
  have hb' : b = b.sign * (b.natAbs : Int) := (Int.sign_mul_natAbs b).symm
  rw [hq] at hb'
  have hs0 : b.sign * (g : Int) ≠ 0 := by
    intro h0
    rcases Int.mul_eq_zero.mp h0 with h1 | h1
    · exact h (Int.sign_eq_zero_iff_zero.mp h1)
    · omega
  have e3 : b = b.sign * (g : Int) * (q : Int) := by
    conv => lhs; rw [hb']
    rw [Int.natCast_mul, Int.mul_assoc]
  generalize b.sign * (g : Int) = s at *
  rw [e3, Int.mul_fdiv_cancel_left _ hs0]

theorem add_divInt (a b : Rat) : Rat.divInt (a.num * (b.den : Int) + b.num * (a.den : Int)) ((a.den : Int) * (b.den : Int)) = a + b := by
  rw [Rat.add_def', ← Int.natCast_mul, Rat.divInt_ofNat]
theorem mul_divInt (a b : Rat) : Rat.divInt (a.num * b.num) ((a.den : Int) * (b.den : Int)) = a * b := by
  rw [Rat.mul_def', ← Int.natCast_mul, Rat.divInt_ofNat]
theorem div_divInt {a b : Rat} : Rat.divInt (a.num * (b.den : Int)) ((a.den : Int) * b.num) = a / b := by
  rw [Rat.div_def, Rat.inv_def]
  conv => rhs; rw [← Rat.num_divInt_den a]
  rw [Rat.divInt_mul_divInt]
end Ma
/-! A product, number by number. -/
namespace Ma
open AlOne

theorem M_take (f : Nat → Rat) : ∀ (p : List Rat) (i k : Nat), M (p.take (i + 1)) f k = M (p.take i) f k + (if i ≤ k then co p i * f (k - i) else 0)
  | [], i, k => by simp [M, co_nil]; grind
  | c :: p, 0, k => by
    show c * f k + sh (M [] f) k = 0 + (if 0 ≤ k then co (c :: p) 0 * f (k - 0) else 0)
    have : sh (M [] f) k = 0 := by cases k <;> rfl
    rw [this, if_pos (Nat.zero_le k), co_zero, Nat.sub_zero]; grind
  | c :: p, i + 1, 0 => by
    show c * f 0 + sh (M (p.take (i + 1)) f) 0 = (c * f 0 + sh (M (p.take i) f) 0) + (if i + 1 ≤ 0 then _ else 0)
    rw [if_neg (by omega)]
    show c * f 0 + 0 = (c * f 0 + 0) + 0
    grind
  | c :: p, i + 1, k + 1 => by
    show c * f (k + 1) + M (p.take (i + 1)) f k = (c * f (k + 1) + M (p.take i) f k) + (if i + 1 ≤ k + 1 then co (c :: p) (i + 1) * f (k + 1 - (i + 1)) else 0)
    rw [M_take f p i k, co_succ]
    have e : k + 1 - (i + 1) = k - i := by omega
    rw [e]
    by_cases h : i ≤ k
    · rw [if_pos h, if_pos (by omega)]; grind
    · rw [if_neg h, if_neg (by omega)]; grind

/-- behind i whole turns and j inner ones -/
def PV (p q : List Rat) (i j k : Nat) : Rat := M (p.take i) (co q) k + (if i ≤ k ∧ k < i + j then co p i * co q (k - i) else 0)

theorem PV_zero (p q : List Rat) (k : Nat) : PV p q 0 0 k = 0 := by
  unfold PV
  rw [if_neg (by omega)]
  show 0 + 0 = (0 : Rat)
  grind
theorem PV_inner (p q : List Rat) (i j k : Nat) : PV p q i (j + 1) k = if k = i + j then PV p q i j (i + j) + co p i * co q j else PV p q i j k := by
  unfold PV
  by_cases h : k = i + j
  · subst h
    rw [if_pos (by omega), if_pos rfl, if_neg (by omega), show i + j - i = j by omega]; grind
  · rw [if_neg h]
    by_cases h2 : i ≤ k ∧ k < i + j
    · rw [if_pos h2, if_pos (by omega)]
    · rw [if_neg h2, if_neg (by omega)]
theorem PV_outer (p q : List Rat) (i k : Nat) : PV p q i q.length k = PV p q (i + 1) 0 k := by
  unfold PV
  rw [if_neg (show ¬ (i + 1 ≤ k ∧ k < i + 1 + 0) by omega), M_take]
  by_cases h : i ≤ k
  · rw [if_pos h]
    by_cases h2 : k < i + q.length
    · rw [if_pos ⟨h, h2⟩]; grind
    · rw [if_neg (by omega), co_ge (show q.length ≤ k - i by omega)]; grind
  · rw [if_neg h, if_neg (by omega)]; grind
theorem PV_last (p q : List Rat) (k : Nat) : PV p q p.length 0 k = co (mul p q) k := by
  unfold PV
  rw [if_neg (by omega), List.take_length, co_mul]; grind

theorem mul_map (p q : List Rat) {n : Nat} (h : n = p.length + q.length) : trim ((List.range n).map fun k => PV p q p.length 0 k) = mul p q := by
  refine ext (tr_trim _) (tr_mul _ _) fun i => ?_
  rw [co_trim]
  by_cases hi : i < n
  · rw [← PV_last]
    unfold co
    simp [List.getD_eq_getElem?_getD, hi]
  · have h1 : co ((List.range n).map fun k => PV p q p.length 0 k) i = 0 := co_ge (by simp; omega)
    rw [h1, co_mul]
    by_cases hp : p = []
    · subst hp; rfl
    · by_cases hq : q = []
      · subst hq
        rw [M_comm]; rfl
      · exact ((M_top p q hp hq).1 i (by omega)).symm

/-- all its numbers whole by D, then of at most m bits -/
def HtL (l : List Rat) (D m : Nat) : Prop := ∀ i, ∃ y : Int, (D : Rat) * co l i = (y : Rat) ∧ B y m

theorem HtL.mono {l : List Rat} {D m n : Nat} (h : HtL l D m) (hm : m ≤ n) : HtL l D n := fun i =>
  let ⟨y, a, b⟩ := h i; ⟨y, a, b.mono hm⟩

theorem M_htL {q : List Rat} {E b : Nat} (hq : HtL q E b) {D a : Nat} : ∀ (p : List Rat), HtL p D a → ∀ k, ∃ y : Int, ((D * E : Nat) : Rat) * M p (co q) k = (y : Rat) ∧ B y (a + b + p.length)
  | [], _, k => ⟨0, by simp [M], B.zero _⟩
  | c :: p, hp, k => by
    obtain ⟨y1, e1, b1⟩ := hp 0
    obtain ⟨y2, e2, b2⟩ := hq k
    have ih := M_htL hq p (fun i => by have := hp (i + 1); rwa [co_succ] at this)
    have hs : ∃ y : Int, ((D * E : Nat) : Rat) * sh (M p (co q)) k = (y : Rat) ∧ B y (a + b + p.length) := by
      cases k with
      | zero => exact ⟨0, by simp [sh], B.zero _⟩
      | succ k => exact ih k
    obtain ⟨y3, e3, b3⟩ := hs
    rw [co_zero] at e1
    refine ⟨y1 * y2 + y3, ?_, ?_⟩
    · show ((D * E : Nat) : Rat) * (c * co q k + sh (M p (co q)) k) = _
      rw [Rat.intCast_add, Rat.intCast_mul, ← e1, ← e2, ← e3, Rat.natCast_mul]; grind
    · exact (((b1.mul b2).mono (show a + b ≤ a + b + p.length by omega)).add b3).mono (by rw [List.length_cons]; omega)

theorem htL_take {p : List Rat} {D a : Nat} (h : HtL p D a) (i : Nat) : HtL (p.take i) D a := fun j => by
  by_cases hj : j < i
  · have : co (p.take i) j = co p j := by
      unfold co; simp [List.getD_eq_getElem?_getD, List.getElem?_take, hj]
    rw [this]; exact h j
  · have : co (p.take i) j = 0 := co_ge (by rw [List.length_take]; omega)
    rw [this]; exact ⟨0, by simp, B.zero _⟩

theorem PV_htL {p q : List Rat} {D E a b : Nat} (hp : HtL p D a) (hq : HtL q E b) (i j k : Nat) (hi : i ≤ p.length) : ∃ y : Int, ((D * E : Nat) : Rat) * PV p q i j k = (y : Rat) ∧ B y (a + b + p.length + 1) := by
  obtain ⟨y1, e1, b1⟩ := M_htL hq _ (htL_take hp i) k
  have hlen : (p.take i).length ≤ p.length := by rw [List.length_take]; omega
  have h2 : ∃ y : Int, ((D * E : Nat) : Rat) * (if i ≤ k ∧ k < i + j then co p i * co q (k - i) else 0) = (y : Rat) ∧ B y (a + b + p.length) := by
    split
    · obtain ⟨y2, e2, b2⟩ := hp i
      obtain ⟨y3, e3, b3⟩ := hq (k - i)
      refine ⟨y2 * y3, ?_, (b2.mul b3).mono (by omega)⟩
      rw [Rat.intCast_mul, ← e2, ← e3, Rat.natCast_mul]; grind
    · exact ⟨0, by simp, B.zero _⟩
  obtain ⟨y2, e2, b2⟩ := h2
  refine ⟨y1 + y2, ?_, (b1.mono (by omega)).add b2⟩
  unfold PV
  rw [Rat.intCast_add, ← e1, ← e2]; grind

theorem mul_htL {p q : List Rat} {D E a b : Nat} (hp : HtL p D a) (hq : HtL q E b) : HtL (mul p q) (D * E) (a + b + p.length) := fun k => by
  rw [co_mul]; exact M_htL hq p hp k

theorem htL_num {l : List Rat} {D m b : Nat} (h : HtL l D m) (hD : 0 < D) (hDb : D ≤ 2 ^ b) (hm : m ≤ b) : ∀ c ∈ l, c.num.natAbs ≤ 2 ^ b ∧ c.den ≤ 2 ^ b := by
  intro c hc
  obtain ⟨i, hi, e⟩ := List.getElem_of_mem hc
  obtain ⟨y, e1, b1⟩ := h i
  have : co l i = c := by unfold co; simp [List.getD_eq_getElem?_getD, hi, e]
  rw [this] at e1
  exact num_den_le hD hDb e1 (b1.mono hm)
end Ma
/-! Long division, number by number. -/
namespace Ma
open AlOne

/-- a list as a polynomial -/
def mk (l : List Rat) : P := ⟨trim l, tr_trim l⟩
theorem mk_c (l : List Rat) (i : Nat) : (mk l).c i = co l i := co_trim l i
theorem mk_tr {l : List Rat} (h : Tr l) : (mk l).1 = l := h

theorem sign_abs (l : Int) : ((l.natAbs : Nat) : Int) = l.sign * l := by
  rcases Int.lt_trichotomy l 0 with h | h | h
  · rw [Int.sign_eq_neg_one_of_neg h]; omega
  · subst h; rfl
  · rw [Int.sign_eq_one_of_pos h]; omega

theorem X_mul (q : P) : ∀ (s k : Nat), (X s * q).c k = if s ≤ k then q.c (k - s) else 0
  | 0, k => by
    rw [P.c_mul]
    show M [1] q.c k = _
    rw [if_pos (Nat.zero_le k), Nat.sub_zero]
    show 1 * q.c k + sh (M [] q.c) k = _
    have : sh (M [] q.c) k = 0 := by cases k <;> rfl
    rw [this]; grind
  | s + 1, k => by
    rw [P.c_mul]
    have e : (X (s + 1)).1 = 0 :: (X s).1 := by
      show xpow (s + 1) = 0 :: xpow s
      unfold xpow; rw [List.replicate_succ]; rfl
    rw [e]
    show 0 * q.c k + sh (M (X s).1 q.c) k = _
    cases k with
    | zero => rw [if_neg (by omega)]; show 0 * q.c 0 + 0 = _; grind
    | succ k =>
      have := X_mul q s k
      rw [P.c_mul] at this
      show 0 * q.c (k + 1) + M (X s).1 q.c k = _
      rw [this]
      by_cases h : s ≤ k
      · rw [if_pos h, if_pos (by omega), show k + 1 - (s + 1) = k - s by omega]; grind
      · rw [if_neg h, if_neg (by omega)]; grind

/-- what is left behind t turns; N turns in all -/
def RS (p q : List Rat) (N : Nat) : Nat → Nat → Rat
  | 0, k => co p k
  | t + 1, k =>
    let s := N - 1 - t
    if s ≤ k ∧ k < s + q.length then RS p q N t k - RS p q N t (s + q.length - 1) / lead q * co q (k - s) else RS p q N t k
def fct (p q : List Rat) (N t : Nat) : Rat := RS p q N t (N - 1 - t + q.length - 1) / lead q
theorem RS_succ (p q : List Rat) (N t k : Nat) : RS p q N (t + 1) k = if N - 1 - t ≤ k ∧ k < N - 1 - t + q.length then RS p q N t k - fct p q N t * co q (k - (N - 1 - t)) else RS p q N t k := rfl

def QL (p q : List Rat) (N t : Nat) : List Rat := (List.range N).map fun i => if N - t ≤ i then fct p q N (N - 1 - i) else 0
def RL (p q : List Rat) (N t : Nat) : List Rat := (List.range p.length).map fun k => RS p q N t k

theorem co_range_map (f : Nat → Rat) (n i : Nat) : co ((List.range n).map f) i = if i < n then f i else 0 := by
  unfold co
  by_cases h : i < n
  · simp [List.getD_eq_getElem?_getD, h]
  · simp [List.getD_eq_getElem?_getD, h]

section
variable {p q : List Rat} {N : Nat} (hN : N + q.length = p.length + 1) (hq : q ≠ []) (hl : lead q ≠ 0)
include hN hq hl

theorem RS_top : ∀ (t k : Nat), t ≤ N → p.length - t ≤ k → RS p q N t k = 0
  | 0, k, _, hk => co_ge (by omega)
  | t + 1, k, ht, hk => by
    have hql := pos_len hq
    rw [RS_succ]
    by_cases h : k = p.length - (t + 1)
    · rw [if_pos (by omega)]
      have e : k - (N - 1 - t) = q.length - 1 := by omega
      rw [e, ← lead_eq]
      unfold fct
      have e2 : N - 1 - t + q.length - 1 = k := by omega
      rw [e2]; grind
    · have h0 := RS_top t k (by omega) (by omega)
      rw [if_neg (by omega)]; exact h0

theorem div_step (t : Nat) (ht : t < N) : mk (QL p q N (t + 1)) * mk q + mk (RL p q N (t + 1)) = mk (QL p q N t) * mk q + mk (RL p q N t) := by
  have hql := pos_len hq
  have hQ : mk (QL p q N (t + 1)) = mk (QL p q N t) + P.cst (fct p q N t) * X (N - 1 - t) := by
    apply P.ext'
    intro i
    rw [P.c_add, mk_c, mk_c, cst_c]
    unfold QL
    rw [co_range_map, co_range_map]
    have hX : (X (N - 1 - t)).c i = if i = N - 1 - t then 1 else 0 := by
      have := X_mul 1 (N - 1 - t) i
      have e1 : X (N - 1 - t) * 1 = X (N - 1 - t) := by grind
      rw [e1] at this
      rw [this]
      have hone : ∀ j, (1 : P).c j = delta j := fun j => by unfold P.c; rw [P.one_val, co_one]
      by_cases h1 : i = N - 1 - t
      · rw [if_pos (by omega), if_pos h1, hone, show i - (N - 1 - t) = 0 by omega]; rfl
      · rw [if_neg h1]
        by_cases h2 : N - 1 - t ≤ i
        · rw [if_pos h2, hone]
          obtain ⟨d, hd⟩ : ∃ d, i - (N - 1 - t) = d + 1 := ⟨i - (N - 1 - t) - 1, by omega⟩
          rw [hd]; rfl
        · rw [if_neg h2]
    rw [hX]
    by_cases h1 : i = N - 1 - t
    · rw [if_pos h1, if_pos (by omega), if_pos (by omega), if_pos (by omega), if_neg (by omega), show N - 1 - i = t by omega]; grind
    · rw [if_neg h1]
      by_cases h2 : i < N
      · rw [if_pos h2, if_pos h2]
        by_cases h3 : N - t ≤ i
        · rw [if_pos (by omega), if_pos h3]; grind
        · rw [if_neg (by omega), if_neg h3]; grind
      · rw [if_neg h2, if_neg h2]; grind
  have hR : mk (RL p q N t) = mk (RL p q N (t + 1)) + P.cst (fct p q N t) * (X (N - 1 - t) * mk q) := by
    apply P.ext'
    intro k
    rw [P.c_add, mk_c, mk_c, cst_c, X_mul, mk_c]
    unfold RL
    rw [co_range_map, co_range_map, RS_succ]
    by_cases hk : k < p.length
    · rw [if_pos hk, if_pos hk]
      by_cases h1 : N - 1 - t ≤ k
      · rw [if_pos h1]
        by_cases h2 : k < N - 1 - t + q.length
        · rw [if_pos ⟨h1, h2⟩]; grind
        · rw [if_neg (by omega), co_ge (show q.length ≤ k - (N - 1 - t) by omega)]; grind
      · rw [if_neg h1, if_neg (by omega)]; grind
    · rw [if_neg hk, if_neg hk]
      by_cases h1 : N - 1 - t ≤ k
      · rw [if_pos h1, co_ge (show q.length ≤ k - (N - 1 - t) by omega)]; grind
      · rw [if_neg h1]; grind
  rw [hQ, hR]; grind

theorem div_all : ∀ t, t ≤ N → mk (QL p q N t) * mk q + mk (RL p q N t) = mk p
  | 0, _ => by
    have h1 : mk (QL p q N 0) = 0 := by
      apply P.ext'
      intro i
      rw [mk_c]
      unfold QL
      rw [co_range_map]
      have : (0 : P).c i = 0 := by unfold P.c; rw [P.zero_val, co_nil]
      rw [this]
      by_cases h : i < N
      · rw [if_pos h, if_neg (by omega)]
      · rw [if_neg h]
    have h2 : mk (RL p q N 0) = mk p := by
      apply P.ext'
      intro i
      rw [mk_c, mk_c]
      unfold RL
      rw [co_range_map]
      by_cases h : i < p.length
      · rw [if_pos h]; rfl
      · rw [if_neg h, co_ge (by omega)]
    rw [h1, h2]; grind
  | t + 1, ht => by
    rw [div_step hN hq hl t (by omega)]
    exact div_all t (by omega)

/-- **the last turn has the quotient and the rest** -/
theorem div_done (hp : Tr p) (htq : Tr q) : divMod p q = (trim (QL p q N N), trim (RL p q N N)) := by
  have hql := pos_len hq
  have h := div_all hN hq hl N (Nat.le_refl N)
  have hlen : (mk (RL p q N N)).len < (mk q).len := by
    have h1 : (mk q).len = q.length := by show (trim q).length = _; rw [htq]
    rw [h1]
    suffices h2 : (mk (RL p q N N)).len ≤ q.length - 1 by omega
    refine len_le (mk (RL p q N N)).2 fun i hi => ?_
    show (mk (RL p q N N)).c i = 0
    rw [mk_c]
    unfold RL
    rw [co_range_map]
    by_cases h2 : i < p.length
    · rw [if_pos h2]; exact RS_top hN hq hl N i (Nat.le_refl N) (by omega)
    · rw [if_neg h2]
  have := divMod_eq h.symm hlen
  rw [mk_tr hp, mk_tr htq] at this
  exact this
end

/-- p shorter than q -/
theorem div_short {p q : List Rat} (hp : Tr p) (hq : Tr q) (h : p.length < q.length) : divMod p q = ([], p) := by
  have := divMod_eq (p := mk p) (q := mk q) (s := 0) (r := mk p) (by grind) (by show (trim p).length < (trim q).length; rw [hp, hq]; exact h)
  rw [mk_tr hp, mk_tr hq, P.zero_val] at this
  exact this

/-! sizes -/
/-- made whole by some number, all within so many bits -/
def HtP (l : List Rat) (a : Nat) : Prop := ∃ D : Nat, 0 < D ∧ D ≤ 2 ^ a ∧ HtL l D a

theorem HtP.mono {l : List Rat} {a b : Nat} (h : HtP l a) (hb : a ≤ b) : HtP l b := by
  obtain ⟨D, h1, h2, h3⟩ := h
  exact ⟨D, h1, Nat.le_trans h2 (Nat.pow_le_pow_right (by omega) hb), h3.mono hb⟩
theorem HtP.num {l : List Rat} {a : Nat} (h : HtP l a) : ∀ c ∈ l, c.num.natAbs ≤ 2 ^ a ∧ c.den ≤ 2 ^ a := by
  obtain ⟨D, h1, h2, h3⟩ := h
  exact htL_num h3 h1 h2 (Nat.le_refl a)
theorem htP_iff {l : List Rat} {a : Nat} : HtP l a ↔ Ht (mk l) a := by
  constructor
  · rintro ⟨D, h1, h2, h3⟩
    refine HtD.ht (D := D) (m := a) (htD_iff.mpr fun i => ?_) h1 h2 (Nat.le_refl a)
    rw [mk_c]; exact h3 i
  · rintro ⟨D, h1, h2, z, h3, h4⟩
    refine ⟨D, h1, h2, fun i => ⟨coZ z i, ?_, h4 i⟩⟩
    rw [← h3 i, cst_c, mk_c]

/-- turn by turn -/
theorem RS_ht {p q : List Rat} {N D E a b : Nat} (hD : 0 < D) (hE : 0 < E) (hp : HtL p D a) (hq : HtL q E b) (hl : lead q ≠ 0) (hDa : D ≤ 2 ^ a) : ∀ t, ∃ Dt : Nat, 0 < Dt ∧ Dt ≤ 2 ^ (a + t * (b + 1)) ∧
    ∀ k, ∃ y : Int, (Dt : Rat) * RS p q N t k = (y : Rat) ∧ B y (a + t * (b + 1))
  | 0 => ⟨D, hD, by rw [Nat.zero_mul]; exact hDa, fun k => by rw [Nat.zero_mul]; exact hp k⟩
  | t + 1 => by
    obtain ⟨Dt, h1, h2, h3⟩ := RS_ht hD hE hp hq hl hDa (N := N) t
    obtain ⟨l, hle, hlb⟩ := hq (q.length - 1)
    rw [← lead_eq] at hle
    have hl0 : l ≠ 0 := by
      intro h0
      rw [h0] at hle
      have := natCast_ne hE
      rcases Rat.mul_eq_zero.mp hle with h | h
      · exact this h
      · exact hl h
    have hla : 0 < l.natAbs := by omega
    have hab : a + (t + 1) * (b + 1) = (a + t * (b + 1)) + b + 1 := by rw [Nat.succ_mul]; omega
    refine ⟨Dt * l.natAbs, Nat.mul_pos h1 hla, ?_, fun k => ?_⟩
    · have := Nat.mul_le_mul h2 hlb
      rw [← Nat.pow_add] at this
      exact Nat.le_trans this (Nat.pow_le_pow_right (by omega) (by omega))
    · have hsg : ((l.natAbs : Nat) : Rat) = ((l.sign * l : Int) : Rat) := by
        have : ((l.natAbs : Nat) : Int) = l.sign * l := sign_abs l
        rw [← this]; rfl
      have hsb : ∀ {z : Int} {m : Nat}, B z m → B (l.sign * z) m := by
        intro z m hz
        unfold B at *
        rw [Int.natAbs_mul]
        have : l.sign.natAbs = 1 := by rw [Int.natAbs_sign]; simp [hl0]
        rw [this, Nat.one_mul]; exact hz
      rw [RS_succ]
      obtain ⟨y, e, by'⟩ := h3 k
      by_cases h : N - 1 - t ≤ k ∧ k < N - 1 - t + q.length
      · rw [if_pos h]
        obtain ⟨y2, e2, b2⟩ := h3 (N - 1 - t + q.length - 1)
        obtain ⟨y3, e3, b3⟩ := hq (k - (N - 1 - t))
        refine ⟨l.sign * (y * l - y2 * y3), ?_, ?_⟩
        · rw [Rat.intCast_mul, Rat.intCast_sub, Rat.intCast_mul, Rat.intCast_mul, ← e, ← e2, ← e3, ← hle, Rat.natCast_mul, hsg, Rat.intCast_mul, ← hle]
          unfold fct
          have hEne := natCast_ne hE
          grind
        · have hb1 := (by'.mul hlb).sub (b2.mul b3)
          rw [hab]
          exact hsb hb1
      · rw [if_neg h]
        refine ⟨l.sign * (y * l), ?_, ?_⟩
        · rw [Rat.intCast_mul, Rat.intCast_mul, ← e, Rat.natCast_mul, hsg, Rat.intCast_mul]; grind
        · rw [hab]
          exact (hsb (by'.mul hlb)).mono (by omega)

theorem fct_ht {p q : List Rat} {N D E a b : Nat} (hD : 0 < D) (hE : 0 < E) (hp : HtL p D a) (hq : HtL q E b) (hl : lead q ≠ 0) (hDa : D ≤ 2 ^ a) (hEb : E ≤ 2 ^ b) (t : Nat) :
    ∀ j, ((fct p q N t * co q j).num.natAbs ≤ 2 ^ (a + (t + 1) * (b + 1)) ∧ (fct p q N t * co q j).den ≤ 2 ^ (a + (t + 1) * (b + 1))) ∧ (fct p q N t).num.natAbs ≤ 2 ^ (a + (t + 1) * (b + 1)) ∧ (fct p q N t).den ≤ 2 ^ (a + (t + 1) * (b + 1)) := by
  intro j
  obtain ⟨Dt, h1, h2, h3⟩ := RS_ht hD hE hp hq hl hDa (N := N) t
  obtain ⟨l, hle, hlb⟩ := hq (q.length - 1)
  rw [← lead_eq] at hle
  have hl0 : l ≠ 0 := by
    intro h0
    rw [h0] at hle
    have := natCast_ne hE
    rcases Rat.mul_eq_zero.mp hle with h | h
    · exact this h
    · exact hl h
  have hla : 0 < l.natAbs := by omega
  have hab : a + (t + 1) * (b + 1) = (a + t * (b + 1)) + b + 1 := by rw [Nat.succ_mul]; omega
  have hDl : Dt * l.natAbs ≤ 2 ^ (a + (t + 1) * (b + 1)) := by
    have := Nat.mul_le_mul h2 hlb
    rw [← Nat.pow_add] at this
    exact Nat.le_trans this (Nat.pow_le_pow_right (by omega) (by omega))
  have hsg : ((l.natAbs : Nat) : Rat) = ((l.sign * l : Int) : Rat) := by
    have : ((l.natAbs : Nat) : Int) = l.sign * l := sign_abs l
    rw [← this]; rfl
  have hsb : ∀ {z : Int} {m : Nat}, B z m → B (l.sign * z) m := by
    intro z m hz
    unfold B at *
    rw [Int.natAbs_mul]
    have : l.sign.natAbs = 1 := by rw [Int.natAbs_sign]; simp [hl0]
    rw [this, Nat.one_mul]; exact hz
  obtain ⟨y2, e2, b2⟩ := h3 (N - 1 - t + q.length - 1)
  obtain ⟨y3, e3, b3⟩ := hq j
  have hEne := natCast_ne hE
  refine ⟨num_den_le (y := l.sign * (y2 * y3)) (Nat.mul_pos h1 hla) hDl ?_ ?_, num_den_le (y := l.sign * (y2 * (E : Int))) (Nat.mul_pos h1 hla) hDl ?_ ?_⟩
  · rw [Rat.intCast_mul, Rat.intCast_mul, ← e2, ← e3, Rat.natCast_mul, hsg, Rat.intCast_mul, ← hle]
    unfold fct; grind
  · rw [hab]; exact (hsb (b2.mul b3)).mono (by omega)
  · rw [Rat.intCast_mul, Rat.intCast_mul, ← e2, Rat.natCast_mul, hsg, Rat.intCast_mul, ← hle]
    have : ((E : Int) : Rat) = (E : Rat) := rfl
    rw [this]
    unfold fct; grind
  · have hE2 : B (E : Int) b := by unfold B; rw [Int.natAbs_natCast]; exact hEb
    rw [hab]; exact (hsb (b2.mul hE2)).mono (by omega)
end Ma
/-! Euclid's way with sizes. -/
namespace Ma
open AlOne

theorem monic_map {p : List Rat} (h : Tr p) : (p.map fun c => c / lead p) = monic p := by
  by_cases hp : p = []
  · subst hp; rfl
  · have hl := lead_ne h hp
    have e : (p.map fun c => c / lead p) = p.map fun c => 1 / lead p * c := List.map_congr_left fun c _ => by grind
    unfold monic scale
    rw [← e]
    symm
    refine tr_of_lead fun _ => ?_
    have : lead (p.map fun c => c / lead p) = lead p / lead p := by
      rw [lead_eq, List.length_map]
      unfold co
      rw [List.getD_eq_getElem?_getD, List.getElem?_map]
      have hlen := pos_len hp
      have h2 : p[p.length - 1]? = some (lead p) := by
        rw [List.getElem?_eq_getElem (by omega)]
        have := lead_eq p
        unfold co at this
        rw [List.getD_eq_getElem?_getD, List.getElem?_eq_getElem (by omega)] at this
        rw [this]; rfl
      rw [h2]; rfl
    rw [this]
    have : lead p / lead p = 1 := by grind
    rw [this]; decide

theorem monic_len {p : List Rat} (h : Tr p) : (monic p).length = p.length := by
  rw [← monic_map h, List.length_map]
theorem tr_monic (p : List Rat) : Tr (monic p) := tr_scale _ _

theorem htP_monic {r : List Rat} {a : Nat} (ht : Tr r) (hne : r ≠ []) (h : HtP r a) : HtP (monic r) a := by
  obtain ⟨D, h1, h2, h3⟩ := h
  have hl := lead_ne ht hne
  obtain ⟨l, hle, hlb⟩ := h3 (r.length - 1)
  rw [← lead_eq] at hle
  have hD := natCast_ne h1
  have hl0 : l ≠ 0 := by
    intro h0
    rw [h0] at hle
    rcases Rat.mul_eq_zero.mp hle with h | h
    · exact hD h
    · exact hl h
  refine ⟨l.natAbs, by omega, hlb, fun i => ?_⟩
  obtain ⟨y, e, by'⟩ := h3 i
  refine ⟨l.sign * y, ?_, ?_⟩
  · have hm : co (monic r) i = 1 / lead r * co r i := co_scale _ _ _
    have hsg : ((l.natAbs : Nat) : Rat) = ((l.sign * l : Int) : Rat) := by rw [← sign_abs l]; rfl
    rw [hm, hsg, Rat.intCast_mul, Rat.intCast_mul, ← hle, ← e]
    grind
  · unfold B at *
    rw [Int.natAbs_mul]
    have : l.sign.natAbs = 1 := by rw [Int.natAbs_sign]; simp [hl0]
    rw [this, Nat.one_mul]; exact by'

theorem monic_one {r : List Rat} (ht : Tr r) (h : r.length = 1) : monic r = [1] := by
  rw [← monic_map ht]
  match r, h, ht with
  | [c], _, ht =>
    have hc := tr_one_ne ht
    show [c / lead [c]] = [1]
    have : lead [c] = c := rfl
    rw [this]
    have : c / c = 1 := by grind
    rw [this]

theorem htP_one (a : Nat) : HtP [1] a := by
  refine ⟨1, by omega, Nat.one_le_two_pow, fun i => ?_⟩
  have h1 : (((1 : Nat) : Rat)) = 1 := rfl
  cases i with
  | zero => exact ⟨1, by rw [h1]; simp [co], by unfold B; exact Nat.one_le_two_pow⟩
  | succ i => exact ⟨0, by simp [co], B.zero _⟩
theorem htP_nil (a : Nat) : HtP [] a := ⟨1, by omega, Nat.one_le_two_pow, fun i => ⟨0, by simp [co], B.zero _⟩⟩

theorem rest_spec {p q : List Rat} (hp : Tr p) (hq : Tr q) (hne : q ≠ []) : ∃ s : P, mk p = s * mk q + mk (rest p q) ∧ Tr (rest p q) ∧ (rest p q).length < q.length := by
  have h0 : mk q ≠ 0 := by
    intro e
    have := P.eq_zero_iff.mp e
    rw [mk_tr hq] at this
    exact hne this
  obtain ⟨s, r, e1, e2, e3⟩ := divMod_spec (mk p) (mk q) h0
  rw [mk_tr hp, mk_tr hq] at e1
  have er : rest p q = r.1 := by unfold rest; rw [e1]
  have em : mk (rest p q) = r := Subtype.ext (by show trim (rest p q) = _; rw [er]; exact r.2)
  refine ⟨s, by rw [em]; exact e2, by rw [er]; exact r.2, ?_⟩
  have : (mk q).len = q.length := by show (trim q).length = _; rw [hq]
  rw [er]
  show r.len < _
  omega

theorem rest_ht {p q : List Rat} {a b : Nat} (hp : Tr p) (hq : Tr q) (hne : q ≠ []) (hpa : HtP p a) (hqb : HtP q b) : HtP (rest p q) (a + (p.length + 1 - q.length) * (b + 1)) := by
  by_cases hlt : p.length < q.length
  · have : rest p q = p := by unfold rest; rw [div_short hp hq hlt]
    rw [this]
    exact hpa.mono (by omega)
  · have hl := lead_ne hq hne
    have hql := pos_len hne
    obtain ⟨D, hD, hDa, hpl⟩ := hpa
    obtain ⟨E, hE, hEb, hqll⟩ := hqb
    obtain ⟨Dt, h1, h2, h3⟩ := RS_ht hD hE hpl hqll hl hDa (N := p.length + 1 - q.length) (p.length + 1 - q.length)
    have hd := div_done (N := p.length + 1 - q.length) (by omega) hne hl hp hq
    have er : rest p q = trim (RL p q (p.length + 1 - q.length) (p.length + 1 - q.length)) := by unfold rest; rw [hd]
    refine ⟨Dt, h1, h2, fun k => ?_⟩
    rw [er, co_trim]
    unfold RL
    rw [co_range_map]
    split
    · exact h3 k
    · exact ⟨0, by simp, B.zero _⟩

/-- sizes all the way down: lengths m, k; bits a, b -/
def okE (lim : Nat) : Nat → Nat → Nat → Nat → Nat → Bool
  | 0, _, _, _, _ => false
  | f + 1, m, k, a, b => if k = 0 then decide (a ≤ lim) else
    decide (a + (m + 1 - k) * (b + 1) ≤ lim) && decide (b ≤ lim) && (List.range k).all fun k' => okE lim f k k' b (if k' ≤ 1 then 0 else a + (m + 1 - k) * (b + 1))

/-- one turn keeps what goes into both -/
theorem euc_turn {p q : List Rat} (hp : Tr p) (hq : Tr q) (hne : q ≠ []) (h : P) :
    (P.Dvd h (mk q) ∧ P.Dvd h (mk (monic (rest p q)))) ↔ (P.Dvd h (mk p) ∧ P.Dvd h (mk q)) := by
  obtain ⟨s, e, hr, _⟩ := rest_spec hp hq hne
  have hm : ∀ r : List Rat, Tr r → (P.Dvd h (mk (monic r)) ↔ P.Dvd h (mk r)) := by
    intro r hr
    by_cases h0 : r = []
    · subst h0; exact Iff.rfl
    · have n0 : mk r ≠ 0 := by
        intro e
        have := P.eq_zero_iff.mp e
        rw [mk_tr hr] at this
        exact h0 this
      have ms := mon_spec n0
      have em : mk (monic r) = mon (mk r) := by
        apply Subtype.ext
        show trim (monic r) = monic (trim r)
        rw [hr]; exact tr_monic r
      rw [em]
      exact ⟨fun hd => hd.trans ms.2.2.1, fun hd => hd.trans ms.2.2.2⟩
  rw [hm _ hr]
  constructor
  · rintro ⟨h1, h2⟩
    refine ⟨?_, h1⟩
    rw [e]; exact (h1.mul s).add h2
  · rintro ⟨h1, h2⟩
    refine ⟨h2, ?_⟩
    have : mk (rest p q) = mk p - s * mk q := by grind
    rw [this]; exact h1.sub (h2.mul s)

/-- at the end: what they have in common -/
theorem euc_done {p q L : List Rat} (hL : Tr L) (hp : Tr p) (hq : Tr q) (h : ∀ h : P, (P.Dvd h (mk L) ∧ P.Dvd h (mk [])) ↔ (P.Dvd h (mk p) ∧ P.Dvd h (mk q))) : monic L = common p q := by
  have hz : mk [] = 0 := P.eq_zero_iff.mpr rfl
  have hcom : com (mk p) (mk q) = mon (mk L) := by
    refine com_eq ?_
    by_cases h0 : mk L = 0
    · have hd := (h 0).mp ⟨by rw [h0]; exact P.Dvd.refl 0, by rw [hz]; exact P.Dvd.refl 0⟩
      rw [h0, mon_zero, hd.1.of_zero, hd.2.of_zero]
      exact ⟨P.Dvd.refl 0, P.Dvd.refl 0, fun h h1 _ => h1, Or.inl rfl⟩
    · have ms := mon_spec h0
      have hd := (h (mon (mk L))).mp ⟨ms.2.2.1, by rw [hz]; exact P.Dvd.zero _⟩
      exact ⟨hd.1, hd.2, fun g h1 h2 => ((h g).mpr ⟨h1, h2⟩).1.trans ms.2.2.2, Or.inr ms.1⟩
  have := congrArg Subtype.val hcom
  have e1 : (com (mk p) (mk q)).1 = common p q := by
    show common (trim p) (trim q) = _
    rw [hp, hq]
  have e2 : (mon (mk L)).1 = monic L := by
    show monic (trim L) = _
    rw [hL]
  rw [e1, e2] at this
  exact this.symm
end Ma
/-! A determinant column by column, with sizes. -/
namespace Ma
open AlOne

/-- the terms along the first row -/
def terms (n : Nat) (M : Mat) : List P := ((M.headD []).zip (List.range (n + 1))).map fun x => term (x.1 * detP n (M.tail.map fun r => r.eraseIdx x.2)) x.2
def tot (n : Nat) (M : Mat) (j : Nat) : P := ((terms n M).take j).foldl (· + ·) 0
theorem tot_all (n : Nat) (M : Mat) {j : Nat} (h : (M.headD []).length ≤ j) : tot n M j = detP (n + 1) M := by
  unfold tot
  rw [List.take_of_length_le]
  · rfl
  · unfold terms
    generalize M.headD [] = r at *
    simp; omega
theorem terms_get {n : Nat} {M : Mat} {j : Nat} {e : P} (hl : (M.headD []).length = n + 1) (h : (M.headD [])[j]? = some e) :
    (terms n M)[j]? = some (term (e * detP n (M.tail.map fun r => r.eraseIdx j)) j) := by
  have hj := (List.getElem?_eq_some_iff.mp h).1
  unfold terms
  rw [List.getElem?_map]
  generalize M.headD [] = r at *
  have : (r.zip (List.range (n + 1)))[j]? = some (e, j) := by
    rw [List.getElem?_eq_getElem (by simp; omega), List.getElem_zip]
    obtain ⟨h1, h2⟩ := List.getElem?_eq_some_iff.mp h
    simp [h2]
  rw [this]; rfl
theorem tot_succ {n : Nat} {M : Mat} {j : Nat} {e : P} (hl : (M.headD []).length = n + 1) (h : (M.headD [])[j]? = some e) :
    tot n M (j + 1) = tot n M j + term (e * detP n (M.tail.map fun r => r.eraseIdx j)) j := by
  unfold tot
  rw [List.take_add_one, terms_get hl h, List.foldl_append]; rfl
theorem term_zero (j : Nat) (d : P) : term (0 * d) j = 0 := by
  unfold term
  split <;> grind

structure GoodMat (n : Nat) (M : Mat) : Prop where
  rows : M.length = n
  wid : ∀ r ∈ M, r.length = n
  good : ∀ r ∈ M, ∃ D, 0 < D ∧ D ≤ 2 ^ 80 ∧ ∀ p ∈ r, p.len ≤ 2 ∧ HtD p D 100

theorem GoodMat.erase {n : Nat} {M : Mat} (h : GoodMat (n + 1) M) {j : Nat} (hj : j < n + 1) : GoodMat n (M.tail.map fun r => r.eraseIdx j) := by
  refine ⟨by have := h.rows; simp; omega, ?_, ?_⟩
  · intro r hr
    rw [List.mem_map] at hr
    obtain ⟨t, ht, e⟩ := hr
    have := h.wid t (List.mem_of_mem_tail ht)
    rw [← e, List.length_eraseIdx_of_lt (by omega)]; omega
  · intro r hr
    rw [List.mem_map] at hr
    obtain ⟨t, ht, e⟩ := hr
    obtain ⟨D, h1, h2, h3⟩ := h.good t (List.mem_of_mem_tail ht)
    exact ⟨D, h1, h2, fun p hp => h3 p (by rw [← e] at hp; exact (List.eraseIdx_sublist _ _).subset hp)⟩

theorem HtD.htL {p : P} {D m : Nat} (h : HtD p D m) : HtL p.1 D m := htD_iff.mp h
theorem Ht.htP {p : P} {a : Nat} (h : Ht p a) : HtP p.1 a := by
  rw [htP_iff]
  have : mk p.1 = p := Subtype.ext p.2
  rw [this]; exact h

/-- sizes of one determinant of at most 4 rows: what makes it whole, its bits -/
theorem GoodMat.det {n : Nat} {M : Mat} (h : GoodMat n M) (hn : n ≤ 4) : ∃ E, 0 < E ∧ E ≤ 2 ^ 320 ∧ HtD (detP n M) E 418 ∧ (detP n M).len ≤ 5 := by
  obtain ⟨Ds, h1, h2, h3, h4⟩ := rows_exist M h.good
  refine ⟨prod Ds, prod_pos h3, ?_, (htD_det n M Ds h.rows h1).mono ?_, (det_ht hn h.rows h.good).2⟩
  · refine Nat.le_trans (prod_le h4) (Nat.pow_le_pow_right (by omega) ?_)
    rw [h2, h.rows]
    have : 80 * n ≤ 80 * 4 := Nat.mul_le_mul_left _ hn
    omega
  · have := bt_mono (m0 := 100) hn
    have e : bt 100 4 = 418 := by decide
    omega

theorem len_tot {n : Nat} {M : Mat} (h : GoodMat (n + 1) M) (hn : n + 1 ≤ 4) (j : Nat) : (tot n M j).len ≤ 6 := by
  unfold tot
  refine len_foldl _ _ (by rw [P.len_zero]; omega) ?_
  intro p hp
  have hp := List.mem_of_mem_take hp
  unfold terms at hp
  rw [List.mem_map] at hp
  obtain ⟨x, hx, e⟩ := hp
  rw [← e, len_term]
  have hx1 : x.1 ∈ M.headD [] := (List.of_mem_zip (a := x.1) (b := x.2) hx).1
  have hx2 : x.2 < n + 1 := by have := (List.of_mem_zip (a := x.1) (b := x.2) hx).2; simpa using this
  have hM : M.headD [] ∈ M := by
    cases M with
    | nil => simp at hx1
    | cons r M => simp
  obtain ⟨D, h1, h2, h3⟩ := h.good _ hM
  obtain ⟨E, _, _, _, hl⟩ := (h.erase hx2).det (by omega)
  have := len_mul_le (h3 x.1 hx1).1 (b := 4) hl
  omega

/-- a sum along the first row -/
theorem ht_tot {n : Nat} {M : Mat} (h : GoodMat (n + 1) M) (hn : n + 1 ≤ 4) (j : Nat) : Ht (tot n M j) 530 := by
  cases M with
  | nil => have := h.rows; simp at this
  | cons r M =>
    obtain ⟨D, h1, h2, h3⟩ := h.good r (by simp)
    obtain ⟨Ds, g1, g2, g3, g4⟩ := rows_exist M (fun s hs => h.good s (by simp [hs]))
    have hM : M.length = n := by have := h.rows; simpa using this
    have hp := prod_le g4
    have hb : D * prod Ds ≤ 2 ^ 530 := by
      have := Nat.mul_le_mul h2 hp
      rw [← Nat.pow_add] at this
      refine Nat.le_trans this (Nat.pow_le_pow_right (by omega) ?_)
      rw [g2, hM]
      have : 80 * n ≤ 80 * 3 := Nat.mul_le_mul_left _ (by omega)
      omega
    have hbt : bt 100 n ≤ 312 := by
      have := bt_mono (m0 := 100) (show n ≤ 3 by omega)
      have e : bt 100 3 = 312 := by decide
      omega
    have := htD_foldl (D := D * prod Ds) (t := 100 + bt 100 n + 2) ((terms n (r :: M)).take j) 0 0 (HtD.zero _ _) (by
      intro p hp
      have hp := List.mem_of_mem_take hp
      unfold terms at hp
      rw [List.mem_map] at hp
      obtain ⟨x, hx, e⟩ := hp
      rw [← e]
      have hx1 : x.1 ∈ r := (List.of_mem_zip (a := x.1) (b := x.2) hx).1
      have ih := htD_det n (M.map fun r => r.eraseIdx x.2) Ds (by simpa using hM) (rowsD_erase x.2 M Ds g1)
      exact htD_term ((h3 x.1 hx1).2.mul ih (h3 x.1 hx1).1 h1) _)
    have hlen : ((terms n (r :: M)).take j).length ≤ 4 := by
      unfold terms
      simp only [List.length_take, List.length_map, List.length_zip, List.length_range, List.headD_cons]
      omega
    exact this.ht (Nat.mul_pos h1 (prod_pos g3)) hb (by omega)

theorem neg_map {p : List Rat} (h : Tr p) : (p.map fun c => -c) = neg p := by
  unfold neg scale
  have e : (p.map fun c => -c) = p.map fun c => -1 * c := List.map_congr_left fun c _ => by grind
  rw [← e]
  symm
  refine tr_of_lead fun hne => ?_
  have hp : p ≠ [] := by intro e; rw [e] at hne; exact hne rfl
  have hl := lead_ne h hp
  have : lead (p.map fun c => -c) = - lead p := by
    rw [lead_eq, lead_eq, List.length_map]
    unfold co
    rw [List.getD_eq_getElem?_getD, List.getElem?_map, List.getD_eq_getElem?_getD]
    cases p[p.length - 1]? with
    | none => show (0 : Rat) = -0; grind
    | some c => rfl
  rw [this]; grind
end Ma
/-! Sizes on the way to the forms. -/
namespace Ma
open AlOne

theorem okE_minors : ∀ m, m ≤ 4 → ∀ k, k ≤ 4 → okE 4400 10 m k (if m = 4 then 312 else 492) 312 = true := by decide +kernel
theorem okE_char : ∀ k, k ≤ 5 → okE 4400 10 0 k 0 418 = true := by decide +kernel

/-- determinants of at most 3 rows -/
theorem det_ht3 {R : Mat} {k : Nat} (hk : k ≤ 3) (h : GoodMat k R) : Ht (detP k R) 312 ∧ (detP k R).len ≤ 4 := by
  obtain ⟨Ds, h1, h2, h3, h4⟩ := rows_exist R h.good
  have hd := htD_det k R Ds h.rows h1
  refine ⟨hd.ht (prod_pos h3) ?_ ?_, ?_⟩
  · refine Nat.le_trans (prod_le h4) (Nat.pow_le_pow_right (by omega) ?_)
    rw [h2, h.rows]
    have : 80 * k ≤ 80 * 3 := Nat.mul_le_mul_left _ hk
    omega
  · have := bt_mono (m0 := 100) hk
    have e : bt 100 3 = 312 := by decide
    omega
  · have hw : ∀ (R : Mat), (∀ r ∈ R, ∃ D, 0 < D ∧ D ≤ 2 ^ 80 ∧ ∀ p ∈ r, p.len ≤ 2 ∧ HtD p D 100) → Rws R (List.replicate R.length 1) := by
      intro R
      induction R with
      | nil => intro _; exact trivial
      | cons r R ih =>
        intro h
        obtain ⟨D, _, _, h5⟩ := h r (by simp)
        exact ⟨fun p hp => (h5 p hp).1, ih fun s hs => h s (by simp [hs])⟩
    have := len_det k R _ h.rows (hw R h.good)
    rw [h.rows] at this
    simp at this
    omega

theorem good_lessP {n : Nat} {t : Al09.Table} (h : Sq n t) (hn : n ≤ 4) (hs : SmallT t) : GoodMat n (lessP t) :=
  ⟨(lessP_isX h).rows, (lessP_isX h).wid, lessP_good h hn hs⟩

theorem minor_ht3 {n : Nat} {a : Al09.Table} (h : Sq n a) (hn : n ≤ 4) (hs : SmallT a) {k : Nat} (hk : k ≤ 3) {p : P} (hp : p ∈ minorsP a k) : Ht p 312 ∧ p.len ≤ 4 := by
  obtain ⟨R, S, h1, h2, h3, h4, e⟩ := mem_minors.mp hp
  rw [e]
  refine det_ht3 hk ⟨by unfold pick; simpa using h2, ?_, pick_good fun r hr => lessP_good h hn hs r (h1.subset hr)⟩
  intro r hr
  unfold pick at hr
  rw [List.mem_map] at hr
  obtain ⟨t, _, e2⟩ := hr
  rw [← e2, List.length_map, h4]

/-- what some have in common, sharper -/
theorem comL_ht2 {b : Nat} {l : List P} (h : ∀ p ∈ l, Ht p b ∧ p.len ≤ 5) : Ht (comL l 0) (b + 180) ∧ ∀ m, (∀ p ∈ l, p.len ≤ m) → (comL l 0).len ≤ m ∧ ((comL l 0).len = m → Ht (comL l 0) b) := by
  have c := comL_spec l 0
  by_cases h0 : comL l 0 = 0
  · rw [h0]; exact ⟨ht_zero _, fun m _ => ⟨by rw [P.len_zero]; omega, fun _ => ht_zero _⟩⟩
  · have hex : ∃ p ∈ l, p ≠ 0 := by
      apply Classical.byContradiction
      intro hn
      apply h0
      have : P.Dvd 0 (comL l 0) := c.all 0 (P.Dvd.zero 0) (fun p hp => by
        have : p = 0 := Classical.byContradiction fun hp0 => hn ⟨p, hp, hp0⟩
        rw [this]; exact P.Dvd.zero 0)
      exact this.of_zero
    obtain ⟨p, hp, hp0⟩ := hex
    have hl : (comL l 0).ld = 1 := by
      rcases c.top with h1 | h1
      · rcases h1 with h1 | h1
        · exact absurd h1 h0
        · exact h1
      · rw [h1] at hp; simp at hp
    have hpp := h p hp
    refine ⟨ht_dvd2 hp0 hpp.2 hpp.1 hl (c.each p hp), fun m hm => ⟨Nat.le_trans (P.Dvd.len (c.each p hp) hp0) (hm p hp), fun he => ?_⟩⟩
    -- of full length: it's the first one by its top number
    obtain ⟨f, hf⟩ := c.each p hp
    have hf0 : f ≠ 0 := by intro e; apply hp0; rw [hf, e]; grind
    have hlen := P.len_mul h0 hf0
    rw [← hf] at hlen
    have := P.len_pos hf0
    have := hm p hp
    have hc := P.len_pos h0
    have hf1 : f.len = 1 := by omega
    have hmon : comL l 0 = mon p := by
      have ms := mon_spec hp0
      refine P.dvd_antisymm ((c.each p hp).trans ms.2.2.2) ?_ (by rw [hl, ms.1])
      have hcst := P.eq_cst hf1
      have hfl := P.ld_ne hf0
      refine ms.2.2.1.trans ⟨P.cst (1 / f.ld), ?_⟩
      rw [hf, hcst]
      have e1 : P.cst f.ld * P.cst (1 / f.ld) = 1 := by
        rw [cst_mul]
        have : f.ld * (1 / f.ld) = ((1 : Nat) : Rat) := by
          have h1 : (((1 : Nat) : Rat)) = 1 := rfl
          rw [h1]; grind
        rw [this]; rfl
      have e2 : (P.cst f.ld).ld = f.ld := P.ld_cst _
      rw [e2]
      grind
    rw [hmon]
    have hP := Ht.htP hpp.1
    have := htP_monic p.2 (fun e => hp0 (P.eq_zero_iff.mpr e)) hP
    rw [htP_iff] at this
    have e3 : mk (monic p.1) = mon p := Subtype.ext (tr_monic p.1)
    rw [e3] at this
    exact this

theorem dP_ht {n : Nat} {a : Al09.Table} (h : Sq n a) (hn : n ≤ 4) (hs : SmallT a) {k : Nat} (hk : k ≤ n) : Ht (dP a k) 598 ∧ (dP a k).len ≤ 5 := by
  have hc : charP a ∈ minorsP a n := by rw [minors_last h]; simp
  have hcc := minor_ht h hn hs hc
  exact ⟨ht_dvd2 (charP_ne h) hcc.2 hcc.1 (dP_ld h hk) (dP_char h hk), Nat.le_trans (P.Dvd.len (dP_char h hk) (charP_ne h)) hcc.2⟩
theorem fP_ht {n : Nat} {a : Al09.Table} (h : Sq n a) (hn : n ≤ 4) (hs : SmallT a) {k : Nat} (hk : k < n) : Ht (fP a k) 598 ∧ (fP a k).len ≤ 5 := by
  have f := fP_all h hk
  have hc : charP a ∈ minorsP a n := by rw [minors_last h]; simp
  have hcc := minor_ht h hn hs hc
  exact ⟨ht_dvd2 (charP_ne h) hcc.2 hcc.1 f.2.1 f.2.2.2, Nat.le_trans (P.Dvd.len f.2.2.2 (charP_ne h)) hcc.2⟩
end Ma
namespace Ma
/-! tables by their places -/
/-- what stands at a place; 0 beyond -/
def E (M : List (List Rat)) (i j : Nat) : Rat := (M[i]?.getD []).getD j 0
theorem E_of {M : List (List Rat)} {i j : Nat} {r : List Rat} {c : Rat} (h1 : M[i]? = some r) (h2 : r[j]? = some c) : E M i j = c := by
  unfold E
  rw [h1]
  show r.getD j 0 = c
  rw [List.getD_eq_getElem?_getD, h2]; rfl
theorem Sq.row {n : Nat} {M : List (List Rat)} (h : Sq n M) {i : Nat} (hi : i < n) : ∃ r, M[i]? = some r ∧ r.length = n := by
  have hi' : i < M.length := by rw [h.rows]; exact hi
  exact ⟨M[i], List.getElem?_eq_getElem hi', h.wid _ (List.getElem_mem hi')⟩
theorem Sq.ext {n : Nat} {M M' : List (List Rat)} (h : Sq n M) (h' : Sq n M') (e : ∀ i j, i < n → j < n → E M i j = E M' i j) : M = M' := by
  apply List.ext_getElem?
  intro i
  by_cases hi : i < n
  · obtain ⟨r, hr, lr⟩ := h.row hi
    obtain ⟨r', hr', lr'⟩ := h'.row hi
    rw [hr, hr']
    congr 1
    apply List.ext_getElem
    · rw [lr, lr']
    · intro j h1 h2
      have := e i j hi (by omega)
      rw [E_of hr (List.getElem?_eq_getElem h1), E_of hr' (List.getElem?_eq_getElem h2)] at this
      exact this
  · rw [List.getElem?_eq_none (by rw [h.rows]; omega), List.getElem?_eq_none (by rw [h'.rows]; omega)]
/-- a place set -/
def setE (M : List (List Rat)) (i j : Nat) (c : Rat) : List (List Rat) := M.set i ((M.getD i []).set j c)
theorem setE_sq {n : Nat} {M : List (List Rat)} (h : Sq n M) {i j : Nat} (hi : i < n) (c : Rat) : Sq n (setE M i j c) := by
  refine ⟨by unfold setE; rw [List.length_set]; exact h.rows, fun r hr => ?_⟩
  unfold setE at hr
  rcases List.mem_or_eq_of_mem_set hr with h1 | h1
  · exact h.wid r h1
  · obtain ⟨r0, hr0, l0⟩ := h.row hi
    rw [h1, List.length_set, List.getD_eq_getElem?_getD, hr0]; exact l0
theorem E_setE {n : Nat} {M : List (List Rat)} (h : Sq n M) {i j : Nat} (hi : i < n) (hj : j < n) (c : Rat) (i' j' : Nat) : E (setE M i j c) i' j' = if i' = i ∧ j' = j then c else E M i' j' := by
  obtain ⟨r0, hr0, l0⟩ := h.row hi
  unfold E setE
  rw [List.getElem?_set]
  by_cases h1 : i = i'
  · subst h1
    rw [if_pos rfl, if_pos (by rw [h.rows]; exact hi)]
    show ((M.getD i []).set j c).getD j' 0 = _
    rw [List.getD_eq_getElem?_getD (l := M), hr0]
    show (r0.set j c).getD j' 0 = if i = i ∧ j' = j then c else r0.getD j' 0
    rw [List.getD_eq_getElem?_getD, List.getElem?_set]
    by_cases h2 : j = j'
    · subst h2
      rw [if_pos rfl, if_pos (by omega), if_pos ⟨rfl, rfl⟩]; rfl
    · rw [if_neg h2, if_neg (fun x => h2 x.2.symm), List.getD_eq_getElem?_getD]
  · rw [if_neg h1, if_neg (fun x => h1 x.1.symm)]
theorem E_map_range (n m : Nat) (f : Nat → Nat → Rat) (i j : Nat) : E ((List.range n).map fun i => (List.range m).map fun j => f i j) i j = if i < n ∧ j < m then f i j else 0 := by
  unfold E
  rw [List.getElem?_map]
  by_cases hi : i < n
  · rw [List.getElem?_range hi]
    show ((List.range m).map fun j => f i j).getD j 0 = _
    rw [List.getD_eq_getElem?_getD, List.getElem?_map]
    by_cases hj : j < m
    · rw [List.getElem?_range hj, if_pos ⟨hi, hj⟩]; rfl
    · rw [List.getElem?_eq_none (by simpa using hj), if_neg (fun x => hj x.2)]; rfl
  · rw [List.getElem?_eq_none (by simpa using hi), if_neg (fun x => hi x.1)]
    simp
theorem sq_map_range (n : Nat) (f : Nat → Nat → Rat) : Sq n ((List.range n).map fun i => (List.range n).map fun j => f i j) := by
  refine ⟨by simp, fun r hr => ?_⟩
  rw [List.mem_map] at hr
  obtain ⟨i, _, rfl⟩ := hr
  simp
theorem sq_comp (p : List Rat) : Sq (AlOne.degree p) (Al09.companion p) := sq_map_range _ _
theorem E_comp (p : List Rat) (i j : Nat) : E (Al09.companion p) i j = if i < AlOne.degree p ∧ j < AlOne.degree p then (if j + 1 = AlOne.degree p then -(p.getD i 0) else if i = j + 1 then 1 else 0) else 0 := E_map_range _ _ _ _ _
theorem E_nil (i j : Nat) : E [] i j = 0 := by unfold E; simp
theorem getD_app_rep (r : List Rat) (m j : Nat) : (r ++ List.replicate m 0).getD j 0 = r.getD j 0 := by
  rw [List.getD_eq_getElem?_getD, List.getD_eq_getElem?_getD]
  by_cases h : j < r.length
  · rw [List.getElem?_append_left h]
  · rw [List.getElem?_append_right (by omega), List.getElem?_eq_none (l := r) (by omega), List.getElem?_replicate]
    split <;> rfl
theorem getD_rep_app (r : List Rat) (m j : Nat) : (List.replicate m 0 ++ r).getD j 0 = if j < m then 0 else r.getD (j - m) 0 := by
  rw [List.getD_eq_getElem?_getD]
  by_cases h : j < m
  · rw [List.getElem?_append_left (by simpa using h), if_pos h, List.getElem?_replicate, if_pos h]; rfl
  · rw [List.getElem?_append_right (by simpa using h), if_neg h, List.length_replicate, List.getD_eq_getElem?_getD]
theorem E_diag_cons {d : Nat} {A : List (List Rat)} (hA : Sq d A) (l : List (List (List Rat))) (i j : Nat) :
    E (Al09.diagonal (A :: l)) i j = if i < d then (if j < d then E A i j else 0) else (if j < d then 0 else E (Al09.diagonal l) (i - d) (j - d)) := by
  show E ((A.map fun r => r ++ List.replicate (Al09.diagonal l).length 0) ++ (Al09.diagonal l).map fun r => List.replicate A.length 0 ++ r) i j = _
  generalize Al09.diagonal l = b
  unfold E
  by_cases hi : i < d
  · obtain ⟨r, hr, lr⟩ := hA.row hi
    rw [if_pos hi, List.getElem?_append_left (by rw [List.length_map, hA.rows]; exact hi), List.getElem?_map, hr]
    show (r ++ List.replicate b.length 0).getD j 0 = _
    rw [getD_app_rep]
    show r.getD j 0 = if j < d then r.getD j 0 else 0
    by_cases hj : j < d
    · rw [if_pos hj]
    · rw [if_neg hj, List.getD_eq_getElem?_getD, List.getElem?_eq_none (by omega)]; rfl
  · rw [if_neg hi, List.getElem?_append_right (by rw [List.length_map, hA.rows]; omega), List.length_map, hA.rows, List.getElem?_map]
    cases hb : b[i - d]? with
    | none =>
      show ([] : List Rat).getD j 0 = if j < d then 0 else ([] : List Rat).getD (j - d) 0
      simp
    | some r =>
      show (List.replicate d 0 ++ r).getD j 0 = if j < d then 0 else r.getD (j - d) 0
      exact getD_rep_app r d j
/-- the degrees together -/
def degs (fs : List (List Rat)) : Nat := (fs.map fun f => AlOne.degree f).sum
theorem degs_snoc (fs : List (List Rat)) (f : List Rat) : degs (fs ++ [f]) = degs fs + AlOne.degree f := by
  unfold degs
  rw [List.map_append, List.sum_append]; simp
theorem degs_cons (f : List Rat) (fs : List (List Rat)) : degs (f :: fs) = AlOne.degree f + degs fs := by
  unfold degs
  rw [List.map_cons, List.sum_cons]
abbrev dia (fs : List (List Rat)) : List (List Rat) := Al09.diagonal (fs.map Al09.companion)
theorem E_dia_snoc : ∀ (fs : List (List Rat)) (f : List Rat) (i j : Nat),
    E (dia (fs ++ [f])) i j = if i < degs fs then (if j < degs fs then E (dia fs) i j else 0) else (if j < degs fs then 0 else E (Al09.companion f) (i - degs fs) (j - degs fs))
  | [], f, i, j => by
    show E (Al09.diagonal [Al09.companion f]) i j = if i < 0 then _ else if j < 0 then _ else E (Al09.companion f) (i - 0) (j - 0)
    rw [if_neg (by omega), if_neg (by omega), E_diag_cons (sq_comp f)]
    show (if i < _ then (if j < _ then _ else 0) else if j < _ then 0 else E [] _ _) = _
    rw [E_nil, Nat.sub_zero, Nat.sub_zero, E_comp]
    by_cases h1 : i < AlOne.degree f <;> by_cases h2 : j < AlOne.degree f <;> simp [h1, h2]
  | g :: fs, f, i, j => by
    show E (Al09.diagonal (Al09.companion g :: (fs ++ [f]).map Al09.companion)) i j = _
    rw [E_diag_cons (sq_comp g), degs_cons]
    show _ = if _ then (if _ then E (Al09.diagonal (Al09.companion g :: fs.map Al09.companion)) i j else 0) else _
    rw [E_diag_cons (sq_comp g)]
    have ih := E_dia_snoc fs f (i - AlOne.degree g) (j - AlOne.degree g)
    have e1 : (i - AlOne.degree g < degs fs) = (i < AlOne.degree g + degs fs) ∨ i < AlOne.degree g := by
      by_cases h : i < AlOne.degree g
      · exact .inr h
      · exact .inl (propext (by omega))
    have e2 : (j - AlOne.degree g < degs fs) = (j < AlOne.degree g + degs fs) ∨ j < AlOne.degree g := by
      by_cases h : j < AlOne.degree g
      · exact .inr h
      · exact .inl (propext (by omega))
    by_cases h1 : i < AlOne.degree g
    · have h3 : i < AlOne.degree g + degs fs := by omega
      simp only [h1, h3, if_true]
      by_cases h2 : j < AlOne.degree g
      · have h4 : j < AlOne.degree g + degs fs := by omega
        simp only [h2, h4, if_true]
      · simp only [h2, if_false]; split <;> rfl
    · by_cases h2 : j < AlOne.degree g
      · have h4 : j < AlOne.degree g + degs fs := by omega
        simp only [h1, h2, h4, if_true, if_false]; split <;> rfl
      · have e1' := e1.resolve_right h1
        have e2' := e2.resolve_right h2
        simp only [h1, h2, if_false]
        show E (dia (fs ++ [f])) _ _ = _
        rw [ih]
        simp only [e1', e2', Nat.sub_sub]
theorem sq_dia : ∀ fs : List (List Rat), Sq (degs fs) (dia fs)
  | [] => ⟨rfl, fun r hr => by cases hr⟩
  | f :: fs => by
    have ih := sq_dia fs
    have hf := sq_comp f
    rw [degs_cons]
    show Sq _ ((Al09.companion f).map (fun r => r ++ List.replicate (dia fs).length 0) ++ (dia fs).map fun r => List.replicate (Al09.companion f).length 0 ++ r)
    refine ⟨by rw [List.length_append, List.length_map, List.length_map, hf.rows, ih.rows], fun r hr => ?_⟩
    rw [List.mem_append, List.mem_map, List.mem_map] at hr
    rcases hr with ⟨r', h', rfl⟩ | ⟨r', h', rfl⟩
    · rw [List.length_append, hf.wid _ h', List.length_replicate, ih.rows]
    · rw [List.length_append, List.length_replicate, hf.rows, ih.wid _ h']
/-- one more form's table put in -/
theorem E_dia_put (fs : List (List Rat)) (f : List Rat) (hd : 0 < AlOne.degree f) (i j : Nat) :
    E (dia (fs ++ [f])) i j = if degs fs ≤ i ∧ i < degs fs + AlOne.degree f ∧ j + 1 = degs fs + AlOne.degree f then -(f.getD (i - degs fs) 0)
      else if degs fs ≤ j ∧ j + 1 < degs fs + AlOne.degree f ∧ i = j + 1 then 1 else E (dia fs) i j := by
  rw [E_dia_snoc, E_comp]
  have hz : ∀ i j, (degs fs ≤ i ∨ degs fs ≤ j) → E (dia fs) i j = 0 := by
    intro i j h
    have hs := sq_dia fs
    unfold E
    by_cases hi : i < degs fs
    · obtain ⟨r, hr, lr⟩ := hs.row hi
      rw [hr]
      show r.getD j 0 = 0
      rw [List.getD_eq_getElem?_getD, List.getElem?_eq_none (by omega)]; rfl
    · rw [List.getElem?_eq_none (by rw [hs.rows]; omega)]; simp
  by_cases hi : i < degs fs
  · have n1 : ¬ (degs fs ≤ i ∧ i < degs fs + AlOne.degree f ∧ j + 1 = degs fs + AlOne.degree f) := by omega
    have n2 : ¬ (degs fs ≤ j ∧ j + 1 < degs fs + AlOne.degree f ∧ i = j + 1) := by omega
    rw [if_pos hi, if_neg n1, if_neg n2]
    by_cases hj : j < degs fs
    · rw [if_pos hj]
    · rw [if_neg hj, hz i j (.inr (by omega))]
  · rw [if_neg hi]
    by_cases hj : j < degs fs
    · have n1 : ¬ (degs fs ≤ i ∧ i < degs fs + AlOne.degree f ∧ j + 1 = degs fs + AlOne.degree f) := by omega
      have n2 : ¬ (degs fs ≤ j ∧ j + 1 < degs fs + AlOne.degree f ∧ i = j + 1) := by omega
      rw [if_pos hj, if_neg n1, if_neg n2, hz i j (.inl (by omega))]
    · rw [if_neg hj, hz i j (.inl (by omega))]
      by_cases h1 : i - degs fs < AlOne.degree f ∧ j - degs fs < AlOne.degree f
      · rw [if_pos h1]
        by_cases h2 : j - degs fs + 1 = AlOne.degree f
        · rw [if_pos h2, if_pos (show degs fs ≤ i ∧ i < degs fs + AlOne.degree f ∧ j + 1 = degs fs + AlOne.degree f by omega)]
        · rw [if_neg h2, if_neg (show ¬ (degs fs ≤ i ∧ i < degs fs + AlOne.degree f ∧ j + 1 = degs fs + AlOne.degree f) by omega)]
          by_cases h3 : i - degs fs = j - degs fs + 1
          · rw [if_pos h3, if_pos (show degs fs ≤ j ∧ j + 1 < degs fs + AlOne.degree f ∧ i = j + 1 by omega)]
          · rw [if_neg h3, if_neg (show ¬ (degs fs ≤ j ∧ j + 1 < degs fs + AlOne.degree f ∧ i = j + 1) by omega)]
      · rw [if_neg h1, if_neg (show ¬ (degs fs ≤ i ∧ i < degs fs + AlOne.degree f ∧ j + 1 = degs fs + AlOne.degree f) by omega), if_neg (show ¬ (degs fs ≤ j ∧ j + 1 < degs fs + AlOne.degree f ∧ i = j + 1) by omega)]
end Ma
/-! A polynomial of a table: sums by places, and how large the numbers are. -/
namespace Ma
/-- a sum -/
def sm : Nat → (Nat → Rat) → Rat
  | 0, _ => 0
  | n + 1, f => sm n f + f n
theorem sm_congr {f g : Nat → Rat} : ∀ {n : Nat}, (∀ k, k < n → f k = g k) → sm n f = sm n g
  | 0, _ => rfl
  | n + 1, h => by rw [sm, sm, sm_congr fun k hk => h k (by omega), h n (by omega)]
theorem sm_add (f g : Nat → Rat) : ∀ n : Nat, sm n (fun k => f k + g k) = sm n f + sm n g
  | 0 => by simp only [sm]; grind
  | n + 1 => by rw [sm, sm, sm, sm_add f g n]; grind
theorem sm_mul (c : Rat) (f : Nat → Rat) : ∀ n : Nat, sm n (fun k => c * f k) = c * sm n f
  | 0 => by simp only [sm]; grind
  | n + 1 => by rw [sm, sm, sm_mul c f n]; grind
theorem sm_mulr (c : Rat) (f : Nat → Rat) : ∀ n : Nat, sm n (fun k => f k * c) = sm n f * c
  | 0 => by simp only [sm]; grind
  | n + 1 => by rw [sm, sm, sm_mulr c f n]; grind
theorem sm_zero : ∀ n : Nat, sm n (fun _ => 0) = 0
  | 0 => rfl
  | n + 1 => by rw [sm, sm_zero n]; grind
theorem sm_comm (f : Nat → Nat → Rat) (m : Nat) : ∀ n : Nat, sm n (fun i => sm m (fun j => f i j)) = sm m (fun j => sm n (fun i => f i j))
  | 0 => by
    show 0 = sm m (fun _ => 0)
    rw [sm_zero]
  | n + 1 => by
    rw [sm, sm_comm f m n, ← sm_add]
    exact sm_congr fun j _ => rfl
theorem sm_one {n i : Nat} (hi : i < n) (f : Nat → Rat) : sm n (fun k => if i = k then f k else 0) = f i := by
  induction n with
  | zero => omega
  | succ n ih =>
    rw [sm]
    by_cases h : i = n
    · subst h
      rw [if_pos rfl]
      have : sm i (fun k => if i = k then f k else 0) = 0 := by
        refine (sm_congr fun k hk => ?_).trans (sm_zero i)
        exact if_neg (by omega)
      rw [this]; grind
    · rw [if_neg h, ih (by omega)]; grind
theorem dot_fold : ∀ (l : List (Rat × Rat)) (s : Rat), (l.map fun (x : Rat × Rat) => x.1 * x.2).foldl (fun s y => s + y) s = l.foldl (fun s x => s + x.1 * x.2) s
  | [], s => rfl
  | x :: l, s => by rw [List.map_cons, List.foldl_cons, List.foldl_cons, dot_fold l]
/-- the first so many terms -/
theorem dot_take (r c : List Rat) : ∀ t : Nat, t ≤ r.length → t ≤ c.length → Al09.dot (r.take t) (c.take t) = sm t (fun k => r.getD k 0 * c.getD k 0)
  | 0, _, _ => rfl
  | t + 1, h1, h2 => by
    have ih := dot_take r c t (by omega) (by omega)
    rw [sm, ← ih]
    have e1 : r.take (t + 1) = r.take t ++ [r.getD t 0] := by
      rw [List.take_add_one, List.getD_eq_getElem?_getD, List.getElem?_eq_getElem (show t < r.length by omega)]; rfl
    have e2 : c.take (t + 1) = c.take t ++ [c.getD t 0] := by
      rw [List.take_add_one, List.getD_eq_getElem?_getD, List.getElem?_eq_getElem (show t < c.length by omega)]; rfl
    unfold Al09.dot
    rw [e1, e2, List.zip_append (by rw [List.length_take, List.length_take]; omega), List.map_append, List.foldl_append]
    rfl
theorem dot_sm {n : Nat} {r c : List Rat} (hr : r.length = n) (hc : c.length = n) : Al09.dot r c = sm n (fun k => r.getD k 0 * c.getD k 0) := by
  have := dot_take r c n (by omega) (by omega)
  rw [List.take_of_length_le (by omega), List.take_of_length_le (by omega)] at this
  exact this
theorem col_getD {n : Nat} {b : List (List Rat)} (j k : Nat) : (Al09.column j b).getD k 0 = E b k j := by
  unfold Al09.column E
  rw [List.getD_eq_getElem?_getD, List.getElem?_map]
  cases h : b[k]? with
  | none => simp
  | some r => rfl
theorem col_len (j : Nat) (b : List (List Rat)) : (Al09.column j b).length = b.length := by unfold Al09.column; simp
theorem sq_times {n : Nat} {a b : List (List Rat)} (ha : Sq n a) (hb : Sq n b) : Sq n (Al09.times a b) := by
  refine ⟨by unfold Al09.times; rw [List.length_map]; exact ha.rows, fun r hr => ?_⟩
  unfold Al09.times at hr
  rw [List.mem_map] at hr
  obtain ⟨x, _, rfl⟩ := hr
  rw [List.length_map, List.length_range]; exact hb.rows
theorem E_times {n : Nat} {a b : List (List Rat)} (ha : Sq n a) (hb : Sq n b) {i j : Nat} (hi : i < n) (hj : j < n) : E (Al09.times a b) i j = sm n (fun k => E a i k * E b k j) := by
  obtain ⟨r, hr, lr⟩ := ha.row hi
  have h1 : (Al09.times a b)[i]? = some ((List.range b.length).map fun j => Al09.dot r (Al09.column j b)) := by
    unfold Al09.times
    rw [List.getElem?_map, hr]; rfl
  have h2 : ((List.range b.length).map fun j => Al09.dot r (Al09.column j b))[j]? = some (Al09.dot r (Al09.column j b)) := by
    rw [List.getElem?_map, List.getElem?_range (by rw [hb.rows]; exact hj)]; rfl
  rw [E_of h1 h2, dot_sm lr (by rw [col_len, hb.rows])]
  refine sm_congr fun k _ => ?_
  rw [col_getD (n := n)]
  congr 1
  unfold E
  rw [hr]; rfl
theorem sq_unit (n : Nat) : Sq n (Al09.unit n) := sq_map_range n _
theorem E_unit {n i j : Nat} (hi : i < n) (hj : j < n) : E (Al09.unit n) i j = if i = j then 1 else 0 := by
  have := E_map_range n n (fun i j => if i = j then (1 : Rat) else 0) i j
  rw [if_pos ⟨hi, hj⟩] at this
  exact this
theorem sq_stretch {n : Nat} (c : Rat) {a : List (List Rat)} (ha : Sq n a) : Sq n (Al09.stretch c a) := by
  refine ⟨by unfold Al09.stretch; rw [List.length_map]; exact ha.rows, fun r hr => ?_⟩
  unfold Al09.stretch at hr
  rw [List.mem_map] at hr
  obtain ⟨x, hx, rfl⟩ := hr
  rw [List.length_map]; exact ha.wid x hx
theorem E_stretch (c : Rat) (a : List (List Rat)) (i j : Nat) : E (Al09.stretch c a) i j = c * E a i j := by
  unfold E Al09.stretch
  rw [List.getElem?_map]
  cases h : a[i]? with
  | none => simp
  | some r =>
    show (r.map fun x => c * x).getD j 0 = c * r.getD j 0
    rw [List.getD_eq_getElem?_getD, List.getElem?_map, List.getD_eq_getElem?_getD]
    cases r[j]? with
    | none => show (0 : Rat) = c * 0; grind
    | some x => rfl
theorem sq_plus {n : Nat} {a b : List (List Rat)} (ha : Sq n a) (hb : Sq n b) : Sq n (Al09.plus a b) := by
  refine ⟨by unfold Al09.plus; rw [List.length_map, List.length_zip, ha.rows, hb.rows, Nat.min_self], fun r hr => ?_⟩
  unfold Al09.plus at hr
  rw [List.mem_map] at hr
  obtain ⟨x, hx, rfl⟩ := hr
  have h1 := List.of_mem_zip hx
  rw [List.length_map, List.length_zip, ha.wid _ h1.1, hb.wid _ h1.2, Nat.min_self]
theorem E_plus {n : Nat} {a b : List (List Rat)} (ha : Sq n a) (hb : Sq n b) {i j : Nat} (hi : i < n) (hj : j < n) : E (Al09.plus a b) i j = E a i j + E b i j := by
  obtain ⟨r, hr, lr⟩ := ha.row hi
  obtain ⟨s, hs, ls⟩ := hb.row hi
  have hjr : j < r.length := by omega
  have hjs : j < s.length := by omega
  have h1 : (Al09.plus a b)[i]? = some ((r.zip s).map fun (y : Rat × Rat) => y.1 + y.2) := by
    unfold Al09.plus
    rw [List.getElem?_map, List.getElem?_zip_eq_some (z := (r, s)) |>.mpr ⟨hr, hs⟩]; rfl
  have h2 : ((r.zip s).map fun (y : Rat × Rat) => y.1 + y.2)[j]? = some (r[j] + s[j]) := by
    rw [List.getElem?_map, List.getElem?_zip_eq_some (z := (r[j], s[j])) |>.mpr ⟨List.getElem?_eq_getElem hjr, List.getElem?_eq_getElem hjs⟩]; rfl
  rw [E_of h1 h2, E_of hr (List.getElem?_eq_getElem hjr), E_of hs (List.getElem?_eq_getElem hjs)]
theorem sq_zero (n : Nat) : Sq n (Al09.zero n) := by
  refine ⟨by unfold Al09.zero; simp, fun r hr => ?_⟩
  unfold Al09.zero at hr
  rw [List.mem_map] at hr
  obtain ⟨x, _, rfl⟩ := hr
  simp
theorem E_zero (n i j : Nat) : E (Al09.zero n) i j = 0 := by
  unfold E Al09.zero
  rw [List.getElem?_map]
  cases h : (List.range n)[i]? with
  | none => simp
  | some x =>
    show (List.replicate n (0 : Rat)).getD j 0 = 0
    rw [List.getD_eq_getElem?_getD, List.getElem?_replicate]
    split <;> rfl
theorem sq_valueAt {n : Nat} {a : List (List Rat)} (ha : Sq n a) : ∀ p : List Rat, Sq n (Al09.valueAt a p)
  | [] => by
    show Sq n (Al09.zero a.length)
    rw [ha.rows]; exact sq_zero n
  | c :: p => by
    show Sq n (Al09.plus (Al09.stretch c (Al09.unit a.length)) (Al09.times a (Al09.valueAt a p)))
    rw [ha.rows]
    exact sq_plus (sq_stretch c (sq_unit n)) (sq_times ha (sq_valueAt ha p))
theorem E_valueAt {n : Nat} {a : List (List Rat)} (ha : Sq n a) (c : Rat) (p : List Rat) {i j : Nat} (hi : i < n) (hj : j < n) :
    E (Al09.valueAt a (c :: p)) i j = (if i = j then c else 0) + sm n (fun k => E a i k * E (Al09.valueAt a p) k j) := by
  show E (Al09.plus (Al09.stretch c (Al09.unit a.length)) (Al09.times a (Al09.valueAt a p))) i j = _
  rw [ha.rows, E_plus (sq_stretch c (sq_unit n)) (sq_times ha (sq_valueAt ha p)) hi hj, E_stretch, E_unit hi hj, E_times ha (sq_valueAt ha p) hi hj]
  congr 1
  split <;> grind
/-- a polynomial of a table goes either side of it -/
theorem value_comm {n : Nat} {a : List (List Rat)} (ha : Sq n a) : ∀ (p : List Rat) (i j : Nat), i < n → j < n →
    sm n (fun k => E a i k * E (Al09.valueAt a p) k j) = sm n (fun k => E (Al09.valueAt a p) i k * E a k j)
  | [], i, j, hi, hj => by
    have : ∀ i j, E (Al09.valueAt a []) i j = 0 := fun i j => E_zero _ i j
    simp only [this]
    exact sm_congr fun k _ => by grind
  | c :: p, i, j, hi, hj => by
    have h1 : sm n (fun k => E a i k * E (Al09.valueAt a (c :: p)) k j) = c * E a i j + sm n (fun k => sm n (fun m => E a i k * (E a k m * E (Al09.valueAt a p) m j))) := by
      rw [← sm_one hj (fun k => c * E a i k), ← sm_add]
      refine sm_congr fun k hk => ?_
      rw [E_valueAt ha c p hk hj, sm_mul]
      by_cases h : j = k
      · rw [if_pos h.symm, if_pos h]; grind
      · rw [if_neg (fun e => h e.symm), if_neg h]; grind
    have h2 : sm n (fun k => E (Al09.valueAt a (c :: p)) i k * E a k j) = c * E a i j + sm n (fun k => sm n (fun m => E a i m * E (Al09.valueAt a p) m k * E a k j)) := by
      rw [← sm_one hi (fun k => c * E a k j), ← sm_add]
      refine sm_congr fun k hk => ?_
      rw [E_valueAt ha c p hi hk, sm_mulr]
      by_cases h : i = k
      · rw [if_pos h, if_pos h]; grind
      · rw [if_neg h, if_neg h]; grind
    rw [h1, h2]
    congr 1
    rw [sm_comm (fun k m => E a i m * E (Al09.valueAt a p) m k * E a k j)]
    refine sm_congr fun k hk => ?_
    rw [sm_mul]
    have ih := value_comm ha p k j hk hj
    rw [ih, ← sm_mul]
    exact sm_congr fun m _ => by grind
/-- the program's step -/
theorem E_valueR {n : Nat} {a : List (List Rat)} (ha : Sq n a) (c : Rat) (p : List Rat) {i j : Nat} (hi : i < n) (hj : j < n) :
    E (Al09.valueAt a (c :: p)) i j = E (Al09.times (Al09.valueAt a p) a) i j + (if i = j then c else 0) := by
  rw [E_valueAt ha c p hi hj, value_comm ha p i j hi hj, E_times (sq_valueAt ha p) ha hi hj]
  grind
/-! how large -/
/-- M times it is whole, and not above B -/
def Qb (M B : Nat) (x : Rat) : Prop := ∃ z : Int, x * (M : Rat) = (z : Rat) ∧ z.natAbs ≤ B
theorem Qb.zero (M B : Nat) : Qb M B 0 := ⟨0, by simp, Nat.zero_le _⟩
theorem Qb.mono {M B B' : Nat} {x : Rat} (h : Qb M B x) (hb : B ≤ B') : Qb M B' x := by
  obtain ⟨z, h1, h2⟩ := h
  exact ⟨z, h1, by omega⟩
theorem Qb.mul {M B M' B' : Nat} {x y : Rat} (h : Qb M B x) (h' : Qb M' B' y) : Qb (M * M') (B * B') (x * y) := by
  obtain ⟨z, h1, h2⟩ := h
  obtain ⟨w, h3, h4⟩ := h'
  refine ⟨z * w, ?_, by rw [Int.natAbs_mul]; exact Nat.mul_le_mul h2 h4⟩
  rw [Rat.natCast_mul, Rat.intCast_mul, ← h1, ← h3]; grind
theorem Qb.add {M B B' : Nat} {x y : Rat} (h : Qb M B x) (h' : Qb M B' y) : Qb M (B + B') (x + y) := by
  obtain ⟨z, h1, h2⟩ := h
  obtain ⟨w, h3, h4⟩ := h'
  refine ⟨z + w, ?_, by omega⟩
  rw [Rat.intCast_add, ← h1, ← h3]; grind
theorem Qb.scale {M B : Nat} {x : Rat} (h : Qb M B x) (k : Nat) : Qb (M * k) (B * k) x := by
  obtain ⟨z, h1, h2⟩ := h
  refine ⟨z * (k : Int), ?_, by rw [Int.natAbs_mul, Int.natAbs_natCast]; exact Nat.mul_le_mul_right _ h2⟩
  rw [Rat.natCast_mul, Rat.intCast_mul, ← h1, show ((k : Int) : Rat) = (k : Rat) from rfl]; grind
theorem Qb.sum {M B : Nat} {f : Nat → Rat} : ∀ {t : Nat}, (∀ k, k < t → Qb M B (f k)) → Qb M (t * B) (sm t f)
  | 0, _ => Qb.zero _ _
  | t + 1, h => by
    rw [Nat.succ_mul]
    exact (Qb.sum fun k hk => h k (by omega)).add (h t (by omega))
theorem mul_denQ (c : Rat) : c * (c.den : Rat) = (c.num : Rat) := by
  have hd : (c.den : Rat) ≠ 0 := by
    intro e
    exact c.den_nz (by exact_mod_cast e)
  have h : (c.num : Rat) / (c.den : Rat) = c := by
    have := Rat.num_divInt_den c
    rw [Rat.divInt_eq_div] at this
    exact this
  have h2 : (c.num : Rat) / (c.den : Rat) * (c.den : Rat) = (c.num : Rat) := Rat.div_mul_cancel hd
  rw [h] at h2
  exact h2
theorem Qb.parts {M B : Nat} {x : Rat} (hM : 0 < M) (h : Qb M B x) : x.num.natAbs ≤ B ∧ x.den ≤ M := by
  obtain ⟨z, h1, h2⟩ := h
  have hd : (x.den : Rat) ≠ 0 := by
    intro e
    exact x.den_nz (by exact_mod_cast e)
  have h3 : x.num * (M : Int) = z * (x.den : Int) := by
    have h4 : (x.num : Rat) = x * (x.den : Rat) := (mul_denQ x).symm
    have h5 : ((x.num * (M : Int) : Int) : Rat) = ((z * (x.den : Int) : Int) : Rat) := by
      rw [Rat.intCast_mul, Rat.intCast_mul, ← h1, h4, show (((M : Nat) : Int) : Rat) = (M : Rat) from rfl, show (((x.den : Nat) : Int) : Rat) = (x.den : Rat) from rfl]; grind
    exact Rat.intCast_inj.mp h5
  have h6 : x.num.natAbs * M = z.natAbs * x.den := by
    have := congrArg Int.natAbs h3
    rw [Int.natAbs_mul, Int.natAbs_mul, Int.natAbs_natCast, Int.natAbs_natCast] at this
    exact this
  have hdm : x.den ∣ M := by
    have h7 : x.den ∣ x.num.natAbs * M := ⟨z.natAbs, by rw [h6, Nat.mul_comm]⟩
    exact (Nat.Coprime.symm x.reduced).dvd_of_dvd_mul_left h7
  refine ⟨?_, Nat.le_of_dvd hM hdm⟩
  obtain ⟨q, hq⟩ := hdm
  have hdp : 0 < x.den := Nat.pos_of_ne_zero x.den_nz
  have hq0 : 0 < q := by
    rcases Nat.eq_zero_or_pos q with e | e
    · rw [e, Nat.mul_zero] at hq; omega
    · exact e
  have h8 : x.num.natAbs * q = z.natAbs := by
    rw [hq] at h6
    have : x.den * (x.num.natAbs * q) = x.den * z.natAbs := by
      rw [Nat.mul_comm x.den z.natAbs, ← h6, Nat.mul_left_comm]
    exact Nat.eq_of_mul_eq_mul_left hdp this
  have : x.num.natAbs ≤ x.num.natAbs * q := Nat.le_mul_of_pos_right _ hq0
  omega
/-- the denominators of a list, together -/
def dens (l : List Rat) : Nat := (l.map fun c => c.den).foldr (· * ·) 1
theorem dens_pos : ∀ l : List Rat, 0 < dens l
  | [] => by decide
  | c :: l => Nat.mul_pos (Nat.pos_of_ne_zero c.den_nz) (dens_pos l)
theorem dens_le {k : Nat} : ∀ {l : List Rat}, (∀ c ∈ l, c.den ≤ 2 ^ k) → dens l ≤ 2 ^ (k * l.length)
  | [], _ => by simp [dens]
  | c :: l, h => by
    have ih := dens_le (l := l) fun d hd => h d (List.mem_cons_of_mem _ hd)
    rw [List.length_cons, Nat.mul_succ, Nat.add_comm, Nat.pow_add]
    exact Nat.mul_le_mul (h c List.mem_cons_self) ih
theorem dens_dvd : ∀ {l : List Rat} {c : Rat}, c ∈ l → c.den ∣ dens l
  | d :: l, c, h => by
    rcases List.mem_cons.mp h with e | e
    · subst e; exact Nat.dvd_mul_right _ _
    · exact Nat.dvd_trans (dens_dvd e) (Nat.dvd_mul_left _ _)
theorem qb_den {c : Rat} {M B K : Nat} (hd : c.den ∣ M) (hn : c.num.natAbs ≤ B) (hM : M ≤ K) : Qb M (B * K) c := by
  obtain ⟨q, hq⟩ := hd
  refine ⟨c.num * (q : Int), ?_, ?_⟩
  · rw [hq, Rat.natCast_mul, Rat.intCast_mul, show ((q : Int) : Rat) = (q : Rat) from rfl]
    have := mul_denQ c
    rw [← this]; grind
  · rw [Int.natAbs_mul, Int.natAbs_natCast]
    have hdp : 0 < c.den := Nat.pos_of_ne_zero c.den_nz
    have : q ≤ M := by rw [hq]; exact Nat.le_mul_of_pos_left _ hdp
    exact Nat.mul_le_mul hn (by omega)
end Ma
/-! How large a polynomial of a table gets. -/
namespace Ma
theorem E_mem {n : Nat} {M : List (List Rat)} (h : Sq n M) {i j : Nat} (hi : i < n) (hj : j < n) : E M i j ∈ M.flatten := by
  obtain ⟨r, hr, lr⟩ := h.row hi
  have hj' : j < r.length := by omega
  rw [E_of hr (List.getElem?_eq_getElem hj')]
  exact List.mem_flatten.mpr ⟨r, List.mem_of_getElem? hr, List.getElem_mem hj'⟩
theorem flatten_len {n : Nat} : ∀ {M : List (List Rat)}, (∀ r ∈ M, r.length = n) → M.flatten.length = n * M.length
  | [], _ => by simp
  | r :: M, h => by
    rw [List.flatten_cons, List.length_append, flatten_len fun x hx => h x (List.mem_cons_of_mem _ hx), h r List.mem_cons_self, List.length_cons, Nat.mul_succ, Nat.add_comm]
theorem small_flat {M : List (List Rat)} (h : SmallT M) : ∀ c ∈ M.flatten, Small c := by
  intro c hc
  obtain ⟨r, hr, hc⟩ := List.mem_flatten.mp hc
  exact h r hr c hc
/-- the numbers of a table, all over one number -/
theorem tab_qb {n : Nat} {M : List (List Rat)} (h : Sq n M) (hn : n ≤ 4) (hs : SmallT M) : dens M.flatten ≤ 2 ^ 320 ∧ ∀ i j, i < n → j < n → Qb (dens M.flatten) (2 ^ 340) (E M i j) := by
  have hf := small_flat hs
  have hl : M.flatten.length ≤ 16 := by
    rw [flatten_len h.wid, h.rows]
    exact Nat.mul_le_mul hn hn
  have h1 : dens M.flatten ≤ 2 ^ 320 := by
    refine Nat.le_trans (dens_le (k := 20) fun c hc => (hf c hc).2) (Nat.pow_le_pow_right (by omega) ?_)
    have : 20 * M.flatten.length ≤ 20 * 16 := Nat.mul_le_mul_left _ hl
    omega
  refine ⟨h1, fun i j hi hj => ?_⟩
  have hm := E_mem h hi hj
  have := qb_den (dens_dvd hm) (hf _ hm).1 h1
  rw [← Nat.pow_add] at this
  exact this
theorem list_qb {p : List Rat} (hp : p.length ≤ 9) (hs : ∀ c ∈ p, Small c) : dens p ≤ 2 ^ 180 ∧ ∀ c ∈ p, Qb (dens p) (2 ^ 200) c := by
  have h1 : dens p ≤ 2 ^ 180 := by
    refine Nat.le_trans (dens_le (k := 20) fun c hc => (hs c hc).2) (Nat.pow_le_pow_right (by omega) ?_)
    have : 20 * p.length ≤ 20 * 9 := Nat.mul_le_mul_left _ hp
    omega
  refine ⟨h1, fun c hc => ?_⟩
  have := qb_den (dens_dvd hc) (hs c hc).1 h1
  rw [← Nat.pow_add] at this
  exact this
theorem four_pow {n k : Nat} (hn : n ≤ 4) : n * 2 ^ k ≤ 2 ^ (k + 2) := by
  rw [Nat.pow_add, Nat.mul_comm]
  exact Nat.mul_le_mul_left _ hn
/-- the numbers of a polynomial of a table -/
theorem val_qb {n : Nat} {M : List (List Rat)} (h : Sq n M) (hn : n ≤ 4) {D Ep : Nat} (hD : D ≤ 2 ^ 320) (hM : ∀ i j, i < n → j < n → Qb D (2 ^ 340) (E M i j)) :
    ∀ q : List Rat, (∀ c ∈ q, Qb Ep (2 ^ 200) c) → ∀ i j, i < n → j < n → Qb (Ep * D ^ q.length) (2 ^ (200 + 343 * q.length)) (E (Al09.valueAt M q) i j)
  | [], _, i, j, _, _ => by
    rw [show E (Al09.valueAt M []) i j = 0 from E_zero _ i j]
    exact Qb.zero _ _
  | c :: q, hq, i, j, hi, hj => by
    have ih := val_qb h hn hD hM q fun d hd => hq d (List.mem_cons_of_mem _ hd)
    rw [E_valueAt h c q hi hj, List.length_cons]
    generalize q.length = k at ih
    have eM : Ep * D ^ (k + 1) = D * (Ep * D ^ k) := by rw [Nat.pow_succ]; grind
    have h1 : Qb (Ep * D ^ (k + 1)) (2 ^ (200 + 343 * k + 342)) (sm n (fun m => E M i m * E (Al09.valueAt M q) m j)) := by
      rw [eM]
      have : ∀ m, m < n → Qb (D * (Ep * D ^ k)) (2 ^ (200 + 343 * k + 340)) (E M i m * E (Al09.valueAt M q) m j) := by
        intro m hm
        have := (hM i m hi hm).mul (ih m j hm hj)
        rw [← Nat.pow_add] at this
        rw [show 200 + 343 * k + 340 = 340 + (200 + 343 * k) by omega]
        exact this
      exact (Qb.sum this).mono (four_pow hn)
    have h2 : Qb (Ep * D ^ (k + 1)) (2 ^ (200 + 320 * (k + 1))) (if i = j then c else 0) := by
      split
      · refine ((hq c List.mem_cons_self).scale (D ^ (k + 1))).mono ?_
        have h5 : D ^ (k + 1) ≤ 2 ^ (320 * (k + 1)) := Nat.le_trans (Nat.pow_le_pow_left hD _) (Nat.le_of_eq (Nat.pow_mul 2 320 (k + 1)).symm)
        exact Nat.le_trans (Nat.mul_le_mul_left _ h5) (Nat.le_of_eq (Nat.pow_add 2 200 (320 * (k + 1))).symm)
      · exact Qb.zero _ _
    refine (h2.add h1).mono ?_
    have h3 : (2 : Nat) ^ (200 + 320 * (k + 1)) ≤ 2 ^ (200 + 343 * k + 342) := Nat.pow_le_pow_right (by omega) (by omega)
    have h4 : (2 : Nat) ^ (200 + 343 * (k + 1)) = 2 ^ (200 + 343 * k + 342) + 2 ^ (200 + 343 * k + 342) := by
      rw [show 200 + 343 * (k + 1) = (200 + 343 * k + 342) + 1 by omega, Nat.pow_succ]; omega
    rw [h4]; omega
theorem den_bound {D Ep k m : Nat} (hD : D ≤ 2 ^ 320) (hE : Ep ≤ 2 ^ 180) (hk : 180 + 320 * k ≤ m) : Ep * D ^ k ≤ 2 ^ m := by
  have h1 : D ^ k ≤ 2 ^ (320 * k) := Nat.le_trans (Nat.pow_le_pow_left hD _) (Nat.le_of_eq (Nat.pow_mul 2 320 k).symm)
  have h2 := Nat.mul_le_mul hE h1
  rw [← Nat.pow_add] at h2
  exact Nat.le_trans h2 (Nat.pow_le_pow_right (by omega) hk)
end Ma
/-! How the program reads a number, and that it reads just what the specification reads. -/
namespace Ma

def isDig (b : Nat) : Bool := decide (48 ≤ b) && decide (b ≤ 57)
def wholeM (w : List Nat) : Option Nat := if w = [] then none else if w.headD 0 = 48 ∧ 1 < w.length then none else if w.all isDig = true then some (dval 0 w) else none

theorem wholeM_dig {w : List Nat} {n : Nat} (h : wholeM w = some n) : w = dg n := by
  unfold wholeM at h
  split at h
  · simp at h
  · rename_i h1
    split at h
    · simp at h
    · rename_i h2
      split at h
      · rename_i h3
        have hd : Dig w := by
          refine ⟨h1, fun b hb => ?_, fun hh => ?_⟩
          · have := List.all_eq_true.mp h3 b hb
            unfold isDig at this
            simpa using this
          · have hl : 0 < w.length := by cases w with
              | nil => exact absurd rfl h1
              | cons a l => simp
            apply Classical.byContradiction
            intro hn
            exact h2 ⟨hh, by omega⟩
        have := dg_dval w.length w rfl hd
        have e := Option.some.inj h
        rw [← e, this]
      · simp at h
theorem wholeM_dg (n : Nat) : wholeM (dg n) = some n := by
  have hd := dig_dg n
  unfold wholeM
  rw [if_neg hd.ne, if_neg, if_pos, dval_dg]
  · rw [List.all_eq_true]
    intro b hb
    have := hd.mem b hb
    unfold isDig; simp [this.1, this.2]
  · rintro ⟨h1, h2⟩
    have := hd.lead h1
    omega

/-- a fraction of two whole numbers with nothing in common -/
def fracM (t b : Nat) : Option Rat := if h : 2 ≤ b ∧ Nat.gcd t b = 1 then some ⟨(t : Int), b, by omega, by rw [Int.natAbs_natCast]; exact h.2⟩ else none
def unsignedM (w : List Nat) : Option Rat := if 47 ∈ w then (wholeM (w.take (w.idxOf 47))).bind fun t => (wholeM (w.drop (w.idxOf 47 + 1))).bind fun b => fracM t b else (wholeM w).map fun (n : Nat) => ((n : Nat) : Rat)

theorem idx_app {u v : List Nat} (h : 47 ∉ u) : (u ++ 47 :: v).idxOf 47 = u.length := by
  induction u with
  | nil => simp
  | cons a u ih =>
    have h1 : a ≠ 47 := fun e => h (by simp [e])
    have h2 : 47 ∉ u := fun e => h (by simp [e])
    rw [List.cons_append, List.idxOf_cons]
    have h3 : (a == 47) = false := by simp [h1]
    rw [h3, ih h2]; rfl
theorem split_idx {w : List Nat} (h : 47 ∈ w) : w = w.take (w.idxOf 47) ++ 47 :: w.drop (w.idxOf 47 + 1) := by
  have hlt := List.idxOf_lt_length_of_mem h
  have e : w.drop (w.idxOf 47) = 47 :: w.drop (w.idxOf 47 + 1) := by
    rw [List.drop_eq_getElem_cons hlt]
    congr 1
    exact List.getElem_idxOf hlt
  rw [← e, List.take_append_drop]

theorem natCast_num (n : Nat) : ((n : Rat)).num = (n : Int) ∧ ((n : Rat)).den = 1 := ⟨rfl, rfl⟩

theorem unsignedM_iff {w : List Nat} {c : Rat} : unsignedM w = some c ↔ (0 ≤ c.num ∧ w = numT c) := by
  constructor
  · intro h
    unfold unsignedM at h
    split at h
    · rename_i h47
      rw [Option.bind_eq_some_iff] at h
      obtain ⟨t, ht, h⟩ := h
      rw [Option.bind_eq_some_iff] at h
      obtain ⟨b, hb, h⟩ := h
      unfold fracM at h
      split at h
      · rename_i hg
        have e := Option.some.inj h
        subst e
        refine ⟨Int.natCast_nonneg t, ?_⟩
        have h1 := wholeM_dig ht
        have h2 := wholeM_dig hb
        have := split_idx h47
        rw [h1, h2] at this
        rw [this]
        unfold numT
        simp only [Int.natAbs_natCast]
        rw [if_neg (by omega)]
      · simp at h
    · rw [Option.map_eq_some_iff] at h
      obtain ⟨n, hn, e⟩ := h
      subst e
      refine ⟨by rw [(natCast_num n).1]; omega, ?_⟩
      unfold numT
      rw [(natCast_num n).1, (natCast_num n).2, if_pos rfl, List.append_nil, Int.natAbs_natCast]
      exact wholeM_dig hn
  · rintro ⟨h0, rfl⟩
    unfold unsignedM
    by_cases hd : c.den = 1
    · have e : numT c = dg c.num.natAbs := by unfold numT; rw [if_pos hd, List.append_nil]
      rw [e, if_neg (dg_notin (by omega)), wholeM_dg]
      show some ((c.num.natAbs : Nat) : Rat) = some c
      congr 1
      apply Rat.ext
      · rw [(natCast_num _).1]; omega
      · rw [(natCast_num _).2, hd]
    · have e : numT c = dg c.num.natAbs ++ 47 :: dg c.den := by unfold numT; rw [if_neg hd]
      have hi := idx_app (u := dg c.num.natAbs) (v := dg c.den) (dg_notin (by omega))
      rw [e, if_pos (by simp), hi]
      rw [List.take_left, wholeM_dg]
      have : (dg c.num.natAbs ++ 47 :: dg c.den).drop ((dg c.num.natAbs).length + 1) = dg c.den := by
        rw [← List.drop_drop, List.drop_left]; rfl
      rw [this]
      show (wholeM (dg c.den)).bind _ = _
      rw [wholeM_dg]
      show fracM c.num.natAbs c.den = some c
      unfold fracM
      have hnz := c.den_nz
      rw [dif_pos ⟨by omega, c.reduced⟩]
      congr 1
      apply Rat.ext
      · show ((c.num.natAbs : Nat) : Int) = c.num; omega
      · rfl

def numberM (w : List Nat) : Option Rat := if w.take 1 = [45] then (unsignedM (w.drop 1)).bind fun c => if c.num = 0 then none else some (-c) else unsignedM w

theorem numberM_iff {w : List Nat} {c : Rat} : numberM w = some c ↔ w = sgnT c := by
  unfold numberM
  constructor
  · intro h
    split at h
    · rename_i h45
      rw [Option.bind_eq_some_iff] at h
      obtain ⟨d, hd, h⟩ := h
      obtain ⟨h0, hw⟩ := unsignedM_iff.mp hd
      split at h
      · simp at h
      · rename_i hn0
        have e := Option.some.inj h
        subst e
        unfold sgnT
        rw [Rat.neg_num, if_pos (by omega)]
        have e2 : numT (-d) = numT d := by unfold numT; rw [Rat.neg_num, Rat.neg_den, Int.natAbs_neg]
        rw [e2, ← hw]
        have := List.take_append_drop 1 w
        rw [h45] at this
        exact this.symm
    · obtain ⟨h0, hw⟩ := unsignedM_iff.mp h
      unfold sgnT
      rw [if_neg (by omega), hw]; rfl
  · rintro rfl
    unfold sgnT
    by_cases hn : c.num < 0
    · rw [if_pos hn]
      show (if ([45] ++ numT c).take 1 = [45] then _ else _) = _
      have et : List.take 1 ([45] ++ numT c) = [45] := rfl
      rw [et, if_pos rfl]
      have e2 : numT (-c) = numT c := by unfold numT; rw [Rat.neg_num, Rat.neg_den, Int.natAbs_neg]
      have : unsignedM (([45] ++ numT c).drop 1) = some (-c) := unsignedM_iff.mpr ⟨by rw [Rat.neg_num]; omega, by rw [e2]; rfl⟩
      rw [this]
      show (if (-c).num = 0 then none else some (- -c)) = _
      rw [if_neg (by rw [Rat.neg_num]; omega), Rat.neg_neg]
    · rw [if_neg hn, List.nil_append]
      obtain ⟨b, l, e, h1, h2⟩ := numT_head c
      rw [if_neg]
      · exact unsignedM_iff.mpr ⟨by omega, rfl⟩
      · rw [e]
        intro h
        have : b = 45 := by simpa using h
        omega

/-- **the program reads what the specification reads** -/
theorem numberM_read (w : List Nat) : numberM w = AlOne.readNum w := by
  cases h : AlOne.readNum w with
  | some c => exact numberM_iff.mpr (readNum_iff.mp h)
  | none =>
    cases h2 : numberM w with
    | none => rfl
    | some c =>
      have := readNum_iff.mpr (numberM_iff.mp h2)
      rw [h] at this; cases this
end Ma
/-! Who reads a polynomial: just its one text. -/
namespace Ma
open AlBase (Mono Poly)
/-! the order of products -/
theorem earlier_cons {a i b j : Nat} {m n : Mono} : AlBase.earlier ((a, i) :: m) ((b, j) :: n) = true ↔ a < b ∨ (a = b ∧ (j < i ∨ (i = j ∧ AlBase.earlier m n = true))) := by
  rw [AlBase.earlier]
  by_cases h1 : a < b
  · simp [h1]
  · by_cases h2 : b < a
    · simp [h1, h2]; intro h; omega
    · have h3 : a = b := by omega
      subst h3
      by_cases h4 : i = j
      · subst h4; simp
      · simp [h4]
theorem earlier_total : ∀ {m n : Mono}, m ≠ n → AlBase.earlier m n = false → AlBase.earlier n m = true
  | [], [], h, _ => absurd rfl h
  | [], _ :: _, _, _ => rfl
  | _ :: _, [], _, h => by cases h
  | (a, i) :: m, (b, j) :: n, h, h2 => by
    rw [earlier_cons]
    have h3 : ¬ (a < b ∨ (a = b ∧ (j < i ∨ (i = j ∧ AlBase.earlier m n = true)))) := by
      intro h4
      rw [earlier_cons.mpr h4] at h2; cases h2
    by_cases e : a = b ∧ i = j
    · obtain ⟨e1, e2⟩ := e
      subst e1 e2
      have hmn : m ≠ n := fun e => h (by rw [e])
      have : AlBase.earlier m n = false := by
        cases hm : AlBase.earlier m n with
        | false => rfl
        | true => exact absurd (.inr ⟨rfl, .inr ⟨rfl, hm⟩⟩) h3
      exact .inr ⟨rfl, .inr ⟨rfl, earlier_total hmn this⟩⟩
    · omega
theorem earlier_trans : ∀ {m n o : Mono}, AlBase.earlier m n = true → AlBase.earlier n o = true → AlBase.earlier m o = true
  | [], _, _, h, _ => by cases h
  | _ :: _, [], _, _, h => by cases h
  | _ :: _, _ :: _, [], _, _ => rfl
  | (a, i) :: m, (b, j) :: n, (c, k) :: o, h1, h2 => by
    rw [earlier_cons] at h1 h2 ⊢
    rcases h1 with h1 | ⟨e1, h1 | ⟨e2, h1⟩⟩
    · rcases h2 with h2 | ⟨e3, h2⟩ <;> exact .inl (by omega)
    · rcases h2 with h2 | ⟨e3, h2 | ⟨e4, h2⟩⟩
      · exact .inl (by omega)
      · exact .inr ⟨by omega, .inl (by omega)⟩
      · exact .inr ⟨by omega, .inl (by omega)⟩
    · rcases h2 with h2 | ⟨e3, h2 | ⟨e4, h2⟩⟩
      · exact .inl (by omega)
      · exact .inr ⟨by omega, .inl (by omega)⟩
      · exact .inr ⟨by omega, .inr ⟨by omega, earlier_trans h1 h2⟩⟩
theorem above_iff {m n : Mono} : AlBase.above m n = true ↔ AlBase.degree n < AlBase.degree m ∨ (AlBase.degree m = AlBase.degree n ∧ AlBase.earlier m n = true) := by
  unfold AlBase.above
  by_cases h : AlBase.degree m = AlBase.degree n
  · rw [if_pos h]; simp [h]
  · rw [if_neg h]; simp [h]
theorem above_trans {m n o : Mono} (h1 : AlBase.above m n = true) (h2 : AlBase.above n o = true) : AlBase.above m o = true := by
  rw [above_iff] at *
  rcases h1 with h1 | ⟨e1, h1⟩ <;> rcases h2 with h2 | ⟨e2, h2⟩
  · exact .inl (by omega)
  · exact .inl (by omega)
  · exact .inl (by omega)
  · exact .inr ⟨by omega, earlier_trans h1 h2⟩
theorem above_total {m n : Mono} (h : m ≠ n) (h2 : ¬ AlBase.above m n = true) : AlBase.above n m = true := by
  rw [above_iff] at *
  by_cases e : AlBase.degree m = AlBase.degree n
  · refine .inr ⟨e.symm, earlier_total h ?_⟩
    cases hm : AlBase.earlier m n with
    | false => rfl
    | true => exact absurd (.inr ⟨e, hm⟩) h2
  · exact .inl (by omega)
/-- letters rising, each there -/
def OkM (m : Mono) : Prop := GoodM m ∧ m.Pairwise fun x y => x.1 < y.1
def OkT (p : Poly) : Prop := ∀ x ∈ p, OkM x.1
structure OkP (p : Poly) : Prop where
  t : OkT p
  s : p.Pairwise fun x y => AlBase.above x.1 y.1 = true
  c : ∀ x ∈ p, x.2 ≠ 0
theorem okP_nil : OkP [] := ⟨(fun x hx => by cases hx), .nil, (fun x hx => by cases hx)⟩
theorem okM_nil : OkM [] := ⟨(fun y hy => by cases hy), .nil⟩
theorem plus_mem {m : Mono} {c : Rat} : ∀ {p : Poly} {y : Mono × Rat}, y ∈ AlBase.plus m c p → y.1 = m ∨ ∃ z ∈ p, z.1 = y.1
  | [], y, h => by
    rw [plus_nil] at h
    split at h
    · cases h
    · rw [List.mem_singleton] at h; subst h; exact .inl rfl
  | (n, d) :: p, y, h => by
    rw [plus_cons] at h
    split at h
    · exact .inr ⟨y, h, rfl⟩
    · split at h
      · split at h
        · exact .inr ⟨y, List.mem_cons_of_mem _ h, rfl⟩
        · rcases List.mem_cons.mp h with e | e
          · subst e; exact .inr ⟨(n, d), List.mem_cons_self, rfl⟩
          · exact .inr ⟨y, List.mem_cons_of_mem _ e, rfl⟩
      · split at h
        · rcases List.mem_cons.mp h with e | e
          · subst e; exact .inl rfl
          · exact .inr ⟨y, e, rfl⟩
        · rcases List.mem_cons.mp h with e | e
          · subst e; exact .inr ⟨(n, d), List.mem_cons_self, rfl⟩
          · rcases plus_mem e with e | ⟨z, hz, e⟩
            · exact .inl e
            · exact .inr ⟨z, List.mem_cons_of_mem _ hz, e⟩
theorem plus_ok {m : Mono} (hm : OkM m) (c : Rat) : ∀ {p : Poly}, OkP p → OkP (AlBase.plus m c p)
  | [], _ => by
    rw [plus_nil]
    split
    · exact okP_nil
    · rename_i hc
      exact ⟨fun x hx => by rw [List.mem_singleton] at hx; subst hx; exact hm, List.pairwise_singleton _ _, fun x hx => by rw [List.mem_singleton] at hx; subst hx; exact hc⟩
  | (n, d) :: p, h => by
    have hs := List.pairwise_cons.mp h.s
    have hp : OkP p := ⟨fun x hx => h.t x (List.mem_cons_of_mem _ hx), hs.2, fun x hx => h.c x (List.mem_cons_of_mem _ hx)⟩
    have hn : OkM n := h.t (n, d) List.mem_cons_self
    rw [plus_cons]
    split
    · exact h
    · rename_i hc
      split
      · split
        · exact hp
        · rename_i hcd
          refine ⟨fun x hx => ?_, List.pairwise_cons.mpr hs, fun x hx => ?_⟩
          · rcases List.mem_cons.mp hx with e | e
            · subst e; exact hn
            · exact hp.t x e
          · rcases List.mem_cons.mp hx with e | e
            · subst e; exact hcd
            · exact hp.c x e
      · rename_i hne
        split
        · rename_i ha
          refine ⟨fun x hx => ?_, List.pairwise_cons.mpr ⟨fun y hy => ?_, h.s⟩, fun x hx => ?_⟩
          · rcases List.mem_cons.mp hx with e | e
            · subst e; exact hm
            · exact h.t x e
          · rcases List.mem_cons.mp hy with e | e
            · subst e; exact ha
            · exact above_trans ha (hs.1 y e)
          · rcases List.mem_cons.mp hx with e | e
            · subst e; exact hc
            · exact h.c x e
        · rename_i ha
          have ih := plus_ok hm c hp
          refine ⟨fun x hx => ?_, List.pairwise_cons.mpr ⟨fun y hy => ?_, ih.s⟩, fun x hx => ?_⟩
          · rcases List.mem_cons.mp hx with e | e
            · subst e; exact hn
            · exact ih.t x e
          · rcases plus_mem hy with e | ⟨z, hz, e⟩
            · rw [e]; exact above_total hne ha
            · rw [← e]; exact hs.1 z hz
          · rcases List.mem_cons.mp hx with e | e
            · subst e; exact h.c _ List.mem_cons_self
            · exact ih.c x e
theorem add_ok {q : Poly} (hq : OkT q) : ∀ {p : Poly}, OkP p → OkP (AlBase.add p q) := by
  unfold AlBase.add
  induction q with
  | nil => intro p hp; exact hp
  | cons x q ih =>
    intro p hp
    rw [List.foldl_cons]
    exact ih (fun y hy => hq y (List.mem_cons_of_mem _ hy)) (plus_ok (hq x List.mem_cons_self) _ hp)
theorem scale_okT {c : Rat} {p : Poly} (h : OkT p) : OkT (AlBase.scale c p) := by
  unfold AlBase.scale
  split
  · exact fun x hx => by cases hx
  · intro x hx
    rw [List.mem_map] at hx
    obtain ⟨y, hy, e⟩ := hx
    rw [← e]; exact h y hy
theorem scale_ok {c : Rat} {p : Poly} (h : OkP p) : OkP (AlBase.scale c p) := by
  by_cases hc : c = 0
  · unfold AlBase.scale; rw [if_pos hc]; exact okP_nil
  · refine ⟨scale_okT h.t, ?_, ?_⟩
    · unfold AlBase.scale; rw [if_neg hc, List.pairwise_map]; exact h.s
    · unfold AlBase.scale; rw [if_neg hc]
      intro x hx
      rw [List.mem_map] at hx
      obtain ⟨y, hy, e⟩ := hx
      rw [← e]
      intro e2
      rcases Rat.mul_eq_zero.mp e2 with e3 | e3
      · exact hc e3
      · exact h.c y hy e3
theorem put_mem {a i : Nat} : ∀ {m : Mono} {y : Nat × Nat}, y ∈ AlBase.put a i m → y.1 = a ∨ ∃ z ∈ m, z.1 = y.1
  | [], y, h => by simp [AlBase.put] at h; subst h; exact .inl rfl
  | (b, j) :: m, y, h => by
    unfold AlBase.put at h
    split at h
    · rcases List.mem_cons.mp h with e | e
      · subst e; exact .inl rfl
      · exact .inr ⟨y, e, rfl⟩
    · split at h
      · rcases List.mem_cons.mp h with e | e
        · subst e; exact .inr ⟨(b, j), List.mem_cons_self, rfl⟩
        · exact .inr ⟨y, List.mem_cons_of_mem _ e, rfl⟩
      · rcases List.mem_cons.mp h with e | e
        · subst e; exact .inr ⟨(b, j), List.mem_cons_self, rfl⟩
        · rcases put_mem e with e | ⟨z, hz, e⟩
          · exact .inl e
          · exact .inr ⟨z, List.mem_cons_of_mem _ hz, e⟩
theorem put_rise {a i : Nat} : ∀ {m : Mono}, (m.Pairwise fun x y => x.1 < y.1) → (AlBase.put a i m).Pairwise fun x y => x.1 < y.1
  | [], _ => List.pairwise_singleton _ _
  | (b, j) :: m, h => by
    have hs := List.pairwise_cons.mp h
    unfold AlBase.put
    split
    · rename_i hab
      refine List.pairwise_cons.mpr ⟨fun y hy => ?_, h⟩
      rcases List.mem_cons.mp hy with e | e
      · subst e; exact hab
      · have := hs.1 y e
        show a < y.1
        have : b < y.1 := this
        omega
    · split
      · exact List.pairwise_cons.mpr hs
      · rename_i h1 h2
        refine List.pairwise_cons.mpr ⟨fun y hy => ?_, put_rise hs.2⟩
        rcases put_mem hy with e | ⟨z, hz, e⟩
        · show b < y.1; omega
        · rw [← e]; exact hs.1 z hz
theorem times_ok {n : Mono} (hn : GoodM n) : ∀ {m : Mono}, OkM m → OkM (AlBase.times m n) := by
  unfold AlBase.times
  induction n with
  | nil => intro m hm; exact hm
  | cons x n ih =>
    intro m hm
    rw [List.foldl_cons]
    exact ih (fun y hy => hn y (List.mem_cons_of_mem _ hy)) ⟨put_good (hn x List.mem_cons_self) hm.1, put_rise hm.2⟩
theorem termTimes_ok {x : Mono × Rat} {p : Poly} (hx : OkM x.1) (h : OkT p) : OkT (AlBase.termTimes x p) := by
  unfold AlBase.termTimes
  intro y hy
  rw [List.mem_map] at hy
  obtain ⟨z, hz, e⟩ := hy
  rw [← e]
  exact times_ok (scale_okT h z hz).1 hx
theorem mul_ok {p q : Poly} (hp : OkT p) (hq : OkT q) : OkP (AlBase.mul p q) := by
  unfold AlBase.mul
  have : ∀ (s : Poly), OkP s → OkP (p.foldl (fun (s : Poly) (x : Mono × Rat) => AlBase.add s (AlBase.termTimes x q)) s) := by
    induction p with
    | nil => intro s hs; exact hs
    | cons x p ih =>
      intro s hs
      rw [List.foldl_cons]
      exact ih (fun y hy => hp y (List.mem_cons_of_mem _ hy)) _ (add_ok (termTimes_ok (hp x List.mem_cons_self) hq) hs)
  exact this [] okP_nil
theorem const_ok (c : Rat) : OkP (AlBase.const c) := plus_ok okM_nil c okP_nil
theorem single_ok {m : Mono} {c : Rat} (hm : OkM m) (hc : c ≠ 0) : OkP [(m, c)] :=
  ⟨fun x hx => by rw [List.mem_singleton] at hx; subst hx; exact hm, List.pairwise_singleton _ _, fun x hx => by rw [List.mem_singleton] at hx; subst hx; exact hc⟩
theorem one_ne : (1 : Rat) ≠ 0 := by decide
theorem pow_okM {a n : Nat} (h : 0 < n) : OkM [(a, n)] := ⟨fun y hy => by rw [List.mem_singleton] at hy; subst hy; exact h, List.pairwise_singleton _ _⟩
theorem readFactor_ok {w : List Nat} {p : Poly} (h : AlBase.readFactor w = some p) : OkP p := by
  unfold AlBase.readFactor at h
  split at h
  · split at h
    · have e := Option.some.inj h
      subst e; exact single_ok (pow_okM (by omega)) one_ne
    · rw [Option.map_eq_some_iff] at h
      obtain ⟨c, _, e⟩ := h
      subst e; exact const_ok c
  · rw [Option.bind_eq_some_iff] at h
    obtain ⟨a, _, h⟩ := h
    rw [Option.map_eq_some_iff] at h
    obtain ⟨n, _, e⟩ := h
    subst e
    split
    · exact single_ok okM_nil one_ne
    · exact single_ok (pow_okM (by omega)) one_ne
  · cases h
theorem readTerm_ok {w : List Nat} {p : Poly} (h : AlBase.readTerm w = some p) : OkP p := by
  unfold AlBase.readTerm at h
  rw [Option.map_eq_some_iff] at h
  obtain ⟨l, hl, e⟩ := h
  have hg := mapM_all (G := OkP) (fun a c hc => readFactor_ok hc) _ _ hl
  subst e
  clear hl
  have : ∀ s : Poly, OkP s → OkP (l.foldl AlBase.mul s) := by
    induction l with
    | nil => intro s hs; exact hs
    | cons q l ih =>
      intro s hs
      rw [List.foldl_cons]
      exact ih (fun c hc => hg c (List.mem_cons_of_mem _ hc)) _ (mul_ok hs.t (hg q List.mem_cons_self).t)
  exact this _ (single_ok okM_nil one_ne)
theorem readMore_ok : ∀ (n : Nat) (s : Poly) (l : List (List Nat)) (p : Poly), l.length ≤ n → OkP s → AlBase.readMore s l = some p → OkP p
  | _, s, [], p, _, hs, h => by simp [AlBase.readMore] at h; subst h; exact hs
  | _, s, [_], p, _, hs, h => by simp [AlBase.readMore] at h
  | 0, s, a :: w :: l, p, hn, hs, h => by simp at hn
  | n + 1, s, a :: w :: l, p, hn, hs, h => by
    unfold AlBase.readMore at h
    simp only [List.length_cons] at hn
    split at h
    · rw [Option.bind_eq_some_iff] at h
      obtain ⟨q, hq, h⟩ := h
      exact readMore_ok n _ l p (by omega) (add_ok (readTerm_ok hq).t hs) h
    · split at h
      · rw [Option.bind_eq_some_iff] at h
        obtain ⟨q, hq, h⟩ := h
        exact readMore_ok n _ l p (by omega) (add_ok (scale_ok (readTerm_ok hq)).t hs) h
      · simp at h
theorem readSum_ok {t : List Nat} {p : Poly} (h : AlBase.readSum t = some p) : OkP p := by
  unfold AlBase.readSum at h
  split at h
  · simp at h
  · split at h
    · rw [Option.bind_eq_some_iff] at h
      obtain ⟨q, hq, h⟩ := h
      exact readMore_ok _ _ _ p (Nat.le_refl _) (scale_ok (readTerm_ok hq)) h
    · rw [Option.bind_eq_some_iff] at h
      obtain ⟨q, hq, h⟩ := h
      exact readMore_ok _ _ _ p (Nat.le_refl _) (readTerm_ok hq) h
/-! of the letter x alone -/
theorem ins_mem {a b : Nat} : ∀ {l : List Nat}, b ∈ AlBase.insertLetter a l ↔ b = a ∨ b ∈ l
  | [] => by simp [AlBase.insertLetter]
  | c :: l => by
    unfold AlBase.insertLetter
    split
    · simp
    · split
      · rename_i e; subst e; simp
      · rw [List.mem_cons, ins_mem, List.mem_cons]
        constructor
        · rintro (h | h | h)
          · exact .inr (.inl h)
          · exact .inl h
          · exact .inr (.inr h)
        · rintro (h | h | h)
          · exact .inr (.inl h)
          · exact .inl h
          · exact .inr (.inr h)
theorem insM_mem {b : Nat} : ∀ (m : Mono) (s : List Nat), b ∈ m.foldl (fun (t : List Nat) (y : Nat × Nat) => AlBase.insertLetter y.1 t) s ↔ b ∈ s ∨ ∃ y ∈ m, y.1 = b
  | [], s => by simp
  | y :: m, s => by
    rw [List.foldl_cons, insM_mem m, ins_mem]
    constructor
    · rintro ((h | h) | ⟨z, hz, e⟩)
      · exact .inr ⟨y, List.mem_cons_self, h.symm⟩
      · exact .inl h
      · exact .inr ⟨z, List.mem_cons_of_mem _ hz, e⟩
    · rintro (h | ⟨z, hz, e⟩)
      · exact .inl (.inr h)
      · rcases List.mem_cons.mp hz with e2 | e2
        · subst e2; exact .inl (.inl e.symm)
        · exact .inr ⟨z, e2, e⟩
theorem letters_mem {b : Nat} (p : Poly) : b ∈ AlBase.letters p ↔ ∃ x ∈ p, ∃ y ∈ x.1, y.1 = b := by
  unfold AlBase.letters
  have : ∀ (p : Poly) (s : List Nat), b ∈ p.foldl (fun (s : List Nat) (x : Mono × Rat) => x.1.foldl (fun (t : List Nat) (y : Nat × Nat) => AlBase.insertLetter y.1 t) s) s ↔ b ∈ s ∨ ∃ x ∈ p, ∃ y ∈ x.1, y.1 = b := by
    intro p
    induction p with
    | nil => intro s; simp
    | cons x p ih =>
      intro s
      rw [List.foldl_cons, ih, insM_mem]
      constructor
      · rintro ((h | ⟨y, hy, e⟩) | ⟨z, hz, h⟩)
        · exact .inl h
        · exact .inr ⟨x, List.mem_cons_self, y, hy, e⟩
        · exact .inr ⟨z, List.mem_cons_of_mem _ hz, h⟩
      · rintro (h | ⟨z, hz, h⟩)
        · exact .inl (.inl h)
        · rcases List.mem_cons.mp hz with e2 | e2
          · subst e2; exact .inl (.inr h)
          · exact .inr ⟨z, e2, h⟩
  rw [this]
  simp
theorem mono_x {m : Mono} (h : OkM m) (hx : ∀ y ∈ m, y.1 = AlOne.X) : m = mo (AlBase.degree m) := by
  match m, h, hx with
  | [], _, _ => rfl
  | [(a, i)], h, hx =>
    have ha : a = AlOne.X := hx (a, i) List.mem_cons_self
    have hi : 0 < i := h.1 (a, i) List.mem_cons_self
    subst ha
    have : AlBase.degree [(AlOne.X, i)] = i := by unfold AlBase.degree; simp
    rw [this]
    unfold mo
    rw [if_neg (by omega)]
  | (a, i) :: (b, j) :: m, h, hx =>
    exfalso
    have h1 := (List.pairwise_cons.mp h.2).1 (b, j) List.mem_cons_self
    have ha : a = AlOne.X := hx (a, i) List.mem_cons_self
    have hb : b = AlOne.X := hx (b, j) (List.mem_cons_of_mem _ List.mem_cons_self)
    have h2 : a < b := h1
    omega
/-- terms: numbers with their powers -/
abbrev Tms := List (Rat × Nat)
def polyT (ts : Tms) : Poly := ts.map fun x => (mo x.2, x.1)
structure Val (ts : Tms) : Prop where
  s : ts.Pairwise fun x y => y.2 < x.2
  c : ∀ x ∈ ts, x.1 ≠ 0
theorem earlier_self : ∀ m : Mono, AlBase.earlier m m = false
  | [] => rfl
  | (a, i) :: m => by
    cases h : AlBase.earlier ((a, i) :: m) ((a, i) :: m) with
    | false => rfl
    | true =>
      rw [earlier_cons] at h
      rcases h with h | ⟨_, h | ⟨_, h⟩⟩
      · omega
      · omega
      · rw [earlier_self m] at h; cases h
theorem above_mo {a b : Nat} (h : AlBase.above (mo a) (mo b) = true) : b < a := by
  rw [above_iff, degree_mo, degree_mo] at h
  rcases h with h | ⟨e, h⟩
  · exact h
  · subst e; rw [earlier_self] at h; cases h
theorem ok_x {p : Poly} (h : OkP p) (hx : (AlBase.letters p).all (fun (a : Nat) => decide (a = AlOne.X)) = true) : ∃ ts, Val ts ∧ p = polyT ts := by
  have hm : ∀ x ∈ p, x.1 = mo (AlBase.degree x.1) := by
    intro x hxp
    refine mono_x (h.t x hxp) fun y hy => ?_
    have := List.all_eq_true.mp hx y.1 ((letters_mem p).mpr ⟨x, hxp, y, hy, rfl⟩)
    exact of_decide_eq_true this
  refine ⟨p.map fun x => (x.2, AlBase.degree x.1), ⟨?_, ?_⟩, ?_⟩
  · rw [List.pairwise_map]
    refine List.Pairwise.imp_of_mem ?_ h.s
    intro x y hx hy ha
    rw [hm x hx, hm y hy] at ha
    exact above_mo ha
  · intro x hx
    rw [List.mem_map] at hx
    obtain ⟨y, hy, e⟩ := hx
    rw [← e]; exact h.c y hy
  · unfold polyT
    rw [List.map_map]
    conv => lhs; rw [← List.map_id p]
    refine List.map_congr_left fun x hx => ?_
    show x = (mo (AlBase.degree x.1), x.2)
    rw [← hm x hx]
end Ma
/-! How the program reads a polynomial. -/
namespace Ma
open AlBase (Mono Poly)
def powerM (w : List Nat) : Option Nat := if w = [] then some 1 else if w.headD 0 = 94 then (wholeM w.tail).bind fun n => if n < 2 then none else some n else none
def factorM (w : List Nat) : Option Rat := if w = [] then some 1 else if w.getLastD 0 = 42 then (unsignedM w.dropLast).bind fun c => if c = 1 then none else some c else none
def rawM (w : List Nat) : Option (Rat × Nat) := if 120 ∈ w then (factorM (w.take (w.idxOf 120))).bind fun c => (powerM (w.drop (w.idxOf 120 + 1))).map fun k => (c, k) else (unsignedM w).map fun c => (c, 0)
def termM (w : List Nat) : Option (Rat × Nat) := (rawM w).bind fun x => if x.1 = 0 then none else some x
theorem idx_appG {b : Nat} {u v : List Nat} (h : b ∉ u) : (u ++ b :: v).idxOf b = u.length := by
  induction u with
  | nil => simp
  | cons a u ih =>
    have h1 : a ≠ b := fun e => h (by simp [e])
    have h2 : b ∉ u := fun e => h (by simp [e])
    rw [List.cons_append, List.idxOf_cons]
    have h3 : (a == b) = false := by simp [h1]
    rw [h3, ih h2]; rfl
theorem split_idxG {b : Nat} {w : List Nat} (h : b ∈ w) : w = w.take (w.idxOf b) ++ b :: w.drop (w.idxOf b + 1) := by
  have hlt := List.idxOf_lt_length_of_mem h
  have e : w.drop (w.idxOf b) = b :: w.drop (w.idxOf b + 1) := by
    rw [List.drop_eq_getElem_cons hlt]
    congr 1
    exact List.getElem_idxOf hlt
  rw [← e, List.take_append_drop]
theorem powerM_iff {w : List Nat} {k : Nat} : powerM w = some k ↔ 0 < k ∧ 120 :: w = powT k := by
  unfold powerM powT
  constructor
  · intro h
    split at h
    · rename_i e
      have := Option.some.inj h
      subst this e
      exact ⟨by omega, rfl⟩
    · rename_i hne
      split at h
      · rename_i h94
        rw [Option.bind_eq_some_iff] at h
        obtain ⟨n, hn, h⟩ := h
        split at h
        · cases h
        · have := Option.some.inj h
          subst this
          refine ⟨by omega, ?_⟩
          rw [if_neg (by omega)]
          have hd := wholeM_dig hn
          cases w with
          | nil => exact absurd rfl hne
          | cons a w =>
            have ha : a = 94 := h94
            subst ha
            rw [show w = dg n from hd]
      · cases h
  · rintro ⟨hk, h⟩
    have h := (List.cons.inj h).2
    by_cases h1 : k = 1
    · rw [if_pos h1] at h
      subst h
      rw [if_pos rfl, h1]
    · rw [if_neg h1] at h
      subst h
      rw [if_neg (by simp), if_pos (by rfl)]
      show (wholeM (dg k)).bind _ = _
      rw [wholeM_dg]
      show (if k < 2 then none else some k) = some k
      rw [if_neg (by omega)]
theorem factorM_iff {w : List Nat} {c : Rat} : factorM w = some c ↔ 0 ≤ c.num ∧ w = (if c = 1 then [] else numT c ++ [42]) := by
  unfold factorM
  constructor
  · intro h
    split at h
    · rename_i e
      have := Option.some.inj h
      subst this
      rw [if_pos rfl]; exact ⟨by decide, e⟩
    · rename_i hne
      split at h
      · rename_i h42
        rw [Option.bind_eq_some_iff] at h
        obtain ⟨d, hd, h⟩ := h
        split at h
        · cases h
        · rename_i h1
          have := Option.some.inj h
          subst this
          obtain ⟨h2, h3⟩ := unsignedM_iff.mp hd
          refine ⟨h2, ?_⟩
          rw [if_neg h1, ← h3]
          have h4 := (List.dropLast_concat_getLast hne).symm
          rw [List.getLastD_eq_getLast?, List.getLast?_eq_some_getLast hne] at h42
          rw [show w.getLast hne = 42 from h42] at h4
          exact h4
      · cases h
  · rintro ⟨hc, h⟩
    by_cases h1 : c = 1
    · rw [if_pos h1] at h
      rw [if_pos h, h1]
    · rw [if_neg h1] at h
      subst h
      rw [if_neg (by simp), if_pos (by simp), List.dropLast_concat, unsignedM_iff.mpr ⟨hc, rfl⟩]
      show (if c = 1 then none else some c) = some c
      rw [if_neg h1]
theorem powT_in (k : Nat) : 120 ∈ powT k := List.mem_cons_self
theorem termM_iff {w : List Nat} {c : Rat} {k : Nat} : termM w = some (c, k) ↔ (0 ≤ c.num ∧ c ≠ 0) ∧ w = AlBase.termText (mo k) c := by
  unfold termM
  rw [Option.bind_eq_some_iff]
  constructor
  · rintro ⟨⟨c', k'⟩, h, h2⟩
    split at h2
    · cases h2
    · rename_i hc
      have e := Option.some.inj h2
      have e1 : c' = c := congrArg Prod.fst e
      have e2 : k' = k := congrArg Prod.snd e
      subst e1 e2
      unfold rawM at h
      split at h
      · rename_i hm
        rw [Option.bind_eq_some_iff] at h
        obtain ⟨d, hd, h⟩ := h
        rw [Option.map_eq_some_iff] at h
        obtain ⟨k2, hk, e⟩ := h
        have e1 : d = c' := congrArg Prod.fst e
        have e2 : k2 = k' := congrArg Prod.snd e
        subst e1 e2
        obtain ⟨h3, h4⟩ := factorM_iff.mp hd
        obtain ⟨h5, h6⟩ := powerM_iff.mp hk
        refine ⟨⟨h3, hc⟩, ?_⟩
        rw [termText_mo h3, if_neg (by omega)]
        have hw := split_idxG hm
        rw [h4, h6] at hw
        rw [hw]
        split
        · rfl
        · rw [List.append_assoc]; rfl
      · rw [Option.map_eq_some_iff] at h
        obtain ⟨d, hd, e⟩ := h
        have e1 : d = c' := congrArg Prod.fst e
        have e2 : 0 = k' := congrArg Prod.snd e
        subst e1 e2
        obtain ⟨h3, h4⟩ := unsignedM_iff.mp hd
        refine ⟨⟨h3, hc⟩, ?_⟩
        rw [termText_mo h3, if_pos rfl]; exact h4
  · rintro ⟨⟨h3, hc⟩, hw⟩
    refine ⟨(c, k), ?_, by rw [if_neg hc]⟩
    rw [termText_mo h3] at hw
    unfold rawM
    by_cases hk : k = 0
    · rw [if_pos hk] at hw
      subst hk
      rw [if_neg (by rw [hw]; exact numT_notin (by omega)), unsignedM_iff.mpr ⟨h3, hw⟩]; rfl
    · rw [if_neg hk] at hw
      have hf : factorM (if c = 1 then [] else numT c ++ [42]) = some c := factorM_iff.mpr ⟨h3, rfl⟩
      have hw2 : w = (if c = 1 then [] else numT c ++ [42]) ++ powT k := by
        rw [hw]
        split
        · rfl
        · rw [List.append_assoc]; rfl
      have hn : 120 ∉ (if c = 1 then [] else numT c ++ [42]) := by
        split
        · simp
        · intro h
          rcases List.mem_append.mp h with h | h
          · exact numT_notin (by omega) h
          · simp at h
      generalize (if c = 1 then [] else numT c ++ [42]) = f at hf hw2 hn
      obtain ⟨v, hv⟩ : ∃ v, powT k = 120 :: v := ⟨_, rfl⟩
      rw [hv] at hw2
      rw [if_pos (by rw [hw2]; simp)]
      have hi : w.idxOf 120 = f.length := by rw [hw2]; exact idx_appG hn
      have ht : w.take f.length = f := by rw [hw2, List.take_left]
      have hd : w.drop (f.length + 1) = v := by
        rw [hw2, List.drop_append, List.drop_of_length_le (by omega), show f.length + 1 - f.length = 1 by omega]; rfl
      rw [hi, ht, hd, hf]
      show (powerM v).map _ = _
      rw [powerM_iff.mpr ⟨by omega, hv.symm⟩]; rfl
/-! pieces -/
def glue (l : List (List Nat)) : List Nat := l.flatMap fun w => 32 :: w
theorem split_ne (sep : Nat) : ∀ u : List Nat, AlBase.split sep u ≠ []
  | [] => by simp [AlBase.split]
  | b :: l => by
    rw [AlBase.split]
    split
    · simp
    · split <;> simp
theorem split_glue : ∀ {u w : List Nat} {l : List (List Nat)}, AlBase.split 32 u = w :: l → u = w ++ glue l
  | [], w, l, h => by
    simp [AlBase.split] at h
    obtain ⟨h1, h2⟩ := h
    subst h1 h2; rfl
  | b :: u, w, l, h => by
    rw [AlBase.split] at h
    split at h
    · rename_i hb
      obtain ⟨h1, h2⟩ := List.cons.inj h
      subst h1 hb
      obtain ⟨w', l', hs⟩ : ∃ w' l', AlBase.split 32 u = w' :: l' := by
        cases hu : AlBase.split 32 u with
        | nil => exact absurd hu (split_ne 32 u)
        | cons w' l' => exact ⟨w', l', rfl⟩
      have ih := split_glue hs
      rw [hs] at h2
      subst h2
      show 32 :: u = [] ++ (32 :: w' ++ glue l')
      rw [ih]; rfl
    · split at h
      · rename_i hu
        exact absurd hu (split_ne 32 u)
      · rename_i w' l' hs
        obtain ⟨h1, h2⟩ := List.cons.inj h
        subst h1 h2
        rw [split_glue hs]; rfl
theorem glue_split : ∀ {w : List Nat} {l : List (List Nat)}, 32 ∉ w → (∀ v ∈ l, 32 ∉ v) → AlBase.split 32 (w ++ glue l) = w :: l
  | w, [], hw, _ => by
    show AlBase.split 32 (w ++ []) = [w]
    rw [List.append_nil]; exact split_none hw
  | w, v :: l, hw, hl => by
    show AlBase.split 32 (w ++ (32 :: v ++ glue l)) = _
    rw [List.cons_append, split_one hw, glue_split (hl v List.mem_cons_self) fun x hx => hl x (List.mem_cons_of_mem _ hx)]
def signM (s : List Nat) : Option Bool := if s = [43] then some false else if s = [45] then some true else none
def moreM : List (List Nat) → Option (List (Bool × List Nat))
  | [] => some []
  | [_] => none
  | s :: w :: l => (signM s).bind fun b => (moreM l).map fun r => (b, w) :: r
def signedM (u : List Nat) : Option (List (Bool × List Nat)) := match AlBase.split 32 u with
  | [] => none
  | w :: l => (moreM l).map fun r => (if w.take 1 = [45] then (true, w.drop 1) else (false, w)) :: r
def tm (x : Bool × List Nat) : Option (Rat × Nat) := (termM x.2).map fun t => (if x.1 then -t.1 else t.1, t.2)
def fallsB : List Nat → Bool
  | a :: b :: l => decide (b < a) && fallsB (b :: l)
  | _ => true
def termsM (u : List Nat) : Option Tms := if u = [48] then some [] else (signedM u).bind fun l => (l.mapM tm).bind fun ts => if fallsB (ts.map fun t => t.2) then some ts else none
theorem falls_iff : ∀ {l : List Nat}, fallsB l = true ↔ l.Pairwise fun x y => y < x
  | [] => by simp [fallsB]
  | [a] => by simp [fallsB]
  | a :: b :: l => by
    rw [fallsB, Bool.and_eq_true, decide_eq_true_eq, falls_iff, List.pairwise_cons (a := a)]
    constructor
    · rintro ⟨h1, h2⟩
      refine ⟨fun y hy => ?_, h2⟩
      rcases List.mem_cons.mp hy with e | e
      · subst e; exact h1
      · have := (List.pairwise_cons.mp h2).1 y e
        omega
    · rintro ⟨h1, h2⟩
      exact ⟨h1 b List.mem_cons_self, h2⟩
/-- a signed term's two pieces -/
def prs (x : Rat × Nat) : Bool × List Nat := (decide (x.1.num < 0), AlBase.termText (mo x.2) (if x.1.num < 0 then -x.1 else x.1))
theorem lt_num {c : Rat} : c < 0 ↔ c.num < 0 := by rw [Rat.lt_iff]; simp
theorem tm_iff {x : Bool × List Nat} {c : Rat} {k : Nat} : tm x = some (c, k) ↔ c ≠ 0 ∧ x = prs (c, k) := by
  obtain ⟨b, w⟩ := x
  unfold tm prs
  rw [Option.map_eq_some_iff]
  constructor
  · rintro ⟨⟨d, k'⟩, h, e⟩
    have e1 : (if b then -d else d) = c := congrArg Prod.fst e
    have e2 : k' = k := congrArg Prod.snd e
    subst e2
    obtain ⟨⟨h1, h2⟩, h3⟩ := termM_iff.mp h
    have hd0 : d.num ≠ 0 := fun e => h2 (Rat.num_eq_zero.mp e)
    cases b with
    | true =>
      have e1 : -d = c := e1
      subst e1
      refine ⟨fun e => h2 (by rw [← Rat.neg_neg d, e]; rfl), ?_⟩
      have : (-d).num < 0 := by rw [Rat.neg_num]; omega
      show (true, w) = (decide ((-d).num < 0), AlBase.termText (mo k') (if (-d).num < 0 then - -d else -d))
      rw [decide_eq_true this, if_pos this, Rat.neg_neg, show w = _ from h3]
    | false =>
      have e1 : d = c := e1
      subst e1
      refine ⟨h2, ?_⟩
      have : ¬ d.num < 0 := by omega
      show (false, w) = (decide (d.num < 0), AlBase.termText (mo k') (if d.num < 0 then -d else d))
      rw [decide_eq_false this, if_neg this, show w = _ from h3]
  · rintro ⟨hc, e⟩
    have e1 : b = decide (c.num < 0) := congrArg Prod.fst e
    have e2 : w = AlBase.termText (mo k) (if c.num < 0 then -c else c) := congrArg Prod.snd e
    by_cases hn : c.num < 0
    · rw [if_pos hn] at e2
      rw [decide_eq_true hn] at e1
      refine ⟨(-c, k), termM_iff.mpr ⟨⟨by rw [Rat.neg_num]; omega, fun e => hc (by rw [← Rat.neg_neg c, e]; rfl)⟩, e2⟩, ?_⟩
      rw [e1]
      show (- -c, k) = _
      rw [Rat.neg_neg]
    · rw [if_neg hn] at e2
      rw [decide_eq_false hn] at e1
      refine ⟨(c, k), termM_iff.mpr ⟨⟨by omega, hc⟩, e2⟩, ?_⟩
      rw [e1]; rfl
theorem mapM_tm : ∀ {l : List (Bool × List Nat)} {ts : Tms}, l.mapM tm = some ts ↔ (∀ t ∈ ts, t.1 ≠ 0) ∧ l = ts.map prs
  | [], ts => by
    constructor
    · intro h
      have h : some [] = some ts := h
      have := Option.some.inj h
      subst this
      exact ⟨(fun t h => by cases h), rfl⟩
    · rintro ⟨_, h⟩
      cases ts with
      | nil => rfl
      | cons t ts => cases h
  | x :: l, ts => by
    rw [List.mapM_cons]
    simp only [Option.bind_eq_bind, Option.pure_def, Option.bind_eq_some_iff]
    constructor
    · rintro ⟨⟨c, k⟩, h1, r, h2, e⟩
      have e := Option.some.inj e
      subst e
      obtain ⟨h3, h4⟩ := tm_iff.mp h1
      obtain ⟨h5, h6⟩ := mapM_tm.mp h2
      refine ⟨fun t ht => ?_, by rw [List.map_cons, ← h4, ← h6]⟩
      rcases List.mem_cons.mp ht with e | e
      · subst e; exact h3
      · exact h5 t e
    · rintro ⟨h1, h2⟩
      cases ts with
      | nil => cases h2
      | cons t ts =>
        obtain ⟨h3, h4⟩ := List.cons.inj h2
        exact ⟨t, tm_iff.mpr ⟨h1 t List.mem_cons_self, h3⟩, ts, mapM_tm.mpr ⟨fun t' h' => h1 t' (List.mem_cons_of_mem _ h'), h4⟩, rfl⟩
def sgnP (b : Bool) : List Nat := if b then [45] else [43]
theorem signM_iff {s : List Nat} {b : Bool} : signM s = some b ↔ s = sgnP b := by
  unfold signM sgnP
  by_cases h1 : s = [43]
  · subst h1
    cases b <;> simp
  · by_cases h2 : s = [45]
    · subst h2
      cases b <;> simp
    · cases b <;> simp [h1, h2]
def flatP (l : List (Bool × List Nat)) : List (List Nat) := l.flatMap fun x => [sgnP x.1, x.2]
theorem moreM_iff : ∀ {l : List (List Nat)} {r : List (Bool × List Nat)}, moreM l = some r ↔ l = flatP r
  | [], r => by
    constructor
    · intro h
      have h : some [] = some r := h
      have := Option.some.inj h
      subst this; rfl
    · intro h
      cases r with
      | nil => rfl
      | cons x r => cases h
  | [a], r => by
    constructor
    · intro h; cases h
    · intro h
      cases r with
      | nil => cases h
      | cons x r =>
        have h : [a] = sgnP x.1 :: x.2 :: flatP r := h
        cases (List.cons.inj h).2
  | s :: w :: l, r => by
    rw [moreM, Option.bind_eq_some_iff]
    constructor
    · rintro ⟨b, h1, h2⟩
      rw [Option.map_eq_some_iff] at h2
      obtain ⟨r', h3, e⟩ := h2
      subst e
      rw [signM_iff.mp h1, moreM_iff.mp h3]; rfl
    · intro h
      cases r with
      | nil => cases h
      | cons x r =>
        have h : s :: w :: l = sgnP x.1 :: x.2 :: flatP r := h
        obtain ⟨h1, h2⟩ := List.cons.inj h
        obtain ⟨h3, h4⟩ := List.cons.inj h2
        exact ⟨x.1, signM_iff.mpr h1, by rw [moreM_iff.mpr h4, h3]; rfl⟩
/-- the text of signed pieces -/
def textS : List (Bool × List Nat) → List Nat
  | [] => [48]
  | x :: r => (if x.1 then 45 :: x.2 else x.2) ++ glue (flatP r)
theorem more_glue (t : Rat × Nat) : AlBase.moreText (mo t.2, t.1) = glue [sgnP (prs t).1, (prs t).2] := by
  unfold AlBase.moreText prs glue sgnP
  show (if t.1 < 0 then _ else _) = _
  by_cases h : t.1.num < 0
  · rw [if_pos (lt_num.mpr h)]; simp [h]
  · rw [if_neg (fun e => h (lt_num.mp e))]; simp [h]
theorem glue_app (l m : List (List Nat)) : glue (l ++ m) = glue l ++ glue m := List.flatMap_append
theorem text_polyT (ts : Tms) : AlBase.text (polyT ts) = textS (ts.map prs) := by
  cases ts with
  | nil => rfl
  | cons t ts =>
    show (if t.1 < 0 then 45 :: AlBase.termText (mo t.2) (-t.1) else AlBase.termText (mo t.2) t.1) ++ (polyT ts).flatMap AlBase.moreText = (if (prs t).1 then 45 :: (prs t).2 else (prs t).2) ++ glue (flatP (ts.map prs))
    congr 1
    · unfold prs
      by_cases h : t.1.num < 0
      · rw [if_pos (lt_num.mpr h)]; simp [h]
      · rw [if_neg (fun e => h (lt_num.mp e))]; simp [h]
    · induction ts with
      | nil => rfl
      | cons s ts ih =>
        show AlBase.moreText (mo s.2, s.1) ++ (polyT ts).flatMap AlBase.moreText = glue ([sgnP (prs s).1, (prs s).2] ++ flatP (ts.map prs))
        rw [glue_app, more_glue, ih]
theorem term_in {c : Rat} {k : Nat} (h : 0 ≤ c.num) : ∀ b ∈ AlBase.termText (mo k) c, b = 42 ∨ b = 94 ∨ b = 120 ∨ (47 ≤ b ∧ b ≤ 57) := by
  have hn : ∀ b ∈ numT c, 47 ≤ b ∧ b ≤ 57 := by
    intro b hb
    have h1 : ¬ (b < 47 ∨ 57 < b) := fun x => numT_notin x hb
    omega
  have hp : ∀ b ∈ powT k, b = 42 ∨ b = 94 ∨ b = 120 ∨ (47 ≤ b ∧ b ≤ 57) := by
    intro b hb
    unfold powT at hb
    rcases List.mem_cons.mp hb with e | e
    · omega
    · split at e
      · cases e
      · rcases List.mem_cons.mp e with e | e
        · omega
        · have := dg_mem k b e
          omega
  rw [termText_mo h]
  intro b hb
  split at hb
  · have := hn b hb; omega
  · split at hb
    · exact hp b hb
    · rcases List.mem_append.mp hb with e | e
      · have := hn b e; omega
      · rcases List.mem_cons.mp e with e | e
        · omega
        · exact hp b e
theorem abs_num (c : Rat) : 0 ≤ (if c.num < 0 then -c else c).num := by
  split
  · rw [Rat.neg_num]; omega
  · omega
theorem prs_in (t : Rat × Nat) : ∀ b ∈ (prs t).2, b = 42 ∨ b = 94 ∨ b = 120 ∨ (47 ≤ b ∧ b ≤ 57) := term_in (abs_num t.1)
theorem flatP_blank (ts : Tms) : ∀ v ∈ flatP (ts.map prs), 32 ∉ v := by
  intro v hv
  unfold flatP at hv
  rw [List.mem_flatMap] at hv
  obtain ⟨x, hx, h⟩ := hv
  rw [List.mem_map] at hx
  obtain ⟨t, _, rfl⟩ := hx
  intro h32
  rcases List.mem_cons.mp h with e | e
  · rw [e] at h32; unfold sgnP at h32; split at h32 <;> simp at h32
  · rw [List.mem_singleton] at e
    rw [e] at h32
    have := prs_in t 32 h32
    omega
/-- who is read: the text, and no other -/
theorem termsM_iff {u : List Nat} {ts : Tms} : termsM u = some ts ↔ Val ts ∧ u = AlBase.text (polyT ts) := by
  rw [text_polyT]
  unfold termsM
  constructor
  · intro h
    split at h
    · rename_i e
      have := Option.some.inj h
      subst this
      exact ⟨⟨.nil, (fun x hx => by cases hx)⟩, e⟩
    · rw [Option.bind_eq_some_iff] at h
      obtain ⟨l, hl, h⟩ := h
      rw [Option.bind_eq_some_iff] at h
      obtain ⟨ts', ht, h⟩ := h
      split at h
      · rename_i hf
        have := Option.some.inj h
        subst this
        obtain ⟨h1, h2⟩ := mapM_tm.mp ht
        have h3 := falls_iff.mp hf
        rw [List.pairwise_map] at h3
        refine ⟨⟨h3, h1⟩, ?_⟩
        unfold signedM at hl
        split at hl
        · cases hl
        · rename_i w m hs
          rw [Option.map_eq_some_iff] at hl
          obtain ⟨r, hr, e⟩ := hl
          have hm := moreM_iff.mp hr
          rw [← h2, ← e]
          have := split_glue hs
          rw [this, hm]
          unfold textS
          congr 1
          by_cases hw : w.take 1 = [45]
          · rw [if_pos hw]
            show w = 45 :: w.drop 1
            have h9 := List.take_append_drop 1 w
            rw [hw] at h9
            exact h9.symm
          · rw [if_neg hw]; rfl
      · cases h
  · rintro ⟨hv, hu⟩
    cases ts with
    | nil => rw [if_pos (show u = [48] from hu)]
    | cons t ts =>
      have hx : (signedM u).bind (fun l => (l.mapM tm).bind fun ts => if fallsB (ts.map fun t => t.2) then some ts else none) = some (t :: ts) := by
        have hu : u = (if (prs t).1 then 45 :: (prs t).2 else (prs t).2) ++ glue (flatP (ts.map prs)) := hu
        have h32 : 32 ∉ (if (prs t).1 then 45 :: (prs t).2 else (prs t).2) := by
          intro h
          have : 32 ∈ (prs t).2 := by
            split at h
            · rcases List.mem_cons.mp h with e | e
              · omega
              · exact e
            · exact h
          have := prs_in t 32 this
          omega
        have hs := glue_split h32 (flatP_blank ts)
        rw [← hu] at hs
        have hsig : signedM u = some ((t :: ts).map prs) := by
          unfold signedM
          rw [hs]
          show (moreM (flatP (ts.map prs))).map _ = _
          rw [moreM_iff.mpr rfl]
          show some (_ :: ts.map prs) = some (prs t :: ts.map prs)
          congr 2
          cases hb : (prs t).1 with
          | true =>
            rw [if_pos rfl, if_pos (by rfl)]
            show (true, (prs t).2) = prs t
            rw [← hb]
          | false =>
            have h45 : ¬ (prs t).2.take 1 = [45] := by
              intro h45
              have hm : 45 ∈ (prs t).2.take 1 := by rw [h45]; simp
              have := prs_in t 45 (List.mem_of_mem_take hm)
              omega
            have e9 : (if false = true then 45 :: (prs t).2 else (prs t).2) = (prs t).2 := rfl
            rw [e9, if_neg h45]
            show (false, (prs t).2) = prs t
            rw [← hb]
        rw [hsig]
        show (((t :: ts).map prs).mapM tm).bind _ = _
        rw [mapM_tm.mpr ⟨hv.c, rfl⟩]
        show (if fallsB ((t :: ts).map fun t => t.2) then some (t :: ts) else none) = some (t :: ts)
        rw [if_pos]
        rw [falls_iff, List.pairwise_map]; exact hv.s
      by_cases h48 : u = [48]
      · exfalso
        rw [h48] at hx
        rw [show signedM [48] = some [(false, [48])] by decide] at hx
        have h0 : tm (false, [48]) = none := by
          cases h : tm (false, [48]) with
          | none => rfl
          | some x =>
            obtain ⟨c, k⟩ := x
            exfalso
            obtain ⟨h1, h2⟩ := tm_iff.mp h
            have h3 : [48] = (prs (c, k)).2 := congrArg Prod.snd h2
            have h4 : termM [48] = some ((if c.num < 0 then -c else c), k) := termM_iff.mpr ⟨⟨abs_num c, fun e => h1 (by
              split at e
              · rw [← Rat.neg_neg c, e]; rfl
              · exact e)⟩, h3⟩
            have h5 : termM [48] = none := by
              have : unsignedM [48] = some 0 := unsignedM_iff.mpr ⟨by decide, by unfold numT; simp [dg_zero]⟩
              unfold termM rawM
              rw [if_neg (by decide), this]; rfl
            rw [h5] at h4; cases h4
        have : (([(false, [48])] : List (Bool × List Nat)).mapM tm) = none := by
          rw [List.mapM_cons, h0]; rfl
        rw [Option.bind_some, this] at hx
        cases hx
      · rw [if_neg h48]; exact hx
end Ma
/-! What the specification reads, by the program's terms. -/
namespace Ma
open AlBase (Mono Poly)
theorem readFactor_powT {k : Nat} (hk : 0 < k) : AlBase.readFactor (powT k) = some [(mo k, 1)] := by
  unfold powT mo
  by_cases h1 : k = 1
  · subst h1; rfl
  · rw [if_neg h1, if_neg (by omega)]
    have hs : AlBase.split 94 (120 :: 94 :: dg k) = [[120], dg k] := by
      have := split_one (sep := 94) (v := dg k) (w := [120]) (by decide)
      rw [split_none (dg_notin (by omega))] at this
      exact this
    unfold AlBase.readFactor
    rw [hs]
    show (AlBase.readDigits (dg k)).map _ = _
    rw [readDigits_dg]
    show some (if k = 0 then AlBase.one else [([(23, k)], 1)]) = _
    rw [if_neg (by omega)]; rfl
theorem powT_no42 (k : Nat) : 42 ∉ powT k := by
  unfold powT
  intro h
  rcases List.mem_cons.mp h with e | e
  · omega
  · split at e
    · cases e
    · rcases List.mem_cons.mp e with e | e
      · omega
      · exact dg_notin (by omega) e
theorem mul_single {c d : Rat} {k : Nat} (hk : 0 < k) (hc : c ≠ 0) (hd : d ≠ 0) : AlBase.mul [([], c)] [(mo k, d)] = [(mo k, c * d)] := by
  unfold AlBase.mul
  show AlBase.add [] (AlBase.termTimes ([], c) [(mo k, d)]) = _
  unfold AlBase.termTimes AlBase.scale
  rw [if_neg hc]
  show AlBase.plus (AlBase.times [] (mo k)) (c * d) [] = _
  have ht : AlBase.times [] (mo k) = mo k := by
    unfold mo
    rw [if_neg (by omega)]; rfl
  have hcd : c * d ≠ 0 := fun e => by
    rcases Rat.mul_eq_zero.mp e with e | e
    · exact hc e
    · exact hd e
  rw [plus_nil, if_neg hcd, ht]
theorem readTerm_T {k : Nat} {c : Rat} (h0 : 0 ≤ c.num) (hc : c ≠ 0) : AlBase.readTerm (AlBase.termText (mo k) c) = some [(mo k, c)] := by
  rw [termText_mo h0]
  by_cases hk : k = 0
  · rw [if_pos hk, readTerm_numT h0, const_ne hc, hk]; rfl
  · rw [if_neg hk]
    by_cases h1 : c = 1
    · rw [if_pos h1]
      unfold AlBase.readTerm
      rw [split_none (powT_no42 k), List.mapM_cons, readFactor_powT (by omega)]
      show some (AlBase.mul AlBase.one [(mo k, 1)]) = _
      rw [show AlBase.one = [([], 1)] from rfl, mul_single (by omega) one_ne one_ne, h1, Rat.mul_one]
    · rw [if_neg h1]
      unfold AlBase.readTerm
      rw [split_one (numT_notin (by omega)), split_none (powT_no42 k), List.mapM_cons, List.mapM_cons, readFactor_powT (by omega), readFactor_numT h0]
      show some (AlBase.mul (AlBase.mul AlBase.one (AlBase.const c)) [(mo k, 1)]) = _
      rw [mul_one_const, const_ne hc, mul_single (by omega) hc one_ne, Rat.mul_one]
theorem mo_inj {a b : Nat} (h : mo a = mo b) : a = b := by
  have := congrArg AlBase.degree h
  rw [degree_mo, degree_mo] at this; exact this
theorem plus_end {k : Nat} {c : Rat} (hc : c ≠ 0) : ∀ {ts : Tms}, (∀ x ∈ ts, k < x.2) → AlBase.plus (mo k) c (polyT ts) = polyT (ts ++ [(c, k)])
  | [], _ => by
    show AlBase.plus (mo k) c [] = [(mo k, c)]
    rw [plus_nil, if_neg hc]
  | x :: ts, h => by
    show AlBase.plus (mo k) c ((mo x.2, x.1) :: polyT ts) = (mo x.2, x.1) :: polyT (ts ++ [(c, k)])
    have hx := h x List.mem_cons_self
    have hn : ¬ AlBase.above (mo k) (mo x.2) = true := fun e => by
      have := above_mo e
      omega
    rw [plus_cons, if_neg hc, if_neg (fun e => by have := mo_inj e; omega), if_neg hn, plus_end hc fun y hy => h y (List.mem_cons_of_mem _ hy)]
theorem prs_true {t : Rat × Nat} (h : t.1.num < 0) : prs t = (true, AlBase.termText (mo t.2) (-t.1)) := by
  unfold prs; rw [decide_eq_true h, if_pos h]
theorem prs_false {t : Rat × Nat} (h : ¬ t.1.num < 0) : prs t = (false, AlBase.termText (mo t.2) t.1) := by
  unfold prs; rw [decide_eq_false h, if_neg h]
theorem neg_single (m : Mono) (c : Rat) : AlBase.neg [(m, -c)] = [(m, c)] := by
  unfold AlBase.neg AlBase.scale
  rw [if_neg (by decide)]
  show [(m, -1 * -c)] = _
  rw [show (-1 : Rat) * -c = c by grind]
theorem neg_ne {c : Rat} (h : c ≠ 0) : -c ≠ 0 := fun e => h (by rw [← Rat.neg_neg c, e]; rfl)
theorem readMore_T : ∀ (ts acc : Tms), Val (acc ++ ts) → AlBase.readMore (polyT acc) (flatP (ts.map prs)) = some (polyT (acc ++ ts))
  | [], acc, _ => by rw [List.append_nil]; rfl
  | t :: ts, acc, hv => by
    have hc : t.1 ≠ 0 := hv.c t (by simp)
    have hlt : ∀ x ∈ acc, t.2 < x.2 := fun x hx => (List.pairwise_append.mp hv.s).2.2 x hx t List.mem_cons_self
    have hadd : AlBase.add (polyT acc) [(mo t.2, t.1)] = polyT (acc ++ [t]) := plus_end hc hlt
    have ih := readMore_T ts (acc ++ [t]) (by rw [List.append_assoc]; exact hv)
    rw [List.append_assoc] at ih
    show AlBase.readMore (polyT acc) (sgnP (prs t).1 :: (prs t).2 :: flatP (ts.map prs)) = _
    rw [AlBase.readMore]
    by_cases hn : t.1.num < 0
    · rw [prs_true hn]
      show (if ([45] : List Nat) = [43] then _ else if ([45] : List Nat) = [45] then (AlBase.readTerm (AlBase.termText (mo t.2) (-t.1))).bind fun p => AlBase.readMore (AlBase.sub (polyT acc) p) (flatP (ts.map prs)) else none) = _
      rw [if_neg (by decide), if_pos rfl, readTerm_T (by rw [Rat.neg_num]; omega) (neg_ne hc)]
      show AlBase.readMore (AlBase.add (polyT acc) (AlBase.neg [(mo t.2, -t.1)])) _ = _
      rw [neg_single, hadd]; exact ih
    · rw [prs_false hn]
      show (if ([43] : List Nat) = [43] then (AlBase.readTerm (AlBase.termText (mo t.2) t.1)).bind fun p => AlBase.readMore (AlBase.add (polyT acc) p) (flatP (ts.map prs)) else _) = _
      rw [if_pos rfl, readTerm_T (by omega) hc]
      show AlBase.readMore (AlBase.add (polyT acc) [(mo t.2, t.1)]) _ = _
      rw [hadd]; exact ih
theorem readSum_T {ts : Tms} (hv : Val ts) : AlBase.readSum (AlBase.text (polyT ts)) = some (polyT ts) := by
  cases ts with
  | nil =>
    have h := readSum_sgnT 0
    rw [const_zero, show sgnT 0 = [48] by unfold sgnT numT; simp [dg_zero]] at h
    exact h
  | cons t ts =>
    rw [text_polyT]
    have hc : t.1 ≠ 0 := hv.c t List.mem_cons_self
    have h32 : 32 ∉ (if (prs t).1 then 45 :: (prs t).2 else (prs t).2) := by
      intro h
      have : 32 ∈ (prs t).2 := by
        split at h
        · rcases List.mem_cons.mp h with e | e
          · omega
          · exact e
        · exact h
      have := prs_in t 32 this
      omega
    have hs := glue_split h32 (flatP_blank ts)
    have hm := readMore_T ts [t] hv
    unfold AlBase.readSum
    show (match AlBase.split 32 ((if (prs t).1 then 45 :: (prs t).2 else (prs t).2) ++ glue (flatP (ts.map prs))) with
      | [] => none
      | w :: l => if w.headD 0 = 45 then (AlBase.readTerm w.tail).bind fun p => AlBase.readMore (AlBase.neg p) l else (AlBase.readTerm w).bind fun p => AlBase.readMore p l) = _
    rw [hs]
    by_cases hn : t.1.num < 0
    · rw [prs_true hn]
      show (AlBase.readTerm (AlBase.termText (mo t.2) (-t.1))).bind (fun p => AlBase.readMore (AlBase.neg p) (flatP (ts.map prs))) = _
      rw [readTerm_T (by rw [Rat.neg_num]; omega) (neg_ne hc)]
      show AlBase.readMore (AlBase.neg [(mo t.2, -t.1)]) _ = _
      rw [neg_single]; exact hm
    · have hin := prs_in t
      rw [prs_false hn] at hin ⊢
      have h45 : ¬ (AlBase.termText (mo t.2) t.1).headD 0 = 45 := by
        intro e
        cases hw : AlBase.termText (mo t.2) t.1 with
        | nil => rw [hw] at e; cases e
        | cons b l =>
          rw [hw] at e
          have e : b = 45 := e
          have := hin b (by rw [hw]; exact List.mem_cons_self)
          omega
      show (if (AlBase.termText (mo t.2) t.1).headD 0 = 45 then _ else (AlBase.readTerm (AlBase.termText (mo t.2) t.1)).bind fun p => AlBase.readMore p (flatP (ts.map prs))) = _
      rw [if_neg h45, readTerm_T (by omega) hc]
      exact hm
theorem read_T {ts : Tms} (hv : Val ts) : AlBase.read (AlBase.text (polyT ts)) = some (polyT ts) := by
  unfold AlBase.read
  rw [readSum_T hv]
  show (if _ then _ else _) = _
  rw [if_pos rfl]
theorem read_terms (u : List Nat) : AlOne.read u = (termsM u).bind fun ts => AlOne.ofPoly (polyT ts) := by
  cases h : termsM u with
  | some ts =>
    obtain ⟨hv, hu⟩ := termsM_iff.mp h
    unfold AlOne.read
    rw [hu, read_T hv]
    rfl
  | none =>
    show AlOne.read u = none
    cases hr : AlOne.read u with
    | none => rfl
    | some p =>
      exfalso
      unfold AlOne.read at hr
      rw [Option.bind_eq_some_iff] at hr
      obtain ⟨q, hq, ho⟩ := hr
      unfold AlBase.read at hq
      rw [Option.bind_eq_some_iff] at hq
      obtain ⟨q', hs, hq⟩ := hq
      split at hq
      · rename_i ht
        have e := Option.some.inj hq
        subst e
        have hl : (AlBase.letters q').all (fun (a : Nat) => decide (a = AlOne.X)) = true := by
          unfold AlOne.ofPoly at ho
          split at ho
          · rename_i h1; exact h1.1
          · split at ho
            · rename_i h1; exact h1
            · cases ho
        obtain ⟨ts, hv, hp⟩ := ok_x (readSum_ok hs) hl
        have := termsM_iff.mpr ⟨hv, (by rw [← hp, ht] : u = AlBase.text (polyT ts))⟩
        rw [h] at this; cases this
      · cases hq
/-! the numbers of the powers -/
def cf (ts : Tms) (n : Nat) : Rat := ((ts.find? fun x => decide (x.2 = n)).map fun x => x.1).getD 0
def hT (ts : Tms) : Nat := ts.foldl (fun (s : Nat) (x : Rat × Nat) => max s x.2) 0
theorem often_mo (k : Nat) : AlBase.often AlOne.X (mo k) = k := by
  unfold mo
  split
  · rename_i h; subst h; rfl
  · show (if AlOne.X = AlOne.X then k else _) = k
    rw [if_pos rfl]
theorem without_mo (k : Nat) : AlBase.without AlOne.X (mo k) = [] := by
  unfold mo AlBase.without
  split
  · rfl
  · simp
theorem deg_polyT (ts : Tms) : AlBase.polyDegree (polyT ts) = hT ts := by
  unfold AlBase.polyDegree polyT hT
  rw [List.foldl_map]
  congr 1
  funext s x
  show max s (AlBase.degree (mo x.2)) = max s x.2
  rw [degree_mo]
theorem height_polyT (ts : Tms) : AlBase.height AlOne.X (polyT ts) = hT ts := by
  unfold AlBase.height polyT hT
  rw [List.foldl_map]
  congr 1
  funext s x
  show max s (AlBase.often AlOne.X (mo x.2)) = max s x.2
  rw [often_mo]
theorem letters_polyT (ts : Tms) : (AlBase.letters (polyT ts)).all (fun (a : Nat) => decide (a = AlOne.X)) = true := by
  rw [List.all_eq_true]
  intro a ha
  rw [letters_mem] at ha
  obtain ⟨x, hx, y, hy, e⟩ := ha
  unfold polyT at hx
  rw [List.mem_map] at hx
  obtain ⟨t, _, e2⟩ := hx
  subst e2
  have hy : y ∈ mo t.2 := hy
  unfold mo at hy
  split at hy
  · cases hy
  · rw [List.mem_singleton] at hy
    rw [decide_eq_true_eq, ← e, hy]
theorem filter_T (n : Nat) : ∀ {ts : Tms}, Val ts → (ts.filter fun x => decide (x.2 = n)) = (ts.find? fun x => decide (x.2 = n)).toList
  | [], _ => rfl
  | t :: ts, hv => by
    have hs := List.pairwise_cons.mp hv.s
    have hv' : Val ts := ⟨hs.2, fun x hx => hv.c x (List.mem_cons_of_mem _ hx)⟩
    by_cases h : t.2 = n
    · rw [List.filter_cons_of_pos (by simpa using h), List.find?_cons_of_pos (by simpa using h)]
      have : (ts.filter fun x => decide (x.2 = n)) = [] := by
        rw [List.filter_eq_nil_iff]
        intro x hx
        have := hs.1 x hx
        simp; omega
      rw [this]; rfl
    · rw [List.filter_cons_of_neg (by simpa using h), List.find?_cons_of_neg (by simpa using h)]
      exact filter_T n hv'
theorem part_val {ts : Tms} (hv : Val ts) (n : Nat) : AlBase.value (fun _ => 0) (AlBase.part AlOne.X n (polyT ts)) = cf ts n := by
  unfold AlBase.part polyT
  rw [List.filter_map, List.map_map]
  have e1 : (ts.filter ((fun (x : Mono × Rat) => decide (AlBase.often AlOne.X x.1 = n)) ∘ fun x => (mo x.2, x.1))) = ts.filter fun x => decide (x.2 = n) := by
    congr 1
    funext x
    show decide (AlBase.often AlOne.X (mo x.2) = n) = _
    rw [often_mo]
  rw [e1, filter_T n hv]
  unfold cf
  cases hf : ts.find? fun x => decide (x.2 = n) with
  | none => rfl
  | some t =>
    have hc : t.1 ≠ 0 := hv.c t (List.mem_of_find?_eq_some hf)
    show AlBase.value (fun _ => 0) (AlBase.plus (AlBase.without AlOne.X (mo t.2)) t.1 []) = t.1
    rw [without_mo, plus_nil, if_neg hc, value_const]
theorem ofPoly_T {ts : Tms} (hv : Val ts) : AlOne.ofPoly (polyT ts) = if 100 < hT ts then some (AlOne.xpow 100) else some (AlOne.trim ((List.range (hT ts + 1)).map (cf ts))) := by
  unfold AlOne.ofPoly
  rw [letters_polyT, deg_polyT, height_polyT]
  by_cases h : 100 < hT ts
  · rw [if_pos ⟨rfl, h⟩, if_pos h]
  · rw [if_neg (fun x => h x.2), if_pos rfl, if_neg h]
    congr 2
    exact List.map_congr_left fun n _ => part_val hv n
theorem hT_le {ts : Tms} : ∀ x ∈ ts, x.2 ≤ hT ts := by
  unfold hT
  have : ∀ (ts : Tms) (s : Nat), s ≤ ts.foldl (fun (s : Nat) (x : Rat × Nat) => max s x.2) s ∧ ∀ x ∈ ts, x.2 ≤ ts.foldl (fun (s : Nat) (x : Rat × Nat) => max s x.2) s := by
    intro ts
    induction ts with
    | nil => intro s; exact ⟨Nat.le_refl _, fun x hx => by cases hx⟩
    | cons t ts ih =>
      intro s
      obtain ⟨h1, h2⟩ := ih (max s t.2)
      rw [List.foldl_cons]
      refine ⟨by omega, fun x hx => ?_⟩
      rcases List.mem_cons.mp hx with e | e
      · subst e; omega
      · exact h2 x e
  exact (this ts 0).2
theorem hT_at (ts : Tms) : hT ts = 0 ∨ ∃ x ∈ ts, x.2 = hT ts := by
  unfold hT
  have : ∀ (ts : Tms) (s : Nat), ts.foldl (fun (s : Nat) (x : Rat × Nat) => max s x.2) s = s ∨ ∃ x ∈ ts, x.2 = ts.foldl (fun (s : Nat) (x : Rat × Nat) => max s x.2) s := by
    intro ts
    induction ts with
    | nil => intro s; exact .inl rfl
    | cons t ts ih =>
      intro s
      rw [List.foldl_cons]
      rcases ih (max s t.2) with h | ⟨x, hx, h⟩
      · rw [h]
        by_cases hm : t.2 ≤ s
        · exact .inl (by omega)
        · exact .inr ⟨t, List.mem_cons_self, by omega⟩
      · exact .inr ⟨x, List.mem_cons_of_mem _ hx, h⟩
  exact this ts 0
theorem cf_of {ts : Tms} (hv : Val ts) {x : Rat × Nat} (hx : x ∈ ts) : cf ts x.2 = x.1 := by
  unfold cf
  have h1 : x ∈ ts.filter fun y => decide (y.2 = x.2) := List.mem_filter.mpr ⟨hx, by simp⟩
  rw [filter_T x.2 hv] at h1
  cases hf : ts.find? fun y => decide (y.2 = x.2) with
  | none => rw [hf] at h1; cases h1
  | some t =>
    rw [hf] at h1
    rw [Option.mem_toList] at h1
    have := Option.some.inj h1
    subst this; rfl
theorem cf_zero {ts : Tms} {n : Nat} (h : ∀ x ∈ ts, x.2 ≠ n) : cf ts n = 0 := by
  unfold cf
  have : (ts.find? fun y => decide (y.2 = n)) = none := by
    rw [List.find?_eq_none]
    intro x hx
    simpa using h x hx
  rw [this]; rfl
theorem cf_mem (ts : Tms) (n : Nat) : cf ts n = 0 ∨ ∃ x ∈ ts, x.1 = cf ts n := by
  unfold cf
  cases hf : ts.find? fun y => decide (y.2 = n) with
  | none => exact .inl rfl
  | some t => exact .inr ⟨t, List.mem_of_find?_eq_some hf, rfl⟩
theorem trim_zeros (l : List Rat) : ∀ k : Nat, AlOne.trim (l ++ List.replicate k 0) = AlOne.trim l
  | 0 => by rw [List.replicate_zero, List.append_nil]
  | k + 1 => by
    have h1 : ∀ l : List Rat, AlOne.trim (l ++ [0]) = AlOne.trim l := by
      intro l
      induction l with
      | nil => rw [List.nil_append, trim_cons]; simp [AlOne.trim]
      | cons c l ih => rw [List.cons_append, trim_cons, trim_cons, ih]
    rw [List.replicate_succ', ← List.append_assoc, h1, trim_zeros l k]
theorem trim_sub : ∀ {l : List Rat} {c : Rat}, c ∈ AlOne.trim l → c ∈ l
  | [], c, h => by cases h
  | d :: l, c, h => by
    rw [trim_cons] at h
    split at h
    · split at h
      · cases h
      · rw [List.mem_singleton] at h; rw [h]; exact List.mem_cons_self
    · rcases List.mem_cons.mp h with e | e
      · rw [e]; exact List.mem_cons_self
      · exact List.mem_cons_of_mem _ (trim_sub e)
theorem trim_in : ∀ {l : List Rat} {c : Rat}, c ∈ l → c ≠ 0 → c ∈ AlOne.trim l
  | [], c, h, _ => by cases h
  | d :: l, c, h, hc => by
    rw [trim_cons]
    rcases List.mem_cons.mp h with e | e
    · subst e
      split
      · first | exact List.mem_cons_self | (rw [if_neg hc]; exact List.mem_cons_self)
      · exact List.mem_cons_self
    · have := trim_in e hc
      split
      · rename_i h0; rw [h0] at this; cases this
      · exact List.mem_cons_of_mem _ this
theorem trim_len (l : List Rat) : (AlOne.trim l).length ≤ l.length := by
  induction l with
  | nil => simp [AlOne.trim]
  | cons c l ih =>
    rw [trim_cons]
    split
    · split <;> simp
    · simp; exact ih
/-- the polynomial of terms of powers up to 8 -/
def coefs (ts : Tms) : List Rat := AlOne.trim ((List.range 9).map (cf ts))
def badT (x : Rat × Nat) : Bool := decide (8 < x.2) || !Al09.numberOk x.1
theorem read_value (u : List Nat) (go : List Rat → Al09.Ans) :
    (match AlOne.read u with
      | none => Al09.no (-1)
      | some p => if 9 < p.length ∨ p.all Al09.numberOk = false then Al09.no (-2) else go p) =
    match termsM u with
      | none => Al09.no (-1)
      | some ts => if ts.any badT then Al09.no (-2) else go (coefs ts) := by
  rw [read_terms]
  cases h : termsM u with
  | none => rfl
  | some ts =>
    obtain ⟨hv, _⟩ := termsM_iff.mp h
    show (match AlOne.ofPoly (polyT ts) with
      | none => Al09.no (-1)
      | some p => if 9 < p.length ∨ p.all Al09.numberOk = false then Al09.no (-2) else go p) = if ts.any badT then Al09.no (-2) else go (coefs ts)
    rw [ofPoly_T hv]
    by_cases h8 : 8 < hT ts
    · have hbad : ts.any badT = true := by
        rcases hT_at ts with h0 | ⟨x, hx, e⟩
        · omega
        · refine List.any_eq_true.mpr ⟨x, hx, ?_⟩
          unfold badT
          rw [decide_eq_true (by omega)]; rfl
      rw [if_pos hbad]
      by_cases h100 : 100 < hT ts
      · rw [if_pos h100]
        show (if 9 < (AlOne.xpow 100).length ∨ _ then _ else _) = _
        rw [if_pos (.inl (by decide))]
      · rw [if_neg h100]
        show (if 9 < (AlOne.trim ((List.range (hT ts + 1)).map (cf ts))).length ∨ _ then _ else _) = _
        refine if_pos (.inl ?_)
        rcases hT_at ts with h0 | ⟨x, hx, e⟩
        · omega
        · have hc : cf ts (hT ts) ≠ 0 := by rw [← e, cf_of hv hx]; exact hv.c x hx
          have ht : AlOne.trim ((List.range (hT ts + 1)).map (cf ts)) = (List.range (hT ts + 1)).map (cf ts) := by
            refine tr_of_lead fun _ => ?_
            rw [List.range_succ, List.map_append]
            unfold AlOne.lead
            simpa using hc
          rw [ht, List.length_map, List.length_range]; omega
    · rw [if_neg (by omega)]
      have hp : AlOne.trim ((List.range (hT ts + 1)).map (cf ts)) = coefs ts := by
        unfold coefs
        have e : (List.range 9).map (cf ts) = (List.range (hT ts + 1)).map (cf ts) ++ List.replicate (8 - hT ts) 0 := by
          apply List.ext_getElem
          · simp; omega
          · intro i h1 h2
            by_cases hi : i < hT ts + 1
            · rw [List.getElem_append_left (by simpa using hi)]; simp
            · rw [List.getElem_append_right (by simpa using hi)]
              simp only [List.getElem_map, List.getElem_range, List.getElem_replicate]
              exact cf_zero fun x hx e => by have := hT_le x hx; omega
        rw [e, trim_zeros]
      rw [hp]
      show (if 9 < (coefs ts).length ∨ (coefs ts).all Al09.numberOk = false then Al09.no (-2) else go (coefs ts)) = _
      have hl : (coefs ts).length ≤ 9 := by
        have := trim_len ((List.range 9).map (cf ts))
        rw [List.length_map, List.length_range] at this
        exact this
      have hall : (coefs ts).all Al09.numberOk = !ts.any badT := by
        by_cases hb : ts.any badT = true
        · rw [hb]
          obtain ⟨x, hx, e⟩ := List.any_eq_true.mp hb
          have hx8 := hT_le x hx
          have hn : Al09.numberOk x.1 = false := by
            unfold badT at e
            rw [decide_eq_false (by omega), Bool.false_or] at e
            cases hh : Al09.numberOk x.1 with
            | false => rfl
            | true => rw [hh] at e; cases e
          have hm : x.1 ∈ coefs ts := by
            refine trim_in ?_ (hv.c x hx)
            rw [← cf_of hv hx]
            exact List.mem_map.mpr ⟨x.2, by rw [List.mem_range]; omega, rfl⟩
          cases hh : (coefs ts).all Al09.numberOk with
          | false => rfl
          | true =>
            have := List.all_eq_true.mp hh x.1 hm
            rw [hn] at this; cases this
        · rw [show ts.any badT = false by simpa using hb]
          refine List.all_eq_true.mpr fun c hc => ?_
          have := trim_sub hc
          rw [List.mem_map] at this
          obtain ⟨n, _, e⟩ := this
          rcases cf_mem ts n with h0 | ⟨x, hx, e2⟩
          · rw [← e, h0]; decide
          · rw [← e, ← e2]
            have hxb : ¬ badT x = true := fun hxb => hb (List.any_eq_true.mpr ⟨x, hx, hxb⟩)
            unfold badT at hxb
            cases hh : Al09.numberOk x.1 with
            | true => rfl
            | false => rw [hh] at hxb; simp at hxb
      by_cases hb : ts.any badT = true
      · rw [if_pos hb, if_pos (.inr (by rw [hall, hb]; rfl))]
      · have hb' : ts.any badT = false := by simpa using hb
        rw [if_neg hb, if_neg]
        rintro (h1 | h1)
        · omega
        · rw [hall, hb'] at h1; cases h1
end Ma
set_option maxRecDepth 100000
namespace W
open PySem PySem.Spec PyProof.Rows L2
def topS (i : Nat) : Stmt := PySem.Challenge.pw_tablesalike_s05_value.main.body.getD i (.Pass ⟨0, 0, 0, 0⟩)
abbrev s_whole_common : Stmt := topS 3
abbrev s_lowest : Stmt := topS 4
abbrev s_ratio_sum : Stmt := topS 5
abbrev s_ratio_minus : Stmt := topS 6
abbrev s_ratio_product : Stmt := topS 7
abbrev s_empty_table : Stmt := topS 9
abbrev s_row_times : Stmt := topS 10
abbrev s_column_of : Stmt := topS 11
abbrev s_table_product : Stmt := topS 12
abbrev s_poly_at : Stmt := topS 13
abbrev s_trimmed : Stmt := topS 15
abbrev s_whole_of : Stmt := topS 27
abbrev s_unsigned_of : Stmt := topS 28
abbrev s_number_of : Stmt := topS 29
abbrev s_numbers_of : Stmt := topS 30
abbrev s_is_long : Stmt := topS 31
abbrev s_numbers_refusal : Stmt := topS 32
abbrev s_counted_refusal : Stmt := topS 33
abbrev s_table_of : Stmt := topS 34
abbrev s_power_of : Stmt := topS 42
abbrev s_factor_of : Stmt := topS 43
abbrev s_term_of : Stmt := topS 44
abbrev s_pieces_of : Stmt := topS 45
abbrev s_signed_pieces : Stmt := topS 46
abbrev s_falling : Stmt := topS 47
abbrev s_terms_of : Stmt := topS 48
abbrev s_poly_refusal : Stmt := topS 49
abbrev s_poly_of : Stmt := topS 50
abbrev s_number_text : Stmt := topS 52
abbrev s_table_answer : Stmt := topS 53
abbrev s_answer : Stmt := topS 54
abbrev s_value : Stmt := topS 56
abbrev n_whole_common : List Str := ["first", "second", "larger", "smaller", "rest"]
theorem sc_whole_common : FnScope ["first", "second", "larger", "smaller", "rest"] ["first", "second"] (defScope s_whole_common) := ⟨rfl, rfl, rfl, by decide +kernel, rfl, by decide +kernel, by decide +kernel⟩
abbrev n_lowest : List Str := ["top", "bottom", "shared"]
theorem sc_lowest : FnScope ["top", "bottom", "shared"] ["top", "bottom"] (defScope s_lowest) := ⟨rfl, rfl, rfl, by decide +kernel, rfl, by decide +kernel, by decide +kernel⟩
abbrev n_ratio_sum : List Str := ["first", "second"]
theorem sc_ratio_sum : FnScope ["first", "second"] ["first", "second"] (defScope s_ratio_sum) := ⟨rfl, rfl, rfl, by decide +kernel, rfl, by decide +kernel, by decide +kernel⟩
abbrev n_ratio_minus : List Str := ["number"]
theorem sc_ratio_minus : FnScope ["number"] ["number"] (defScope s_ratio_minus) := ⟨rfl, rfl, rfl, by decide +kernel, rfl, by decide +kernel, by decide +kernel⟩
abbrev n_ratio_product : List Str := ["first", "second"]
theorem sc_ratio_product : FnScope ["first", "second"] ["first", "second"] (defScope s_ratio_product) := ⟨rfl, rfl, rfl, by decide +kernel, rfl, by decide +kernel, by decide +kernel⟩
abbrev n_empty_table : List Str := ["size", "row"]
theorem sc_empty_table : FnScope ["size", "row"] ["size"] (defScope s_empty_table) := ⟨rfl, rfl, rfl, by decide +kernel, rfl, by decide +kernel, by decide +kernel⟩
abbrev n_row_times : List Str := ["row", "vector", "total", "left", "right"]
theorem sc_row_times : FnScope ["row", "vector", "total", "left", "right"] ["row", "vector"] (defScope s_row_times) := ⟨rfl, rfl, rfl, by decide +kernel, rfl, by decide +kernel, by decide +kernel⟩
abbrev n_column_of : List Str := ["table", "at", "row"]
theorem sc_column_of : FnScope ["table", "at", "row"] ["table", "at"] (defScope s_column_of) := ⟨rfl, rfl, rfl, by decide +kernel, rfl, by decide +kernel, by decide +kernel⟩
abbrev n_table_product : List Str := ["left", "right", "columns", "at", "rows", "row", "column"]
theorem sc_table_product : FnScope ["left", "right", "columns", "at", "rows", "row", "column"] ["left", "right"] (defScope s_table_product) := ⟨rfl, rfl, rfl, by decide +kernel, rfl, by decide +kernel, by decide +kernel⟩
abbrev n_poly_at : List Str := ["p", "table", "total", "number", "at"]
theorem sc_poly_at : FnScope ["p", "table", "total", "number", "at"] ["p", "table"] (defScope s_poly_at) := ⟨rfl, rfl, rfl, by decide +kernel, rfl, by decide +kernel, by decide +kernel⟩
abbrev n_trimmed : List Str := ["numbers", "kept"]
theorem sc_trimmed : FnScope ["numbers", "kept"] ["numbers"] (defScope s_trimmed) := ⟨rfl, rfl, rfl, by decide +kernel, rfl, by decide +kernel, by decide +kernel⟩
abbrev n_whole_of : List Str := ["digits", "value", "digit"]
theorem sc_whole_of : FnScope ["digits", "value", "digit"] ["digits"] (defScope s_whole_of) := ⟨rfl, rfl, rfl, by decide +kernel, rfl, by decide +kernel, by decide +kernel⟩
abbrev n_unsigned_of : List Str := ["text", "value", "at", "top", "bottom"]
theorem sc_unsigned_of : FnScope ["text", "value", "at", "top", "bottom"] ["text"] (defScope s_unsigned_of) := ⟨rfl, rfl, rfl, by decide +kernel, rfl, by decide +kernel, by decide +kernel⟩
abbrev n_number_of : List Str := ["text", "size"]
theorem sc_number_of : FnScope ["text", "size"] ["text"] (defScope s_number_of) := ⟨rfl, rfl, rfl, by decide +kernel, rfl, by decide +kernel, by decide +kernel⟩
abbrev n_numbers_of : List Str := ["texts", "text"]
theorem sc_numbers_of : FnScope ["texts", "text"] ["texts"] (defScope s_numbers_of) := ⟨rfl, rfl, rfl, by decide +kernel, rfl, by decide +kernel, by decide +kernel⟩
abbrev n_is_long : List Str := ["number"]
theorem sc_is_long : FnScope ["number"] ["number"] (defScope s_is_long) := ⟨rfl, rfl, rfl, by decide +kernel, rfl, by decide +kernel, by decide +kernel⟩
abbrev n_numbers_refusal : List Str := ["texts", "numbers", "number"]
theorem sc_numbers_refusal : FnScope ["texts", "numbers", "number"] ["texts"] (defScope s_numbers_refusal) := ⟨rfl, rfl, rfl, by decide +kernel, rfl, by decide +kernel, by decide +kernel⟩
abbrev n_counted_refusal : List Str := ["n", "texts", "count"]
theorem sc_counted_refusal : FnScope ["n", "texts", "count"] ["n", "texts", "count"] (defScope s_counted_refusal) := ⟨rfl, rfl, rfl, by decide +kernel, rfl, by decide +kernel, by decide +kernel⟩
abbrev n_table_of : List Str := ["texts", "size", "numbers", "at"]
theorem sc_table_of : FnScope ["texts", "size", "numbers", "at"] ["texts"] (defScope s_table_of) := ⟨rfl, rfl, rfl, by decide +kernel, rfl, by decide +kernel, by decide +kernel⟩
abbrev n_power_of : List Str := ["text", "power"]
theorem sc_power_of : FnScope ["text", "power"] ["text"] (defScope s_power_of) := ⟨rfl, rfl, rfl, by decide +kernel, rfl, by decide +kernel, by decide +kernel⟩
abbrev n_factor_of : List Str := ["text", "number"]
theorem sc_factor_of : FnScope ["text", "number"] ["text"] (defScope s_factor_of) := ⟨rfl, rfl, rfl, by decide +kernel, rfl, by decide +kernel, by decide +kernel⟩
abbrev n_term_of : List Str := ["piece", "at", "number", "power"]
theorem sc_term_of : FnScope ["piece", "at", "number", "power"] ["piece"] (defScope s_term_of) := ⟨rfl, rfl, rfl, by decide +kernel, rfl, by decide +kernel, by decide +kernel⟩
abbrev n_pieces_of : List Str := ["text", "pieces", "byte"]
theorem sc_pieces_of : FnScope ["text", "pieces", "byte"] ["text"] (defScope s_pieces_of) := ⟨rfl, rfl, rfl, by decide +kernel, rfl, by decide +kernel, by decide +kernel⟩
abbrev n_signed_pieces : List Str := ["text", "pieces", "first", "found", "at"]
theorem sc_signed_pieces : FnScope ["text", "pieces", "first", "found", "at"] ["text"] (defScope s_signed_pieces) := ⟨rfl, rfl, rfl, by decide +kernel, rfl, by decide +kernel, by decide +kernel⟩
abbrev n_falling : List Str := ["powers", "high", "low"]
theorem sc_falling : FnScope ["powers", "high", "low"] ["powers"] (defScope s_falling) := ⟨rfl, rfl, rfl, by decide +kernel, rfl, by decide +kernel, by decide +kernel⟩
abbrev n_terms_of : List Str := ["text", "signed", "terms", "below", "piece", "term"]
theorem sc_terms_of : FnScope ["text", "signed", "terms", "below", "piece", "term"] ["text"] (defScope s_terms_of) := ⟨rfl, rfl, rfl, by decide +kernel, rfl, by decide +kernel, by decide +kernel⟩
abbrev n_poly_refusal : List Str := ["text", "terms", "term"]
theorem sc_poly_refusal : FnScope ["text", "terms", "term"] ["text"] (defScope s_poly_refusal) := ⟨rfl, rfl, rfl, by decide +kernel, rfl, by decide +kernel, by decide +kernel⟩
abbrev n_poly_of : List Str := ["text", "numbers", "number", "power"]
theorem sc_poly_of : FnScope ["text", "numbers", "number", "power"] ["text"] (defScope s_poly_of) := ⟨rfl, rfl, rfl, by decide +kernel, rfl, by decide +kernel, by decide +kernel⟩
abbrev n_number_text : List Str := ["number", "text"]
theorem sc_number_text : FnScope ["number", "text"] ["number"] (defScope s_number_text) := ⟨rfl, rfl, rfl, by decide +kernel, rfl, by decide +kernel, by decide +kernel⟩
abbrev n_table_answer : List Str := ["table", "texts", "row", "number"]
theorem sc_table_answer : FnScope ["table", "texts", "row", "number"] ["table"] (defScope s_table_answer) := ⟨rfl, rfl, rfl, by decide +kernel, rfl, by decide +kernel, by decide +kernel⟩
abbrev n_answer : List Str := ["first", "texts", "told", "text", "sign"]
theorem sc_answer : FnScope ["first", "texts", "told", "text", "sign"] ["first", "texts"] (defScope s_answer) := ⟨rfl, rfl, rfl, by decide +kernel, rfl, by decide +kernel, by decide +kernel⟩
abbrev n_value : List Str := ["n", "texts", "refusal"]
theorem sc_value : FnScope ["n", "texts", "refusal"] ["n", "texts"] (defScope s_value) := ⟨rfl, rfl, rfl, by decide +kernel, rfl, by decide +kernel, by decide +kernel⟩
/-- a def of the text, where it stands, how it is called -/
structure D (K : PySem.W.Frag) (mg : Str → Option Value) (x : Str) (st : Stmt) (ps : List Str) (f : Addr) (fd : FuncData) : Prop where
  F : Fun K x x st f fd
  b : Binds K fd ps []
  g : mg x = some (.ref f)
/-- a written dict of whole numbers -/
def dictRow (e : DictEntry) : Option (Int × Int) := match e.key, e.val with
  | .int i _, .int j _ => if e.hash = hashInt i then some (i, j) else none
  | _, _ => none
def dictRows (es : Array DictEntry) : Option (List (Int × Int)) := es.toList.mapM dictRow
/-- what the top has written -/
structure Txt (K : PySem.W.Frag) (mg : Str → Option Value) where
  f_whole_common : Addr
  e_whole_common : FuncData
  d_whole_common : D K mg "whole_common" s_whole_common ["first", "second"] f_whole_common e_whole_common
  f_lowest : Addr
  e_lowest : FuncData
  d_lowest : D K mg "lowest" s_lowest ["top", "bottom"] f_lowest e_lowest
  f_ratio_sum : Addr
  e_ratio_sum : FuncData
  d_ratio_sum : D K mg "ratio_sum" s_ratio_sum ["first", "second"] f_ratio_sum e_ratio_sum
  f_ratio_minus : Addr
  e_ratio_minus : FuncData
  d_ratio_minus : D K mg "ratio_minus" s_ratio_minus ["number"] f_ratio_minus e_ratio_minus
  f_ratio_product : Addr
  e_ratio_product : FuncData
  d_ratio_product : D K mg "ratio_product" s_ratio_product ["first", "second"] f_ratio_product e_ratio_product
  f_empty_table : Addr
  e_empty_table : FuncData
  d_empty_table : D K mg "empty_table" s_empty_table ["size"] f_empty_table e_empty_table
  f_row_times : Addr
  e_row_times : FuncData
  d_row_times : D K mg "row_times" s_row_times ["row", "vector"] f_row_times e_row_times
  f_column_of : Addr
  e_column_of : FuncData
  d_column_of : D K mg "column_of" s_column_of ["table", "at"] f_column_of e_column_of
  f_table_product : Addr
  e_table_product : FuncData
  d_table_product : D K mg "table_product" s_table_product ["left", "right"] f_table_product e_table_product
  f_poly_at : Addr
  e_poly_at : FuncData
  d_poly_at : D K mg "poly_at" s_poly_at ["p", "table"] f_poly_at e_poly_at
  f_trimmed : Addr
  e_trimmed : FuncData
  d_trimmed : D K mg "trimmed" s_trimmed ["numbers"] f_trimmed e_trimmed
  f_whole_of : Addr
  e_whole_of : FuncData
  d_whole_of : D K mg "whole_of" s_whole_of ["digits"] f_whole_of e_whole_of
  f_unsigned_of : Addr
  e_unsigned_of : FuncData
  d_unsigned_of : D K mg "unsigned_of" s_unsigned_of ["text"] f_unsigned_of e_unsigned_of
  f_number_of : Addr
  e_number_of : FuncData
  d_number_of : D K mg "number_of" s_number_of ["text"] f_number_of e_number_of
  f_numbers_of : Addr
  e_numbers_of : FuncData
  d_numbers_of : D K mg "numbers_of" s_numbers_of ["texts"] f_numbers_of e_numbers_of
  f_is_long : Addr
  e_is_long : FuncData
  d_is_long : D K mg "is_long" s_is_long ["number"] f_is_long e_is_long
  f_numbers_refusal : Addr
  e_numbers_refusal : FuncData
  d_numbers_refusal : D K mg "numbers_refusal" s_numbers_refusal ["texts"] f_numbers_refusal e_numbers_refusal
  f_counted_refusal : Addr
  e_counted_refusal : FuncData
  d_counted_refusal : D K mg "counted_refusal" s_counted_refusal ["n", "texts", "count"] f_counted_refusal e_counted_refusal
  f_table_of : Addr
  e_table_of : FuncData
  d_table_of : D K mg "table_of" s_table_of ["texts"] f_table_of e_table_of
  f_power_of : Addr
  e_power_of : FuncData
  d_power_of : D K mg "power_of" s_power_of ["text"] f_power_of e_power_of
  f_factor_of : Addr
  e_factor_of : FuncData
  d_factor_of : D K mg "factor_of" s_factor_of ["text"] f_factor_of e_factor_of
  f_term_of : Addr
  e_term_of : FuncData
  d_term_of : D K mg "term_of" s_term_of ["piece"] f_term_of e_term_of
  f_pieces_of : Addr
  e_pieces_of : FuncData
  d_pieces_of : D K mg "pieces_of" s_pieces_of ["text"] f_pieces_of e_pieces_of
  f_signed_pieces : Addr
  e_signed_pieces : FuncData
  d_signed_pieces : D K mg "signed_pieces" s_signed_pieces ["text"] f_signed_pieces e_signed_pieces
  f_falling : Addr
  e_falling : FuncData
  d_falling : D K mg "falling" s_falling ["powers"] f_falling e_falling
  f_terms_of : Addr
  e_terms_of : FuncData
  d_terms_of : D K mg "terms_of" s_terms_of ["text"] f_terms_of e_terms_of
  f_poly_refusal : Addr
  e_poly_refusal : FuncData
  d_poly_refusal : D K mg "poly_refusal" s_poly_refusal ["text"] f_poly_refusal e_poly_refusal
  f_poly_of : Addr
  e_poly_of : FuncData
  d_poly_of : D K mg "poly_of" s_poly_of ["text"] f_poly_of e_poly_of
  f_number_text : Addr
  e_number_text : FuncData
  d_number_text : D K mg "number_text" s_number_text ["number"] f_number_text e_number_text
  f_table_answer : Addr
  e_table_answer : FuncData
  d_table_answer : D K mg "table_answer" s_table_answer ["table"] f_table_answer e_table_answer
  f_answer : Addr
  e_answer : FuncData
  d_answer : D K mg "answer" s_answer ["first", "texts"] f_answer e_answer
  f_value : Addr
  e_value : FuncData
  d_value : D K mg "value" s_value ["n", "texts"] f_value e_value
  z_abs : mg "abs" = none
  z_all : mg "all" = none
  z_any : mg "any" = none
  z_len : mg "len" = none
  z_list : mg "list" = none
  z_ord : mg "ord" = none
  z_range : mg "range" = none
  z_reversed : mg "reversed" = none
  z_str : mg "str" = none
  z_zip : mg "zip" = none
  dgs : PySem.W.nsIn K cStatics "sys.int_max_str_digits" = some none
  a_ZERO : Addr
  g_ZERO : mg "ZERO" = some (.ref a_ZERO)
  t_ZERO : ∀ H : Hp, SqT K H a_ZERO [.int 0, .int 1]
  a_ONE : Addr
  g_ONE : mg "ONE" = some (.ref a_ONE)
  t_ONE : ∀ H : Hp, SqT K H a_ONE [.int 1, .int 1]
  g_MINUS : ∃ t, mg "MINUS" = some (.int (45) t)
  g_SLASH : ∃ t, mg "SLASH" = some (.int (47) t)
  g_DIGIT_0 : ∃ t, mg "DIGIT_0" = some (.int (48) t)
  g_DIGIT_9 : ∃ t, mg "DIGIT_9" = some (.int (57) t)
  g_MOST : ∃ t, mg "MOST" = some (.int (999999) t)
  a_ROWS : Addr
  g_ROWS : mg "ROWS" = some (.ref a_ROWS)
  e_ROWS : Array DictEntry
  m_ROWS : Nat
  l_ROWS : K.lookup a_ROWS = some ⟨.type "dict", none, .dict e_ROWS m_ROWS, #[]⟩
  o_ROWS : (a_ROWS == sysModules) = false
  v_ROWS : dictRows e_ROWS = some [(1, 1), (4, 2), (9, 3), (16, 4)]
  g_MOST_ROWS : ∃ t, mg "MOST_ROWS" = some (.int (4) t)
  g_NOT_SO_MANY : ∃ t, mg "NOT_SO_MANY" = some (.int (-6) t)
  g_WRONG_TEXT : ∃ t, mg "WRONG_TEXT" = some (.int (-1) t)
  g_TOO_LARGE : ∃ t, mg "TOO_LARGE" = some (.int (-2) t)
  g_BLANK : ∃ t, mg "BLANK" = some (.int (32) t)
  g_STAR : ∃ t, mg "STAR" = some (.int (42) t)
  g_PLUS : ∃ t, mg "PLUS" = some (.int (43) t)
  g_CARET : ∃ t, mg "CARET" = some (.int (94) t)
  g_LETTER_X : ∃ t, mg "LETTER_X" = some (.int (120) t)
  g_HIGHEST : ∃ t, mg "HIGHEST" = some (.int (8) t)
/-- a call of a def of the text -/
theorem pe_D {X : Cx} {x : Str} {st : Stmt} {ps : List Str} {f : Addr} {fd : FuncData} {k n : Nat} {sp : Sp} {p pos : Pos} {e : Expr} {es : List Expr} {t : TA} (d : D X.K X.mg x st ps f fd)
    (G : FnOk X.prog X.w X.K X.mg X.base CX0 k f fd ps sp) (hr : Room n X.A) (ha : PA X (e :: es) t) (hkn : k ≤ n := by decide) (hg : Gl X x := by rfl) (hdb : (x == ("__debug__" : Str)) = false := by decide)
    (he : starEach (e :: es) X.env = (false, eval e X.env) :: starEach es X.env := by rfl) (hpl : (backTo pos (starEach es X.env)).any (·.1) = false := by rfl) : PE X (.Call (.Name x p) (e :: es) [] pos) (tCall sp [] E0 t) :=
  pe_call G (hr.mono hkn) hg d.g d.F.kp d.b .nil pass0 ha hdb he hpl
end W
set_option maxRecDepth 100000
namespace W
open PySem PySem.Spec PyProof.Rows L2
section
variable {P : Program} {w : World} {K : PySem.W.Frag} {mg : Str → Option Value} {base : Heap}
/-- the greatest number that goes into both -/
def spGcd : Sp := fun vs H Q _ => ∃ a b : Nat, vs = [.int a, .int b] ∧ Q (.int (Nat.gcd a b : Nat)) H
def mu3 (σ : L2.St) (_ : Hp) : Nat := match σ with
  | [_, _, _, some (.int y), _] => y.toNat
  | _ => 0
theorem ok_whole_common (T : Txt K mg) : FnOk P w K mg base CX0 1 T.f_whole_common T.e_whole_common ["first", "second"] spGcd := by
  refine T.d_whole_common.F.ok sc_whole_common (fun vs H Q E h => ?_) (fun cdv A outer s H vs Q E hr h => ?_)
  · obtain ⟨a, b, rfl, _⟩ := h
    rfl
  · obtain ⟨a, b, rfl, q⟩ := h
    refine ⟨_, pss_cons (ps_set (i := 2) sc_whole_common.nd rfl (.inl rfl) (pv 0)) (pss_cons (ps_set (i := 3) sc_whole_common.nd rfl (.inl rfl) (pv 1))
      (pss_cons (ps_while PassesOwn.never (pt_cmpR op_ne (pv 3) pe_int (nomark _))
        (pss_cons (ps_set (i := 4) sc_whole_common.nd rfl (.inl rfl) (pe_op op_mod (pv 2) (pv 3)))
        (pss_cons (ps_set (i := 2) sc_whole_common.nd rfl (.inl rfl) (pv 3))
        (pss_one (ps_set (i := 3) sc_whole_common.nd rfl (.inl rfl) (pv 4))))))
      (pss_one (ps_ret (pv 2))))), ?_⟩
    refine ⟨_, rfl, _, rfl, ?_⟩
    refine while_by (fun σ H' => ∃ (x y : Nat) (z : Option V), σ = [some (.int a), some (.int b), some (.int x), some (.int y), z] ∧ Nat.gcd x y = Nat.gcd a b ∧ H' = H) mu3 ⟨a, b, none, rfl, rfl, rfl⟩ ?_ ?_
    · rintro σ H' ⟨x, y, z, rfl, hg, rfl⟩
      refine ⟨_, rfl, rfl, _, rfl, ?_⟩
      by_cases hy : y = 0
      · subst hy
        rw [show (decide (V.int ((0 : Nat) : Int) = V.int 0)) = true from rfl]
        refine iteF ?_
        refine ⟨_, rfl, ?_⟩
        rw [Nat.gcd_zero_right] at hg
        rw [← hg] at q
        exact q
      · have hne : (decide (V.int ((y : Nat) : Int) = V.int 0)) = false := by
          rw [decide_eq_false]
          intro e
          have := V.int.inj e
          omega
        rw [hne]
        refine iteT ?_
        refine ⟨_, rfl, _, rfl, _, _, rfl, rfl, (by show (0 : Int) < (y : Int); omega), _, rfl, _, rfl, ⟨y, x % y, _, rfl, ?_, rfl⟩, ?_⟩
        · rw [← hg, Nat.gcd_comm x y, Nat.gcd_rec y x, Nat.gcd_comm]
        · show (((x : Int) % (y : Int))).toNat < ((y : Nat) : Int).toNat
          have := Nat.mod_lt x (show 0 < y by omega)
          omega
    · intro σ H' Q1 Q2 hq h
      obtain ⟨v, e, h1, k', e2, h2⟩ := h
      exact ⟨v, e, h1, k', e2, hq _ _ h2⟩
end
end W
set_option maxRecDepth 100000
namespace W
open PySem PySem.Spec PyProof.Rows L2
/-! numbers in the heap -/
def RatV (K : PySem.W.Frag) (H : Hp) (v : V) (c : Rat) : Prop := ∃ p, v = .ref p ∧ SqT K H p [.int c.num, .int (c.den : Int)]
theorem Same.seqT {K : PySem.W.Frag} {H H' : Hp} {a : Addr} {xs : List V} (e : Same H H') (h : SqT K H a xs) : SqT K H' a xs := by
  rcases h with (h | ⟨o, h⟩) | h
  · exact .inl (.inl (e _ _ h))
  · exact .inl (.inr ⟨o, e _ _ h⟩)
  · exact .inr h
theorem RatV.same {K : PySem.W.Frag} {H H' : Hp} {v : V} {c : Rat} (h : RatV K H v c) (e : Same H H') : RatV K H' v c := by
  obtain ⟨p, h1, h2⟩ := h
  exact ⟨p, h1, Same.seqT e h2⟩
theorem same_upd {H : Hp} {p : Addr} {o : HO} (h : H p = none) : Same H (upd H p o) := fun b x e => by
  rw [upd_ne (ne_of_none e h)]
  exact e
theorem SqT.of {K : PySem.W.Frag} {H : Hp} {a : Addr} {xs : List V} (h : H a = some (.tup xs)) : SqT K H a xs := .inl (.inl h)
/-- numbers whose parts have at most so many bits -/
def Fits (n : Nat) (c : Rat) : Prop := c.num.natAbs ≤ 2 ^ n ∧ c.den ≤ 2 ^ n
theorem Fits.mono {m n : Nat} {c : Rat} (h : Fits m c) (hn : m ≤ n) : Fits n c :=
  ⟨Nat.le_trans h.1 (Nat.pow_le_pow_right (by omega) hn), Nat.le_trans h.2 (Nat.pow_le_pow_right (by omega) hn)⟩
/-- as large as the program's own steps may be -/
abbrev LIM : Nat := 4400

theorem log2_le {n k : Nat} (h : n ≤ 2 ^ k) : n.log2 ≤ k := by
  by_cases h0 : n = 0
  · subst h0; simp
  · have : n.log2 < k + 1 := (Nat.log2_lt h0).mpr (Nat.lt_of_le_of_lt h (Nat.pow_lt_pow_right (by omega) (by omega)))
    omega
theorem mulW {i j : Int} {a b : Nat} (ha : i.natAbs ≤ 2 ^ a) (hb : j.natAbs ≤ 2 ^ b) (h : a + b < 1000000) : CMulW i j := by
  have := log2_le ha
  have := log2_le hb
  unfold CMulW; omega
section
variable {X : Cx}
/-- // by any number but 0, not too large -/
def CDivX (i j : Int) : Prop := j ≠ 0 ∧ Builtin.divisionGoesByPylong i j = false
theorem op_fdivX : OpR X (binaryOp .FloorDiv) (rI CDivX fun i j => .int (i.fdiv j)) := opI fun i j _ _ _ _ _ hc q => floordiv_int hc.1 q (.inl hc.2)
end
theorem log2_mul_le {a b : Nat} {k : Nat} (hb : b ≤ 2 ^ k) : (a * b).log2 ≤ a.log2 + k + 1 := by
  by_cases h0 : a * b = 0
  · rw [h0]; simp
  · have ha : a ≠ 0 := fun e => h0 (by rw [e, Nat.zero_mul])
    have h1 : a < 2 ^ (a.log2 + 1) := (Nat.log2_lt ha).mp (by omega)
    have h2 : a * b < 2 ^ (a.log2 + 1 + k + 1) := by
      have h3 : a * b ≤ 2 ^ (a.log2 + 1) * 2 ^ k := Nat.mul_le_mul (Nat.le_of_lt h1) hb
      rw [← Nat.pow_add] at h3
      exact Nat.lt_of_le_of_lt h3 (Nat.pow_lt_pow_right (by omega) (by omega))
    have := (Nat.log2_lt h0).mpr h2
    omega
/-- a quotient that isn't long -/
theorem noPylong_quot {x y q : Int} (h : x = y * q) (hq : q.natAbs ≤ 2 ^ LIM) : Builtin.divisionGoesByPylong x y = false := by
  have key : (if x == 0 then 0 else x.natAbs.log2 / 30 + 1) ≤ (if y == 0 then 0 else y.natAbs.log2 / 30 + 1) + 150 := by
    by_cases hx : (x == 0) = true
    · rw [if_pos hx]; omega
    · rw [if_neg hx]
      have hx' : x ≠ 0 := fun e => hx (by rw [e]; rfl)
      have hy' : y ≠ 0 := fun e => hx' (by rw [h, e, Int.zero_mul])
      have hy : ¬ (y == 0) = true := fun e => hy' (beq_iff_eq.mp e)
      rw [if_neg hy]
      have := log2_mul_le (a := y.natAbs) (b := q.natAbs) hq
      rw [← Int.natAbs_mul, ← h] at this
      have : LIM = 4400 := rfl
      omega
  show (decide (_ > 300) && decide ((if x == 0 then 0 else x.natAbs.log2 / 30 + 1) > (if y == 0 then 0 else y.natAbs.log2 / 30 + 1) + 150)) = false
  rw [decide_eq_false (p := (if x == 0 then 0 else x.natAbs.log2 / 30 + 1) > (if y == 0 then 0 else y.natAbs.log2 / 30 + 1) + 150) (by omega), Bool.and_false]
theorem lowS_dvd {t b : Int} : Ma.lowS t b ∣ t ∧ Ma.lowS t b ∣ b := by
  have h1 : ((Nat.gcd t.natAbs b.natAbs : Nat) : Int) ∣ t := Int.ofNat_dvd_left.mpr (Nat.gcd_dvd_left _ _)
  have h2 : ((Nat.gcd t.natAbs b.natAbs : Nat) : Int) ∣ b := Int.ofNat_dvd_left.mpr (Nat.gcd_dvd_right _ _)
  unfold Ma.lowS
  split
  · exact ⟨Int.neg_dvd.mpr h1, Int.neg_dvd.mpr h2⟩
  · exact ⟨h1, h2⟩
theorem low_parts {t b : Int} (h : b ≠ 0) : t = Ma.lowS t b * (Rat.divInt t b).num ∧ b = Ma.lowS t b * ((Rat.divInt t b).den : Int) := by
  have hne := Ma.lowS_ne (t := t) h
  rw [← Ma.low_num h, ← Ma.low_den h]
  obtain ⟨⟨q, hq⟩, ⟨r, hr⟩⟩ := lowS_dvd (t := t) (b := b)
  refine ⟨?_, ?_⟩
  · conv => rhs; rhs; lhs; rw [hq]
    rw [Int.mul_fdiv_cancel_left _ hne]; exact hq
  · conv => rhs; rhs; lhs; rw [hr]
    rw [Int.mul_fdiv_cancel_left _ hne]; exact hr
theorem low_div {t b : Int} (hb : b ≠ 0) (h : b.natAbs ≤ 2 ^ 8800 ∨ Fits LIM (Rat.divInt t b)) : CDivX t (Ma.lowS t b) ∧ CDivX b (Ma.lowS t b) := by
  have hne := Ma.lowS_ne (t := t) hb
  rcases h with h | h
  · have hlg : (Ma.lowS t b).natAbs.log2 < 9000 := by
      have := log2_le (Nat.le_trans (Ma.lowS_le (t := t) hb) h)
      omega
    exact ⟨⟨hne, PyProof.noPylong_of_log2 hlg⟩, hne, PyProof.noPylong_of_log2 hlg⟩
  · obtain ⟨h1, h2⟩ := low_parts (t := t) hb
    exact ⟨⟨hne, noPylong_quot h1 h.1⟩, hne, noPylong_quot h2 (by rw [Int.natAbs_natCast]; exact h.2)⟩

section
variable {P : Program} {w : World} {K : PySem.W.Frag} {mg : Str → Option Value} {base : Heap}
def spLow (K : PySem.W.Frag) : Sp := fun vs H Q _ => ∃ t b : Int, vs = [.int t, .int b] ∧ b ≠ 0 ∧ (b.natAbs ≤ 2 ^ 8800 ∨ Fits LIM (Rat.divInt t b)) ∧
  ∀ H' v, Same H H' → RatV K H' v (Rat.divInt t b) → Q v H'
theorem abs_nat (i : Int) : (if i < 0 then -i else i) = (i.natAbs : Int) := by split <;> omega
theorem ok_lowest (T : Txt K mg) : FnOk P w K mg base CX0 2 T.f_lowest T.e_lowest ["top", "bottom"] (spLow K) := by
  refine T.d_lowest.F.ok sc_lowest (fun vs H Q E h => ?_) (fun cdv A outer s H vs Q E hr h => ?_)
  · obtain ⟨a, b, rfl, _⟩ := h
    rfl
  · obtain ⟨t, b, rfl, hb, hbs, q⟩ := h
    refine ⟨_, pss_cons (ps_set (i := 2) sc_lowest.nd rfl (.inl rfl) (pe_D T.d_whole_common (ok_whole_common T) hr
        (pa_cons (pe_callB call_abs (by rfl) T.z_abs (by decide +kernel) (pa_cons (pv 0) pa_nil)) (pa_cons (pe_callB call_abs (by rfl) T.z_abs (by decide +kernel) (pa_cons (pv 1) pa_nil)) pa_nil))))
      (pss_cons (ps_if (pt_cmpR op_lt (pv 1) pe_int (nomark _)) (pss_one (ps_set (i := 2) sc_lowest.nd rfl (.inl rfl) (pe_un un_neg (pv 2)))) pss_nil)
      (pss_one (ps_ret (pe_tup (pa_cons (pe_op op_fdivX (pv 0) (pv 2)) (pa_cons (pe_op op_fdivX (pv 1) (pv 2)) pa_nil)))))), ?_⟩
    have last : ∀ σ, σ = [some (.int t), some (.int b), some (.int (Ma.lowS t b))] → tRet (tTup (tCons (tOp (rI CDivX fun i j => .int (i.fdiv j)) (tVar 0) (tVar 2)) (tCons (tOp (rI CDivX fun i j => .int (i.fdiv j)) (tVar 1) (tVar 2)) tNil))) { nx := fun _ H' => Q .non H', rt := Q } σ H := by
      intro σ e
      subst e
      have hne := Ma.lowS_ne (t := t) hb
      obtain ⟨hd1, hd2⟩ := low_div hb hbs
      refine ⟨_, rfl, _, rfl, _, _, rfl, rfl, hd1, _, rfl, _, rfl, _, _, rfl, rfl, hd2, (by show 2 ≤ sizeLine; decide), fun p hp => ?_⟩
      refine q _ _ (same_upd hp) ⟨p, rfl, SqT.of ?_⟩
      rw [upd_same]
      show some (HO.tup [V.int (t.fdiv (Ma.lowS t b)), V.int (b.fdiv (Ma.lowS t b))]) = _
      rw [Ma.low_num hb, Ma.low_den hb]
    refine ⟨_, rfl, t, rfl, _, rfl, b, rfl, t.natAbs, b.natAbs, ?_, ?_⟩
    · rw [abs_nat, abs_nat]; rfl
    · refine ⟨_, rfl, _, _, rfl, rfl, _, rfl, ite2 (fun e => ?_) (fun e => ?_)⟩
      · have e1 : b < 0 := of_decide_eq_true e
        refine ⟨_, rfl, _, rfl, ?_⟩
        refine last _ ?_
        show [some (V.int t), some (V.int b), some (V.int _)] = _
        unfold Ma.lowS
        rw [if_pos e1]
      · have e1 : ¬ b < 0 := fun h => e (decide_eq_true h)
        refine last _ ?_
        show [some (V.int t), some (V.int b), some (V.int _)] = _
        unfold Ma.lowS
        rw [if_neg e1]
end
end W
set_option maxRecDepth 100000
namespace W
open PySem PySem.Spec PyProof.Rows L2
section
variable {P : Program} {w : World} {K : PySem.W.Frag} {mg : Str → Option Value} {base : Heap}
/-- of two numbers: the number g of them -/
def spR2 (K : PySem.W.Frag) (C : Rat → Rat → Prop) (g : Rat → Rat → Rat) : Sp := fun vs H Q _ => ∃ (x y : V) (a b : Rat), vs = [x, y] ∧ RatV K H x a ∧ RatV K H y b ∧ C a b ∧
  ∀ H' v, Same H H' → RatV K H' v (g a b) → Q v H'
def Fit2 (a b : Rat) : Prop := Fits LIM a ∧ Fits LIM b
theorem den_mul_le {a b : Nat} (ha : a ≤ 2 ^ LIM) (hb : b ≤ 2 ^ LIM) : a * b ≤ 2 ^ 8800 := by
  have := Nat.mul_le_mul ha hb
  rw [← Nat.pow_add] at this
  exact this
/-- what the steps ask: not too large, and either what it's divided by isn't long or what comes out isn't -/
abbrev BIG : Nat := 100000
def SumC (a b : Rat) : Prop := Fits BIG a ∧ Fits BIG b ∧ (a.den * b.den ≤ 2 ^ 8800 ∨ Fits LIM (a + b))
def MulC (a b : Rat) : Prop := Fits BIG a ∧ Fits BIG b ∧ (a.den * b.den ≤ 2 ^ 8800 ∨ Fits LIM (a * b))
def DivC (a b : Rat) : Prop := Fits BIG a ∧ Fits BIG b ∧ b ≠ 0 ∧ (a.den * b.num.natAbs ≤ 2 ^ 8800 ∨ Fits LIM (a / b))
theorem mulB {i j : Int} (ha : i.natAbs ≤ 2 ^ BIG) (hb : j.natAbs ≤ 2 ^ BIG) : CMulW i j := mulW ha hb (by decide)
theorem big_of {a : Rat} (h : Fits LIM a) : Fits BIG a := h.mono (by decide)
theorem Fit2.sum {a b : Rat} (h : Fit2 a b) : SumC a b := ⟨big_of h.1, big_of h.2, .inl (den_mul_le h.1.2 h.2.2)⟩
theorem Fit2.mul {a b : Rat} (h : Fit2 a b) : MulC a b := ⟨big_of h.1, big_of h.2, .inl (den_mul_le h.1.2 h.2.2)⟩
theorem Fit2.div {a b : Rat} (h : Fit2 a b) (hb : b ≠ 0) : DivC a b := ⟨big_of h.1, big_of h.2, hb, .inl (den_mul_le h.1.2 h.2.1)⟩
theorem spR2.imp {K : PySem.W.Frag} {C C' : Rat → Rat → Prop} {g : Rat → Rat → Rat} (hC : ∀ a b, C' a b → C a b) (vs : List V) (H : Hp) (Q : VK) (E : XK) (h : spR2 K C' g vs H Q E) : spR2 K C g vs H Q E := by
  obtain ⟨x, y, a, b, h1, h2, h3, h4, h5⟩ := h
  exact ⟨x, y, a, b, h1, h2, h3, hC _ _ h4, h5⟩
theorem mulL {i j : Int} (ha : i.natAbs ≤ 2 ^ LIM) (hb : j.natAbs ≤ 2 ^ LIM) : CMulW i j := mulW ha hb (by decide)
theorem natc {n k : Nat} (h : n ≤ 2 ^ k) : ((n : Int)).natAbs ≤ 2 ^ k := by rw [Int.natAbs_natCast]; exact h
theorem den_ne {a b : Rat} : ((a.den : Int) * (b.den : Int)) ≠ 0 := by
  have h1 := a.den_nz
  have h2 := b.den_nz
  intro h
  rcases Int.mul_eq_zero.mp h with e | e <;> omega
theorem ok_ratio_sumG (T : Txt K mg) : FnOk P w K mg base CX0 3 T.f_ratio_sum T.e_ratio_sum ["first", "second"] (spR2 K SumC (· + ·)) := by
  refine T.d_ratio_sum.F.ok sc_ratio_sum (fun vs H Q E h => ?_) (fun cdv A outer s H vs Q E hr h => ?_)
  · obtain ⟨x, y, a, b, rfl, _⟩ := h
    rfl
  · obtain ⟨x, y, a, b, rfl, ⟨p, rfl, hp⟩, ⟨r, rfl, hr'⟩, ⟨fa, fb, fc⟩, q⟩ := h
    refine ⟨_, pss_one (ps_ret (pe_D T.d_lowest (ok_lowest T) hr (pa_cons (pe_op op_add
      (pe_op op_mulW (pe_ix ix_tup (pv 0) pe_int (fun _ _ => rfl)) (pe_ix ix_tup (pv 1) pe_int (fun _ _ => rfl)))
      (pe_op op_mulW (pe_ix ix_tup (pv 1) pe_int (fun _ _ => rfl)) (pe_ix ix_tup (pv 0) pe_int (fun _ _ => rfl))))
      (pa_cons (pe_op op_mulW (pe_ix ix_tup (pv 0) pe_int (fun _ _ => rfl)) (pe_ix ix_tup (pv 1) pe_int (fun _ _ => rfl))) pa_nil)))), ?_⟩
    refine ⟨_, rfl, p, _, 0, _, rfl, rfl, hp, atI_nat (j := 0) rfl, _, rfl, r, _, 1, _, rfl, rfl, hr', atI_nat (j := 1) rfl, _, _, rfl, rfl, mulB fa.1 (natc fb.2), ?_⟩
    refine ⟨_, rfl, r, _, 0, _, rfl, rfl, hr', atI_nat (j := 0) rfl, _, rfl, p, _, 1, _, rfl, rfl, hp, atI_nat (j := 1) rfl, _, _, rfl, rfl, mulB fb.1 (natc fa.2), _, _, rfl, rfl, ?_⟩
    refine ⟨_, rfl, p, _, 1, _, rfl, rfl, hp, atI_nat (j := 1) rfl, _, rfl, r, _, 1, _, rfl, rfl, hr', atI_nat (j := 1) rfl, _, _, rfl, rfl, mulB (natc fa.2) (natc fb.2), ?_⟩
    refine ⟨_, _, rfl, den_ne, ?_, fun H' v sm hv => q H' v sm ?_⟩
    · rw [← Int.natCast_mul, Int.natAbs_natCast]
      rw [Int.natCast_mul, Ma.add_divInt]; exact fc
    · rw [Ma.add_divInt] at hv; exact hv
theorem ok_ratio_sum (T : Txt K mg) : FnOk P w K mg base CX0 3 T.f_ratio_sum T.e_ratio_sum ["first", "second"] (spR2 K Fit2 (· + ·)) := (ok_ratio_sumG T).imp (spR2.imp fun _ _ h => h.sum)
theorem ok_ratio_productG (T : Txt K mg) : FnOk P w K mg base CX0 3 T.f_ratio_product T.e_ratio_product ["first", "second"] (spR2 K MulC (· * ·)) := by
  refine T.d_ratio_product.F.ok sc_ratio_product (fun vs H Q E h => ?_) (fun cdv A outer s H vs Q E hr h => ?_)
  · obtain ⟨x, y, a, b, rfl, _⟩ := h
    rfl
  · obtain ⟨x, y, a, b, rfl, ⟨p, rfl, hp⟩, ⟨r, rfl, hr'⟩, ⟨fa, fb, fc⟩, q⟩ := h
    refine ⟨_, pss_one (ps_ret (pe_D T.d_lowest (ok_lowest T) hr (pa_cons
      (pe_op op_mulW (pe_ix ix_tup (pv 0) pe_int (fun _ _ => rfl)) (pe_ix ix_tup (pv 1) pe_int (fun _ _ => rfl)))
      (pa_cons (pe_op op_mulW (pe_ix ix_tup (pv 0) pe_int (fun _ _ => rfl)) (pe_ix ix_tup (pv 1) pe_int (fun _ _ => rfl))) pa_nil)))), ?_⟩
    refine ⟨_, rfl, p, _, 0, _, rfl, rfl, hp, atI_nat (j := 0) rfl, _, rfl, r, _, 0, _, rfl, rfl, hr', atI_nat (j := 0) rfl, _, _, rfl, rfl, mulB fa.1 fb.1, ?_⟩
    refine ⟨_, rfl, p, _, 1, _, rfl, rfl, hp, atI_nat (j := 1) rfl, _, rfl, r, _, 1, _, rfl, rfl, hr', atI_nat (j := 1) rfl, _, _, rfl, rfl, mulB (natc fa.2) (natc fb.2), ?_⟩
    refine ⟨_, _, rfl, den_ne, ?_, fun H' v sm hv => q H' v sm ?_⟩
    · rw [← Int.natCast_mul, Int.natAbs_natCast]
      rw [Int.natCast_mul, Ma.mul_divInt]; exact fc
    · rw [Ma.mul_divInt] at hv; exact hv
theorem ok_ratio_product (T : Txt K mg) : FnOk P w K mg base CX0 3 T.f_ratio_product T.e_ratio_product ["first", "second"] (spR2 K Fit2 (· * ·)) := (ok_ratio_productG T).imp (spR2.imp fun _ _ h => h.mul)
def spMinus (K : PySem.W.Frag) : Sp := fun vs H Q _ => ∃ (x : V) (a : Rat), vs = [x] ∧ RatV K H x a ∧ ∀ H' v, Same H H' → RatV K H' v (-a) → Q v H'
theorem ok_ratio_minus (T : Txt K mg) : FnOk P w K mg base CX0 1 T.f_ratio_minus T.e_ratio_minus ["number"] (spMinus K) := by
  refine T.d_ratio_minus.F.ok sc_ratio_minus (fun vs H Q E h => ?_) (fun cdv A outer s H vs Q E hr h => ?_)
  · obtain ⟨x, a, rfl, _⟩ := h
    rfl
  · obtain ⟨x, a, rfl, ⟨p, rfl, hp⟩, q⟩ := h
    refine ⟨_, pss_one (ps_ret (pe_tup (pa_cons (pe_un un_neg (pe_ix ix_tup (pv 0) pe_int (fun _ _ => rfl))) (pa_cons (pe_ix ix_tup (pv 0) pe_int (fun _ _ => rfl)) pa_nil)))), ?_⟩
    refine ⟨_, rfl, p, _, 0, _, rfl, rfl, hp, atI_nat (j := 0) rfl, _, rfl, _, rfl, p, _, 1, _, rfl, rfl, hp, atI_nat (j := 1) rfl, (by show 2 ≤ sizeLine; decide), fun t ht => ?_⟩
    refine q _ _ (same_upd ht) ⟨t, rfl, SqT.of ?_⟩
    rw [upd_same]; rfl
end
end W
set_option maxRecDepth 100000
namespace W
open PySem PySem.Spec PyProof.Rows L2
/-! lists of numbers in the heap -/
def Rats (K : PySem.W.Frag) (H : Hp) : List V → List Rat → Prop
  | [], [] => True
  | v :: vs, c :: l => RatV K H v c ∧ Rats K H vs l
  | _, _ => False
theorem Rats.same {K : PySem.W.Frag} {H H' : Hp} (e : Same H H') : ∀ {vs : List V} {l : List Rat}, Rats K H vs l → Rats K H' vs l
  | [], [], _ => trivial
  | _ :: _, _ :: _, h => ⟨h.1.same e, Rats.same e h.2⟩
  | [], _ :: _, h => h.elim
  | _ :: _, [], h => h.elim
theorem Rats.len {K : PySem.W.Frag} {H : Hp} : ∀ {vs : List V} {l : List Rat}, Rats K H vs l → vs.length = l.length
  | [], [], _ => rfl
  | _ :: _, _ :: _, h => by rw [List.length_cons, List.length_cons, Rats.len h.2]
  | [], _ :: _, h => h.elim
  | _ :: _, [], h => h.elim
theorem Rats.get {K : PySem.W.Frag} {H : Hp} : ∀ {vs : List V} {l : List Rat} {i : Nat} {v : V}, Rats K H vs l → vs[i]? = some v → ∃ c, l[i]? = some c ∧ RatV K H v c
  | _ :: _, c :: _, 0, v, h, e => by
    have e' := Option.some.inj e
    subst e'
    exact ⟨c, rfl, h.1⟩
  | _ :: vs, _ :: l, i + 1, v, h, e => Rats.get (vs := vs) (l := l) (i := i) h.2 e
  | [], [], _, _, _, e => by simp at e
  | [], _ :: _, _, _, h, _ => h.elim
  | _ :: _, [], _, _, h, _ => h.elim
theorem Rats.at {K : PySem.W.Frag} {H : Hp} {vs : List V} {l : List Rat} (h : Rats K H vs l) {i : Nat} {c : Rat} (e : l[i]? = some c) : ∃ v, vs[i]? = some v ∧ RatV K H v c := by
  have hi : i < vs.length := by
    rw [h.len]; exact (List.getElem?_eq_some_iff.mp e).1
  obtain ⟨c', e1, e2⟩ := h.get (List.getElem?_eq_getElem hi)
  rw [e] at e1
  have := Option.some.inj e1
  subst this
  exact ⟨_, List.getElem?_eq_getElem hi, e2⟩
theorem Rats.append {K : PySem.W.Frag} {H : Hp} : ∀ {vs : List V} {l : List Rat} {ws : List V} {m : List Rat}, Rats K H vs l → Rats K H ws m → Rats K H (vs ++ ws) (l ++ m)
  | [], [], _, _, _, h2 => h2
  | _ :: _, _ :: _, _, _, h, h2 => ⟨h.1, Rats.append h.2 h2⟩
  | [], _ :: _, _, _, h, _ => h.elim
  | _ :: _, [], _, _, h, _ => h.elim
theorem Rats.snoc {K : PySem.W.Frag} {H : Hp} {vs : List V} {l : List Rat} {v : V} {c : Rat} (h : Rats K H vs l) (h2 : RatV K H v c) : Rats K H (vs ++ [v]) (l ++ [c]) := h.append ⟨h2, trivial⟩
theorem Rats.set {K : PySem.W.Frag} {H : Hp} : ∀ {vs : List V} {l : List Rat} {i : Nat} {v : V} {c : Rat}, Rats K H vs l → RatV K H v c → Rats K H (vs.set i v) (l.set i c)
  | [], [], _, _, _, _, _ => by simp only [List.set_nil]; exact trivial
  | _ :: _, _ :: _, 0, _, _, h, h2 => ⟨h2, h.2⟩
  | _ :: _, _ :: _, i + 1, _, _, h, h2 => ⟨h.1, Rats.set (i := i) h.2 h2⟩
  | [], _ :: _, _, _, _, h, _ => h.elim
  | _ :: _, [], _, _, _, h, _ => h.elim
theorem Rats.dropLast {K : PySem.W.Frag} {H : Hp} : ∀ {vs : List V} {l : List Rat}, Rats K H vs l → Rats K H vs.dropLast l.dropLast
  | [], [], _ => trivial
  | [_], [_], _ => trivial
  | _ :: b :: vs, _ :: d :: l, h => ⟨h.1, Rats.dropLast (vs := b :: vs) (l := d :: l) h.2⟩
  | [_], _ :: _ :: _, h => h.2.elim
  | _ :: _ :: _, [_], h => h.2.elim
  | [], _ :: _, h => h.elim
  | _ :: _, [], h => h.elim
theorem Rats.replicate {K : PySem.W.Frag} {H : Hp} {v : V} {c : Rat} (h : RatV K H v c) : ∀ n : Nat, Rats K H (List.replicate n v) (List.replicate n c)
  | 0 => trivial
  | n + 1 => ⟨h, Rats.replicate h n⟩
theorem SqT.updL {K : PySem.W.Frag} {H : Hp} {k p : Addr} {us ws xs : List V} (hk : H k = some (.lst us)) (h : SqT K H p xs) : SqT K (upd H k (.lst ws)) p xs := by
  rcases h with (h | ⟨o, h⟩) | h
  · exact .inl (.inl (by rw [upd_ne (ne_of h hk (by intro z; cases z))]; exact h))
  · exact .inl (.inr ⟨o, by rw [upd_ne (ne_of h hk (by intro z; cases z))]; exact h⟩)
  · exact .inr h
theorem RatV.updL {K : PySem.W.Frag} {H : Hp} {k : Addr} {us ws : List V} {v : V} {c : Rat} (hk : H k = some (.lst us)) (h : RatV K H v c) : RatV K (upd H k (.lst ws)) v c := by
  obtain ⟨p, h1, h2⟩ := h
  exact ⟨p, h1, SqT.updL hk h2⟩
theorem Rats.updL {K : PySem.W.Frag} {H : Hp} {k : Addr} {us ws : List V} (hk : H k = some (.lst us)) : ∀ {vs : List V} {l : List Rat}, Rats K H vs l → Rats K (upd H k (.lst ws)) vs l
  | [], [], _ => trivial
  | _ :: _, _ :: _, h => ⟨h.1.updL hk, Rats.updL hk h.2⟩
  | [], _ :: _, h => h.elim
  | _ :: _, [], h => h.elim
/-- a list of numbers, tracked -/
def PolV (K : PySem.W.Frag) (H : Hp) (a : Addr) (l : List Rat) : Prop := ∃ ws, H a = some (.lst ws) ∧ Rats K H ws l
theorem PolV.same {K : PySem.W.Frag} {H H' : Hp} {a : Addr} {l : List Rat} (h : PolV K H a l) (e : Same H H') : PolV K H' a l := by
  obtain ⟨ws, h1, h2⟩ := h
  exact ⟨ws, e _ _ h1, h2.same e⟩

/-! as data, for == -/
def datR (c : Rat) : PyData := .tuple [.int c.num, .int (c.den : Int)]
theorem RatV.dp {K : PySem.W.Frag} {H : Hp} {v : V} {c : Rat} (h : RatV K H v c) : Dp K H v (datR c) := by
  obtain ⟨p, rfl, hp⟩ := h
  exact .tup hp (.cons (.int _) (.cons (.int _) .nil))
theorem shaped_datR (c : Rat) : SeqAt.shaped (datR c) = true := rfl
theorem eqv_datR (a b : Rat) : PyData.eqv (datR a) (datR b) = decide (a = b) := by
  show (a.num == b.num && ((a.den : Int) == (b.den : Int) && true)) = _
  by_cases h : a = b
  · subst h; simp
  · rw [decide_eq_false h]
    by_cases h1 : a.num = b.num
    · have h2 : (a.den : Int) ≠ (b.den : Int) := fun e => h (Rat.ext h1 (by omega))
      simp [h1, h2]
    · simp [h1]
theorem Rats.dp {K : PySem.W.Frag} {H : Hp} : ∀ {vs : List V} {l : List Rat}, Rats K H vs l → DpAll K H vs (l.map datR)
  | [], [], _ => .nil
  | _ :: _, _ :: _, h => .cons h.1.dp (Rats.dp h.2)
  | [], _ :: _, h => h.elim
  | _ :: _, [], h => h.elim
theorem PolV.dp {K : PySem.W.Frag} {H : Hp} {a : Addr} {l : List Rat} (h : PolV K H a l) : Dp K H (.ref a) (.list (l.map datR)) := by
  obtain ⟨ws, h1, h2⟩ := h
  exact .lst (SqL.of h1) h2.dp
theorem lay_dat (l : List Rat) : PyData.canLayAll0 (l.map datR) = true ∧ PyData.depthAll (l.map datR) ≤ 1 := by
  induction l with
  | nil => exact ⟨rfl, by decide⟩
  | cons c l ih =>
    refine ⟨?_, ?_⟩
    · show (PyData.canLay0 (datR c) && PyData.canLayAll0 (l.map datR)) = true
      rw [ih.1]; rfl
    · show max (PyData.depth (datR c)) (PyData.depthAll (l.map datR)) ≤ 1
      have : PyData.depth (datR c) = 1 := rfl
      omega
theorem shaped_dat (l : List Rat) : SeqAt.shaped (.list (l.map datR)) = true := by
  have h := lay_dat l
  show (PyData.canLayAll0 (l.map datR) && decide (PyData.depthAll (l.map datR) + 1 ≤ 64)) = true
  rw [h.1, decide_eq_true (by omega)]; rfl
theorem eqvAll_dat : ∀ (l m : List Rat), PyData.eqvAll (l.map datR) (m.map datR) = decide (l = m)
  | [], [] => rfl
  | [], _ :: _ => rfl
  | _ :: _, [] => rfl
  | a :: l, b :: m => by
    show (PyData.eqv (datR a) (datR b) && PyData.eqvAll (l.map datR) (m.map datR)) = _
    rw [eqv_datR, eqvAll_dat l m]
    by_cases h1 : a = b
    · by_cases h2 : l = m
      · simp [h1, h2]
      · simp [h1, h2]
    · simp [h1]
theorem eqv_dat (l m : List Rat) : PyData.eqv (.list (l.map datR)) (.list (m.map datR)) = decide (l = m) := eqvAll_dat l m
theorem hu64 {A : Around} {k : Nat} (hr : Room k A) : A.units + 64 < cLine := by have := hr.un; omega

/-! the mathematics of trimming -/
theorem trim_snoc_zero : ∀ (l : List Rat), AlOne.trim (l ++ [0]) = AlOne.trim l
  | [] => by rw [List.nil_append, Ma.trim_cons]; simp [AlOne.trim]
  | c :: l => by
    rw [List.cons_append, Ma.trim_cons, Ma.trim_cons, trim_snoc_zero l]
theorem trim_snoc {l : List Rat} {c : Rat} (h : c ≠ 0) : AlOne.trim (l ++ [c]) = l ++ [c] := by
  refine Ma.tr_of_lead fun _ => ?_
  have : AlOne.lead (l ++ [c]) = c := by unfold AlOne.lead; simp
  rw [this]; exact h

section
variable {P : Program} {w : World} {K : PySem.W.Frag} {mg : Str → Option Value} {base : Heap}
theorem Txt.zero (T : Txt K mg) (H : Hp) : RatV K H (.ref T.a_ZERO) 0 := ⟨_, rfl, T.t_ZERO H⟩
theorem Txt.one (T : Txt K mg) (H : Hp) : RatV K H (.ref T.a_ONE) 1 := ⟨_, rfl, T.t_ONE H⟩

/-- of a list of numbers: a new one, without zeros at the end -/
def spTrim (K : PySem.W.Frag) : Sp := fun vs H Q _ => ∃ (a : Addr) (l : List Rat), vs = [.ref a] ∧ PolV K H a l ∧
  ∀ H' p, Same H H' → H p = none → PolV K H' p (AlOne.trim l) → Q (.ref p) H'
def muL (k : Addr) (_ : L2.St) (H : Hp) : Nat := match H k with
  | some (.lst ws) => ws.length
  | _ => 0
theorem ok_trimmed (T : Txt K mg) : FnOk P w K mg base CX0 1 T.f_trimmed T.e_trimmed ["numbers"] (spTrim K) := by
  refine T.d_trimmed.F.ok sc_trimmed (fun vs H Q E h => ?_) (fun cdv A outer s H vs Q E hr h => ?_)
  · obtain ⟨a, l, rfl, _⟩ := h
    rfl
  · obtain ⟨a, l, rfl, ⟨ws, hws, hR⟩, q⟩ := h
    refine ⟨_, pss_cons (ps_set (i := 1) sc_trimmed.nd rfl (.inl rfl) (pe_callTy call_list_of (by rfl) T.z_list boot_list (pa_cons (pv 0) pa_nil)))
      (pss_cons (ps_while PassesOwn.never ((pw_and (pt_cmpR op_gt (pe_callB call_len_seq (by rfl) T.z_len PySem.boot_len (pa_cons (pv 1) pa_nil)) pe_int (nomark _))
          (pw_and1 (pt_cmpR (op_eqD (hu64 hr)) (pe_ix ix_list (pv 1) (pe_un un_neg pe_int) (fun _ _ => rfl)) (pe_glob (v := .ref T.a_ZERO) (by rfl) T.g_ZERO rfl) (nomark _)))).pt)
        (pss_one (ps_expr (pe_bm0 PySem.F.plainAttrs_list PySem.F.slot_list_pop PySem.F.type_list_pop mt_pop (pv 1)))))
      (pss_one (ps_ret (pv 1)))), ?_⟩
    refine ⟨_, rfl, a, ws, rfl, .inl (SqL.of hws), fun k hk => ?_⟩
    have s0 : Same H (upd H k (.lst ws)) := same_upd hk
    refine while_by (fun σ H' => ∃ (us : List V) (m : List Rat), σ = [some (.ref a), some (.ref k)] ∧ Same H H' ∧ H' k = some (.lst us) ∧ Rats K H' us m ∧ AlOne.trim m = AlOne.trim l) (muL k) ⟨ws, l, rfl, s0, upd_same, hR.same s0, rfl⟩ ?_ ?_
    · rintro σ H' ⟨us, m, rfl, sm, hk', hm, ht⟩
      have done : AlOne.trim m = m → (tRet (tVar 1)) { nx := fun _ H' => Q .non H', rt := Q } [some (.ref a), some (.ref k)] H' := by
        intro e
        refine ⟨_, rfl, q H' k sm hk ⟨us, hk', ?_⟩⟩
        rw [← ht, e]; exact hm
      refine ⟨_, rfl, k, us, rfl, .inl (SqL.of hk'), _, _, rfl, rfl, _, rfl, ite2 (fun e => ?_) (fun e => ?_)⟩
      · have hpos : (0 : Int) < (us.length : Int) := of_decide_eq_true e
        have hml := hm.len
        rcases List.eq_nil_or_concat m with h0 | ⟨m', c, h0⟩
        · rw [h0] at hml; simp at hml; rw [hml] at hpos; simp at hpos
        · rw [List.concat_eq_append] at h0
          obtain ⟨u, hu1, hu2⟩ := hm.at (i := m'.length) (c := c) (by rw [h0]; simp)
          have hlen : us.length = m'.length + 1 := by rw [hml, h0]; simp
          have hlast : us = us.dropLast ++ [u] := by
            have hne : us ≠ [] := by intro e0; rw [e0] at hlen; simp at hlen
            have e1 := (List.dropLast_concat_getLast hne).symm
            rw [List.getLast_eq_getElem] at e1
            have e2 : us[us.length - 1]'(by omega) = u := by
              have := List.getElem?_eq_some_iff.mp hu1
              obtain ⟨h1, h2⟩ := this
              rw [← h2]; congr 1; omega
            rw [e2] at e1; exact e1
          have hat : atI us (-1) = some u := by rw [hlast]; exact atI_last _ _
          refine ⟨_, rfl, 1, rfl, k, us, -1, u, rfl, rfl, SqL.of hk', hat, ?_⟩
          refine ⟨datR c, datR 0, hu2.dp, (T.zero H').dp, shaped_datR _, shaped_datR _, _, rfl, ?_⟩
          rw [eqv_datR]
          by_cases hc : c = 0
          · rw [decide_eq_true hc]
            refine iteT ?_
            have hu1' : us[us.length - 1]? = some u := by rw [hlen]; exact hu1
            refine ⟨_, rfl, .inl ⟨rfl, _, SqL.of hk'⟩, k, us, u, rfl, rfl, hk', hu1', ?_, ?_⟩
            · refine ⟨us.dropLast, m', rfl, fun b o eb => ?_, upd_same, ?_, ?_⟩
              · rw [upd_ne (ne_of_none eb hk)]; exact sm _ _ eb
              · have hd : Rats K H' us.dropLast m' := by
                  have := hm.dropLast
                  rw [h0] at this
                  simpa using this
                exact hd.updL hk'
              · rw [← ht, h0, hc, trim_snoc_zero]
            · show muL k _ _ < muL k _ _
              unfold muL
              rw [upd_same, hk']
              show us.dropLast.length < us.length
              rw [List.length_dropLast]; omega
          · rw [decide_eq_false hc]
            refine iteF ?_
            refine done ?_
            rw [h0]; exact trim_snoc hc
      · have h0 : us.length = 0 := by
          have : ¬ (0 : Int) < (us.length : Int) := fun h => e (decide_eq_true h)
          omega
        have hm0 : m = [] := List.eq_nil_of_length_eq_zero (by rw [← hm.len]; exact h0)
        refine iteF ?_
        exact done (by rw [hm0]; rfl)
    · intro σ H' Q1 Q2 hq h
      obtain ⟨v, e1, p, ys, e2, e3, i, j, e4, e5, c, e6, h⟩ := h
      refine ⟨v, e1, p, ys, e2, e3, i, j, e4, e5, c, e6, ?_⟩
      by_cases hc : c = true
      · rw [if_pos hc] at h ⊢
        obtain ⟨v2, f1, i2, f2, p2, ys2, i3, v3, f3, f4, f5, f6, d, e, f7, f8, f9, f10, c2, f11, h⟩ := h
        exact ⟨v2, f1, i2, f2, p2, ys2, i3, v3, f3, f4, f5, f6, d, e, f7, f8, f9, f10, c2, f11, hq _ _ h⟩
      · rw [if_neg hc] at h ⊢
        exact hq _ _ h
end
end W
set_option maxRecDepth 100000
namespace W
open PySem PySem.Spec PyProof.Rows L2
def AllFit (l : List Rat) : Prop := ∀ c ∈ l, Fits LIM c
theorem fits_zero (n : Nat) : Fits n 0 := ⟨Nat.zero_le _, Nat.one_le_two_pow⟩
theorem AllFit.co {l : List Rat} (h : AllFit l) (i : Nat) : Fits LIM (Ma.co l i) := by
  unfold Ma.co
  rw [List.getD_eq_getElem?_getD]
  cases e : l[i]? with
  | none => exact fits_zero _
  | some c => exact h c (List.mem_of_getElem? e)
theorem co_of {l : List Rat} {i : Nat} {c : Rat} (h : l[i]? = some c) : Ma.co l i = c := by
  unfold Ma.co; rw [List.getD_eq_getElem?_getD, h]; rfl
theorem co_out {l : List Rat} {i : Nat} (h : l.length ≤ i) : Ma.co l i = 0 := Ma.co_ge h
/-- a sum, power by power -/
theorem add_map (p q : List Rat) {n : Nat} (h : n = max p.length q.length) : AlOne.trim ((List.range n).map fun i => Ma.co p i + Ma.co q i) = AlOne.add p q := by
  refine Ma.ext (Ma.tr_trim _) (Ma.tr_add _ _) fun i => ?_
  rw [Ma.co_trim, Ma.co_add]
  unfold Ma.co
  rw [List.getD_eq_getElem?_getD, List.getElem?_map]
  by_cases hi : i < n
  · simp [hi]
  · have e1 : p[i]? = none := List.getElem?_eq_none (by omega)
    have e2 : q[i]? = none := List.getElem?_eq_none (by omega)
    simp [hi, List.getD_eq_getElem?_getD, e1, e2]
    grind
section
variable {P : Program} {w : World} {K : PySem.W.Frag} {mg : Str → Option Value} {base : Heap}
def spAt (K : PySem.W.Frag) : Sp := fun vs H Q _ => ∃ (a : Addr) (l : List Rat) (i : Nat), vs = [.ref a, .int i] ∧ PolV K H a l ∧ ∀ v, RatV K H v (Ma.co l i) → Q v H
/-- of two lists of numbers: a new one -/
def spP2 (K : PySem.W.Frag) (C : List Rat → List Rat → Prop) (g : List Rat → List Rat → List Rat) : Sp := fun vs H Q _ => ∃ (a b : Addr) (p q : List Rat), vs = [.ref a, .ref b] ∧ PolV K H a p ∧ PolV K H b q ∧ C p q ∧
  ∀ H' r, Same H H' → H r = none → PolV K H' r (g p q) → Q (.ref r) H'
def SumOk (p q : List Rat) : Prop := AllFit p ∧ AllFit q ∧ p.length ≤ 1000 ∧ q.length ≤ 1000
def SumOkG (p q : List Rat) : Prop := (∀ i, SumC (Ma.co p i) (Ma.co q i)) ∧ p.length ≤ 1000 ∧ q.length ≤ 1000
theorem spP2.imp {K : PySem.W.Frag} {C C' : List Rat → List Rat → Prop} {g : List Rat → List Rat → List Rat} (hC : ∀ a b, C' a b → C a b) (vs : List V) (H : Hp) (Q : VK) (E : XK) (h : spP2 K C' g vs H Q E) : spP2 K C g vs H Q E := by
  obtain ⟨x, y, a, b, h1, h2, h3, h4, h5⟩ := h
  exact ⟨x, y, a, b, h1, h2, h3, hC _ _ h4, h5⟩
end
end W
set_option maxRecDepth 100000
namespace W
open PySem PySem.Spec PyProof.Rows L2
/-- for i, x in enumerate(xs) -/
theorem for_enum {K : PySem.W.Frag} {a : Addr} {xs : List V} {g : TG} {tb : TS} {D : Ends} {σ : L2.St} {H : Hp} (Pv : Nat → L2.St → Hp → Prop) (h0 : Pv 0 σ H) (hl : ∀ i σ H, i ≤ xs.length → Pv i σ H → SqL K H a xs)
    (hs : ∀ i x σ H t, xs[i]? = some x → Pv i σ H → H t = none → g (.ref t) σ (upd H t (.tup [.int (i : Nat), x])) fun σ2 H2 => tb { D with nx := Pv (i + 1), ct := Pv (i + 1), bk := D.nx } σ2 H2) (hd : ∀ σ H, Pv xs.length σ H → D.nx σ H) :
    ∃ W : Nat → Nat → L2.St → Hp → Prop, (∃ m, W 0 m σ H) ∧ ∀ i m σ H, W i m σ H →
      ((Ite K a).stop i H ∧ D.nx σ H) ∨ ((Ite K a).go i H ∧ ∃ N : L2.St → Hp → Prop, (∀ σ' H', N σ' H' → ∃ m', m' < m ∧ W (i + 1) m' σ' H') ∧ ∀ x H', (Ite K a).yld i H x H' → g x σ H' fun σ2 H2 => tb { D with nx := N, ct := N, bk := D.nx } σ2 H2) := by
  refine ⟨fun i m σ H => m = xs.length - i ∧ i ≤ xs.length ∧ Pv i σ H, ⟨xs.length, by simp, Nat.zero_le _, h0⟩, ?_⟩
  rintro i m σ H ⟨rfl, hi, p⟩
  have q := hl i σ H hi p
  by_cases hlt : i < xs.length
  · refine .inr ⟨⟨xs, xs[i], q, by simp [hlt]⟩, Pv (i + 1), fun σ' H' p' => ⟨xs.length - (i + 1), by omega, rfl, hlt, p'⟩, fun x H' y => ?_⟩
    obtain ⟨t, z, rfl, nt, rfl, hz⟩ := y
    exact hs i z σ H t (hz xs q) p nt
  · have e : i = xs.length := by omega
    subst e
    exact .inl ⟨⟨xs, q, Nat.le_refl _⟩, hd σ H p⟩

theorem set_range_map {A : Type} (f : Nat → A) (n k : Nat) (v : A) : ((List.range n).map f).set k v = (List.range n).map fun x => if x = k then v else f x := by
  apply List.ext_getElem
  · simp
  · intro i h1 h2
    simp only [List.length_set, List.length_map, List.length_range] at h1
    rw [List.getElem_set]
    simp only [List.getElem_map, List.getElem_range]
    by_cases h : k = i
    · rw [if_pos h, if_pos h.symm]
    · rw [if_neg h, if_neg (fun e => h e.symm)]
theorem ixN_nat {n j : Nat} (h : j < n) : ixN n (j : Int) = some j := by
  unfold ixN
  rw [if_pos (by omega), if_pos (by omega)]; simp
section
variable {P : Program} {w : World} {K : PySem.W.Frag} {mg : Str → Option Value} {base : Heap}
/-- of a list of numbers: a new one -/
def spP1 (K : PySem.W.Frag) (C : List Rat → Prop) (g : List Rat → List Rat) : Sp := fun vs H Q _ => ∃ (a : Addr) (p : List Rat), vs = [.ref a] ∧ PolV K H a p ∧ C p ∧
  ∀ H' r, Same H H' → H r = none → PolV K H' r (g p) → Q (.ref r) H'
def TopOk (p : List Rat) : Prop := AllFit p ∧ p.length ≤ 1000 ∧ (p ≠ [] → AlOne.lead p ≠ 0)
theorem last_of {K : PySem.W.Frag} {H : Hp} {ws : List V} {p : List Rat} (h : Rats K H ws p) (hne : p ≠ []) : ∃ u, atI ws (-1) = some u ∧ RatV K H u (AlOne.lead p) := by
  rcases List.eq_nil_or_concat p with h0 | ⟨m, c, h0⟩
  · exact absurd h0 hne
  · rw [List.concat_eq_append] at h0
    obtain ⟨u, hu1, hu2⟩ := h.at (i := m.length) (c := c) (by rw [h0]; simp)
    have hlen : ws.length = m.length + 1 := by rw [h.len, h0]; simp
    have hlast : ws = ws.dropLast ++ [u] := by
      have hne : ws ≠ [] := by intro e0; rw [e0] at hlen; simp at hlen
      have e1 := (List.dropLast_concat_getLast hne).symm
      rw [List.getLast_eq_getElem] at e1
      have e2 : ws[ws.length - 1]'(by omega) = u := by
        obtain ⟨h1, h2⟩ := List.getElem?_eq_some_iff.mp hu1
        rw [← h2]; congr 1; omega
      rw [e2] at e1; exact e1
    refine ⟨u, by rw [hlast]; exact atI_last _ _, ?_⟩
    have : AlOne.lead p = c := by rw [h0]; unfold AlOne.lead; simp
    rw [this]; exact hu2
theorem lead_mem {p : List Rat} (h : p ≠ []) : AlOne.lead p ∈ p := by
  rcases List.eq_nil_or_concat p with h0 | ⟨m, c, h0⟩
  · exact absurd h0 h
  · rw [List.concat_eq_append] at h0
    have : AlOne.lead p = c := by rw [h0]; unfold AlOne.lead; simp
    rw [this, h0]; simp
end
end W
set_option maxRecDepth 100000
namespace W
open PySem PySem.Spec PyProof.Rows L2
theorem flat_rep {A : Type} (z : A) : ∀ n : Nat, (List.replicate n [z]).flatten = List.replicate n z
  | 0 => rfl
  | n + 1 => by rw [List.replicate_succ, List.flatten_cons, flat_rep z n]; rfl
theorem PolV.tup {K : PySem.W.Frag} {H : Hp} {a t : Addr} {l : List Rat} {o : HO} (h : PolV K H a l) (nt : H t = none) : PolV K (upd H t o) a l := h.same (same_upd nt)
theorem range_get {A : Type} (f : Nat → A) {n k : Nat} (h : k < n) : ((List.range n).map f)[k]? = some (f k) := by simp [h]
/-- sizes for a product -/
def ProdOk (p q : List Rat) : Prop := p.length ≤ 400 ∧ q.length ≤ 400 ∧ ∃ D E a b : Nat, 0 < D ∧ 0 < E ∧ D ≤ 2 ^ 2200 ∧ E ≤ 2 ^ 2200 ∧ Ma.HtL p D a ∧ Ma.HtL q E b ∧ a + b + p.length + 1 ≤ LIM ∧ a ≤ LIM ∧ b ≤ LIM
theorem ProdOk.fits {p q : List Rat} (h : ProdOk p q) : AllFit p ∧ AllFit q ∧ ∀ i j k, i ≤ p.length → Fits LIM (Ma.PV p q i j k) := by
  obtain ⟨_, _, D, E, a, b, hD, hE, hD2, hE2, hp, hq, h1, h2, h3⟩ := h
  have hDE : D * E ≤ 2 ^ LIM := by
    have := Nat.mul_le_mul hD2 hE2
    rw [← Nat.pow_add] at this
    exact this
  refine ⟨fun c hc => ?_, fun c hc => ?_, fun i j k hi => ?_⟩
  · exact Ma.htL_num hp hD (Nat.le_trans hD2 (Nat.pow_le_pow_right (by omega) (by decide))) h2 c hc
  · exact Ma.htL_num hq hE (Nat.le_trans hE2 (Nat.pow_le_pow_right (by omega) (by decide))) h3 c hc
  · obtain ⟨y, e, by'⟩ := Ma.PV_htL hp hq i j k hi
    exact Ma.num_den_le (Nat.mul_pos hD hE) hDE e (by'.mono h1)
theorem ProdOk.prod {p q : List Rat} (h : ProdOk p q) (i j : Nat) : Fits LIM (Ma.co p i * Ma.co q j) := by
  obtain ⟨_, _, D, E, a, b, hD, hE, hD2, hE2, hp, hq, h1, h2, h3⟩ := h
  have hDE : D * E ≤ 2 ^ LIM := by
    have := Nat.mul_le_mul hD2 hE2
    rw [← Nat.pow_add] at this
    exact this
  obtain ⟨y, e, by'⟩ := hp i
  obtain ⟨y2, e2, by2⟩ := hq j
  refine Ma.num_den_le (y := y * y2) (Nat.mul_pos hD hE) hDE ?_ ((by'.mul by2).mono (by omega))
  rw [Rat.intCast_mul, ← e, ← e2, Rat.natCast_mul]; grind
section
variable {P : Program} {w : World} {K : PySem.W.Frag} {mg : Str → Option Value} {base : Heap}
def ProdOkG (p q : List Rat) : Prop := p.length ≤ 400 ∧ q.length ≤ 400 ∧ ∀ i j c d, p[i]? = some c → q[j]? = some d → MulC c d ∧ SumC (Ma.PV p q i j (i + j)) (c * d)
theorem ProdOk.gen {p q : List Rat} (ok : ProdOk p q) : ProdOkG p q := by
  obtain ⟨fp, fq, fPV⟩ := ok.fits
  refine ⟨ok.1, ok.2.1, fun i j c d hc hd => ⟨Fit2.mul ⟨fp _ (List.mem_of_getElem? hc), fq _ (List.mem_of_getElem? hd)⟩, Fit2.sum ⟨fPV i j _ (Nat.le_of_lt (List.getElem?_eq_some_iff.mp hc).1), ?_⟩⟩⟩
  have := ok.prod i j
  rw [co_of hc, co_of hd] at this; exact this
end
end W
set_option maxRecDepth 100000
namespace W
open PySem PySem.Spec PyProof.Rows L2
/-- within a turn: j inner turns are done -/
def RI (p q : List Rat) (N t j k : Nat) : Rat := if N - 1 - t ≤ k ∧ k < N - 1 - t + j then Ma.RS p q N t k - Ma.fct p q N t * Ma.co q (k - (N - 1 - t)) else Ma.RS p q N t k
theorem RI_zero (p q : List Rat) (N t k : Nat) : RI p q N t 0 k = Ma.RS p q N t k := by unfold RI; rw [if_neg (by omega)]
theorem RI_last (p q : List Rat) (N t k : Nat) : RI p q N t q.length k = Ma.RS p q N (t + 1) k := rfl
theorem RI_at (p q : List Rat) (N t j : Nat) : RI p q N t j (N - 1 - t + j) = Ma.RS p q N t (N - 1 - t + j) := by unfold RI; rw [if_neg (by omega)]
theorem RI_step (p q : List Rat) (N t j k : Nat) : RI p q N t (j + 1) k = if k = N - 1 - t + j then RI p q N t j (N - 1 - t + j) + (-(Ma.fct p q N t * Ma.co q j)) else RI p q N t j k := by
  by_cases h : k = N - 1 - t + j
  · rw [if_pos h, RI_at]
    unfold RI
    rw [if_pos (by omega), h, show N - 1 - t + j - (N - 1 - t) = j by omega]; grind
  · rw [if_neg h]
    unfold RI
    by_cases h2 : N - 1 - t ≤ k ∧ k < N - 1 - t + j
    · rw [if_pos h2, if_pos (by omega)]
    · rw [if_neg h2, if_neg (by omega)]
theorem QL_step {p q : List Rat} {N t : Nat} (ht : t < N) : Ma.QL p q N (t + 1) = (Ma.QL p q N t).set (N - 1 - t) (Ma.fct p q N t) := by
  unfold Ma.QL
  rw [set_range_map]
  refine List.map_congr_left fun i hi => ?_
  rw [List.mem_range] at hi
  by_cases h : i = N - 1 - t
  · rw [if_pos (by omega), if_pos h, show N - 1 - i = t by omega]
  · rw [if_neg h]
    by_cases h2 : N - t ≤ i
    · rw [if_pos h2, if_pos (by omega)]
    · rw [if_neg h2, if_neg (by omega)]
theorem Fits.neg {n : Nat} {c : Rat} (h : Fits n c) : Fits n (-c) := by
  unfold Fits at *
  rw [Rat.neg_num, Rat.neg_den, Int.natAbs_neg]; exact h
/-- sizes for a division -/
structure DivOk (p q : List Rat) : Prop where
  tp : Ma.Tr p
  tq : Ma.Tr q
  ne : q ≠ []
  lp : p.length ≤ 400
  lq : q.length ≤ 400
  sz : ∃ a b, Ma.HtP p a ∧ Ma.HtP q b ∧ a + (p.length + 1 - q.length) * (b + 1) ≤ LIM ∧ b ≤ LIM
theorem div_both {p q : List Rat} (h : DivOk p q) : AlOne.divMod p q = (AlOne.trim (Ma.QL p q (p.length + 1 - q.length) (p.length + 1 - q.length)), AlOne.trim (Ma.RL p q (p.length + 1 - q.length) (p.length + 1 - q.length))) := by
  have hl := Ma.lead_ne h.tq h.ne
  have hq := Ma.pos_len h.ne
  by_cases hlt : p.length < q.length
  · rw [Ma.div_short h.tp h.tq hlt, show p.length + 1 - q.length = 0 by omega]
    have e : Ma.RL p q 0 0 = p := by
      unfold Ma.RL
      apply List.ext_getElem
      · simp
      · intro i h1 h2
        simp only [List.length_map, List.length_range] at h1
        simp only [List.getElem_map, List.getElem_range]
        show Ma.co p i = _
        exact co_of (List.getElem?_eq_getElem h1)
    rw [e, h.tp]; rfl
  · exact Ma.div_done (by omega) h.ne hl h.tp h.tq
theorem DivOk.fit {p q : List Rat} (h : DivOk p q) : AllFit p ∧ AllFit q ∧ (∀ t k, t ≤ p.length + 1 - q.length → Fits LIM (Ma.RS p q (p.length + 1 - q.length) t k)) ∧
    ∀ t, t < p.length + 1 - q.length → Fits LIM (Ma.fct p q (p.length + 1 - q.length) t) ∧ ∀ j, Fits LIM (Ma.fct p q (p.length + 1 - q.length) t * Ma.co q j) := by
  obtain ⟨a, b, hp, hq, hs, hbl⟩ := h.sz
  have hl := Ma.lead_ne h.tq h.ne
  have up : ∀ {m : Nat} {c : Rat}, c.num.natAbs ≤ 2 ^ m ∧ c.den ≤ 2 ^ m → m ≤ LIM → Fits LIM c := fun hc hm => Fits.mono hc hm
  refine ⟨fun c hc => up (hp.num c hc) (by omega), fun c hc => up (hq.num c hc) hbl, ?_, ?_⟩
  · intro t k ht
    obtain ⟨D, hD, hDa, hpl⟩ := hp
    obtain ⟨E, hE, hEb, hql⟩ := hq
    obtain ⟨Dt, h1, h2, h3⟩ := Ma.RS_ht hD hE hpl hql hl hDa (N := p.length + 1 - q.length) t
    obtain ⟨y, e, by'⟩ := h3 k
    have : t * (b + 1) ≤ (p.length + 1 - q.length) * (b + 1) := Nat.mul_le_mul_right _ ht
    exact up (Ma.num_den_le h1 h2 e by') (by omega)
  · intro t ht
    obtain ⟨D, hD, hDa, hpl⟩ := hp
    obtain ⟨E, hE, hEb, hql⟩ := hq
    have f := Ma.fct_ht hD hE hpl hql hl hDa hEb (N := p.length + 1 - q.length) t
    have : (t + 1) * (b + 1) ≤ (p.length + 1 - q.length) * (b + 1) := Nat.mul_le_mul_right _ ht
    exact ⟨up (f 0).2 (by omega), fun j => up (f j).1 (by omega)⟩
section
variable {P : Program} {w : World} {K : PySem.W.Frag} {mg : Str → Option Value} {base : Heap}
def spDiv (K : PySem.W.Frag) : Sp := fun vs H Q _ => ∃ (a b : Addr) (p q : List Rat), vs = [.ref a, .ref b] ∧ PolV K H a p ∧ PolV K H b q ∧ DivOk p q ∧
  ∀ H' t r1 r2, Same H H' → SqT K H' t [.ref r1, .ref r2] → H r1 = none → H r2 = none → PolV K H' r1 (AlOne.over p q) → PolV K H' r2 (AlOne.rest p q) → Q (.ref t) H'
end
end W
set_option maxRecDepth 100000
namespace W
open PySem PySem.Spec PyProof.Rows L2
/-- sizes for what two have in common -/
structure EucOk (p q : List Rat) : Prop where
  tp : Ma.Tr p
  tq : Ma.Tr q
  lp : p.length ≤ 400
  lq : q.length ≤ 400
  sz : ∃ f a b, Ma.HtP p a ∧ Ma.HtP q b ∧ Ma.okE LIM f p.length q.length a b = true
theorem EucOk.div {p q : List Rat} (h : EucOk p q) (hne : q ≠ []) : DivOk p q := by
  obtain ⟨f, a, b, h1, h2, h3⟩ := h.sz
  refine ⟨h.tp, h.tq, hne, h.lp, h.lq, a, b, h1, h2, ?_⟩
  cases f with
  | zero => simp [Ma.okE] at h3
  | succ f =>
    unfold Ma.okE at h3
    have hq := Ma.pos_len hne
    rw [if_neg (by omega)] at h3
    simp only [Bool.and_eq_true, decide_eq_true_eq] at h3
    exact ⟨h3.1.1, h3.1.2⟩
theorem EucOk.next {p q : List Rat} (h : EucOk p q) (hne : q ≠ []) : EucOk q (AlOne.monic (AlOne.rest p q)) := by
  obtain ⟨f, a, b, h1, h2, h3⟩ := h.sz
  obtain ⟨s, _, hr, hlt⟩ := Ma.rest_spec h.tp h.tq hne
  have hlen := Ma.monic_len hr
  refine ⟨h.tq, Ma.tr_monic _, h.lq, by have := h.lq; omega, ?_⟩
  cases f with
  | zero => simp [Ma.okE] at h3
  | succ f =>
    unfold Ma.okE at h3
    have hq := Ma.pos_len hne
    rw [if_neg (by omega)] at h3
    simp only [Bool.and_eq_true, decide_eq_true_eq, List.all_eq_true, List.mem_range] at h3
    have h4 := h3.2 _ hlt
    refine ⟨f, b, _, h2, ?_, by rw [hlen]; exact h4⟩
    by_cases h5 : (AlOne.rest p q).length ≤ 1
    · rw [if_pos h5]
      by_cases h6 : (AlOne.rest p q).length = 1
      · rw [Ma.monic_one hr h6]; exact Ma.htP_one 0
      · have : AlOne.rest p q = [] := List.eq_nil_of_length_eq_zero (by omega)
        rw [this]; exact Ma.htP_nil 0
    · rw [if_neg h5]
      refine Ma.htP_monic hr (by intro e; rw [e] at h5; simp at h5) (Ma.rest_ht h.tp h.tq hne h1 h2)
theorem EucOk.top {p q : List Rat} (h : EucOk p q) (hq : q = []) : TopOk p := by
  obtain ⟨f, a, b, h1, h2, h3⟩ := h.sz
  subst hq
  cases f with
  | zero => simp [Ma.okE] at h3
  | succ f =>
    unfold Ma.okE at h3
    rw [if_pos (show ([] : List Rat).length = 0 from rfl)] at h3
    exact ⟨fun c hc => Fits.mono (h1.num c hc) (of_decide_eq_true h3), by have := h.lp; omega, fun hne => Ma.lead_ne h.tp hne⟩
theorem EucOk.rest {p q : List Rat} (h : EucOk p q) (hne : q ≠ []) : TopOk (AlOne.rest p q) := by
  obtain ⟨a, b, h1, h2, h3, h4⟩ := (h.div hne).sz
  obtain ⟨s, _, hr, hlt⟩ := Ma.rest_spec h.tp h.tq hne
  exact ⟨fun c hc => Fits.mono ((Ma.rest_ht h.tp h.tq hne h1 h2).num c hc) h3, by have := h.lq; omega, fun hn => Ma.lead_ne hr hn⟩
section
variable {P : Program} {w : World} {K : PySem.W.Frag} {mg : Str → Option Value} {base : Heap}
def muS (σ : L2.St) (H : Hp) : Nat := match σ with
  | [_, _, _, some (.ref s), _] => (match H s with
    | some (.lst ws) => ws.length
    | _ => 0)
  | _ => 0
/-- lists of lists of numbers -/
def Pols (K : PySem.W.Frag) (H : Hp) : List V → List (List Rat) → Prop
  | [], [] => True
  | v :: vs, l :: ls => (∃ b, v = .ref b ∧ PolV K H b l) ∧ Pols K H vs ls
  | _, _ => False
theorem Pols.same {K : PySem.W.Frag} {H H' : Hp} (e : Same H H') : ∀ {vs : List V} {l : List (List Rat)}, Pols K H vs l → Pols K H' vs l
  | [], [], _ => trivial
  | _ :: _, _ :: _, h => by
    obtain ⟨⟨b, h1, h2⟩, h3⟩ := h
    exact ⟨⟨b, h1, h2.same e⟩, Pols.same e h3⟩
  | [], _ :: _, h => h.elim
  | _ :: _, [], h => h.elim
theorem Pols.len {K : PySem.W.Frag} {H : Hp} : ∀ {vs : List V} {l : List (List Rat)}, Pols K H vs l → vs.length = l.length
  | [], [], _ => rfl
  | _ :: _, _ :: _, h => by rw [List.length_cons, List.length_cons, Pols.len h.2]
  | [], _ :: _, h => h.elim
  | _ :: _, [], h => h.elim
theorem Pols.get {K : PySem.W.Frag} {H : Hp} : ∀ {vs : List V} {l : List (List Rat)} {i : Nat} {v : V}, Pols K H vs l → vs[i]? = some v → ∃ b c, v = .ref b ∧ l[i]? = some c ∧ PolV K H b c
  | _ :: _, c :: _, 0, v, h, e => by
    have e' := Option.some.inj e
    subst e'
    obtain ⟨⟨b, h1, h2⟩, _⟩ := h
    exact ⟨b, c, h1, rfl, h2⟩
  | _ :: vs, _ :: l, i + 1, v, h, e => Pols.get (vs := vs) (l := l) (i := i) h.2 e
  | [], [], _, _, _, e => by simp at e
  | [], _ :: _, _, _, h, _ => h.elim
  | _ :: _, [], _, _, h, _ => h.elim
theorem Pols.append {K : PySem.W.Frag} {H : Hp} : ∀ {vs : List V} {l : List (List Rat)} {ws : List V} {m : List (List Rat)}, Pols K H vs l → Pols K H ws m → Pols K H (vs ++ ws) (l ++ m)
  | [], [], _, _, _, h2 => h2
  | _ :: _, _ :: _, _, _, h, h2 => ⟨h.1, Pols.append h.2 h2⟩
  | [], _ :: _, _, _, h, _ => h.elim
  | _ :: _, [], _, _, h, _ => h.elim
theorem common_one (p : List Rat) (hp : Ma.Tr p) : AlOne.common [1] p = [1] := by
  have h1 : (Ma.mk [1]) = 1 := Subtype.ext (by rw [Ma.P.one_val]; show AlOne.trim [1] = [1]; rw [Ma.trim_cons]; simp [AlOne.trim])
  have : Ma.com (Ma.mk [1]) (Ma.mk p) = 1 := Ma.com_eq ⟨by rw [h1]; exact Ma.P.Dvd.refl 1, ⟨Ma.mk p, by grind⟩, fun h h2 _ => by rw [h1] at h2; exact h2, Or.inr Ma.P.ld_one⟩
  have e := congrArg Subtype.val this
  have e1 : (Ma.com (Ma.mk [1]) (Ma.mk p)).1 = AlOne.common [1] p := by
    show AlOne.common (AlOne.trim [1]) (AlOne.trim p) = _
    rw [hp]
    have : AlOne.trim [1] = [1] := by rw [Ma.trim_cons]; simp [AlOne.trim]
    rw [this]
  rw [e1, Ma.P.one_val] at e
  exact e
def comF (ls : List (List Rat)) : List Rat := ls.foldl AlOne.common []
theorem comF_one : ∀ (ls : List (List Rat)) (i : Nat), (∀ l ∈ ls, Ma.Tr l) → comF (ls.take i) = [1] → comF ls = [1] := by
  intro ls i ht h
  have e : ls = ls.take i ++ ls.drop i := (List.take_append_drop i ls).symm
  unfold comF at *
  rw [e, List.foldl_append, h]
  have : ∀ (m : List (List Rat)), (∀ l ∈ m, Ma.Tr l) → m.foldl AlOne.common [1] = [1] := by
    intro m
    induction m with
    | nil => intro _; rfl
    | cons l m ih =>
      intro hm
      rw [List.foldl_cons, common_one l (hm l (by simp))]
      exact ih fun x hx => hm x (by simp [hx])
  exact this _ fun l hl => ht l (List.mem_of_mem_drop hl)
def ComOk (ls : List (List Rat)) : Prop := (∀ l ∈ ls, Ma.Tr l) ∧ ∀ i l, ls[i]? = some l → EucOk (comF (ls.take i)) l
def spComAll (K : PySem.W.Frag) : Sp := fun vs H Q _ => ∃ (a : Addr) (ws : List V) (ls : List (List Rat)), vs = [.ref a] ∧ H a = some (.lst ws) ∧ Pols K H ws ls ∧ ComOk ls ∧
  ∀ H' r, Same H H' → H r = none → PolV K H' r (comF ls) → Q (.ref r) H'
end
end W
set_option maxRecDepth 100000
namespace W
open PySem PySem.Spec PyProof.Rows L2
/-! lists of lists of numbers, and lists of these, at places of a kind N -/
def PolsN (K : PySem.W.Frag) (H : Hp) (N : Addr → Prop) : List V → List (List Rat) → Prop
  | [], [] => True
  | v :: vs, l :: ls => (∃ b, v = .ref b ∧ N b ∧ PolV K H b l) ∧ PolsN K H N vs ls
  | _, _ => False
def TabN (K : PySem.W.Frag) (H : Hp) (N : Addr → Prop) (a : Addr) (t : List (List Rat)) : Prop := N a ∧ ∃ ws, H a = some (.lst ws) ∧ PolsN K H N ws t
def TabsN (K : PySem.W.Frag) (H : Hp) (N : Addr → Prop) : List V → List (List (List Rat)) → Prop
  | [], [] => True
  | v :: vs, l :: ls => (∃ b, v = .ref b ∧ TabN K H N b l) ∧ TabsN K H N vs ls
  | _, _ => False
def MatN (K : PySem.W.Frag) (H : Hp) (N : Addr → Prop) (a : Addr) (m : List (List (List Rat))) : Prop := N a ∧ ∃ ws, H a = some (.lst ws) ∧ TabsN K H N ws m
def Any : Addr → Prop := fun _ => True
section
variable {K : PySem.W.Frag} {H H' : Hp} {N N' : Addr → Prop}
theorem PolV.updN {b D : Addr} {us ws : List V} {l : List Rat} (hD : H D = some (.lst us)) (hb : b ≠ D) (h : PolV K H b l) : PolV K (upd H D (.lst ws)) b l := by
  obtain ⟨xs, h1, h2⟩ := h
  exact ⟨xs, by rw [upd_ne hb]; exact h1, h2.updL hD⟩
theorem PolsN.imp (hN : ∀ b, N b → N' b) (f : ∀ b l, N b → PolV K H b l → PolV K H' b l) : ∀ {vs : List V} {ls : List (List Rat)}, PolsN K H N vs ls → PolsN K H' N' vs ls
  | [], [], _ => trivial
  | _ :: _, _ :: _, h => by
    obtain ⟨⟨b, h1, h2, h3⟩, h4⟩ := h
    exact ⟨⟨b, h1, hN b h2, f b _ h2 h3⟩, PolsN.imp hN f h4⟩
  | [], _ :: _, h => h.elim
  | _ :: _, [], h => h.elim
theorem PolsN.same (e : Same H H') {vs : List V} {ls : List (List Rat)} (h : PolsN K H N vs ls) : PolsN K H' N vs ls := h.imp (fun _ h => h) (fun _ _ _ h => h.same e)
theorem PolsN.mono (hN : ∀ b, N b → N' b) {vs : List V} {ls : List (List Rat)} (h : PolsN K H N vs ls) : PolsN K H N' vs ls := h.imp hN (fun _ _ _ h => h)
theorem PolsN.updN {D : Addr} {us ws : List V} (hD : H D = some (.lst us)) (hN : ∀ b, N b → b ≠ D) {vs : List V} {ls : List (List Rat)} (h : PolsN K H N vs ls) : PolsN K (upd H D (.lst ws)) N vs ls :=
  h.imp (fun _ h => h) (fun b _ hb h => h.updN hD (hN b hb))
theorem PolsN.len : ∀ {vs : List V} {ls : List (List Rat)}, PolsN K H N vs ls → vs.length = ls.length
  | [], [], _ => rfl
  | _ :: _, _ :: _, h => by rw [List.length_cons, List.length_cons, PolsN.len h.2]
  | [], _ :: _, h => h.elim
  | _ :: _, [], h => h.elim
theorem PolsN.get : ∀ {vs : List V} {l : List (List Rat)} {i : Nat} {v : V}, PolsN K H N vs l → vs[i]? = some v → ∃ b c, v = .ref b ∧ l[i]? = some c ∧ N b ∧ PolV K H b c
  | _ :: _, c :: _, 0, v, h, e => by
    have e' := Option.some.inj e
    subst e'
    obtain ⟨⟨b, h1, h2, h3⟩, _⟩ := h
    exact ⟨b, c, h1, rfl, h2, h3⟩
  | _ :: vs, _ :: l, i + 1, v, h, e => PolsN.get (vs := vs) (l := l) (i := i) h.2 e
  | [], [], _, _, _, e => by simp at e
  | [], _ :: _, _, _, h, _ => h.elim
  | _ :: _, [], _, _, h, _ => h.elim
theorem PolsN.at {vs : List V} {l : List (List Rat)} (h : PolsN K H N vs l) {i : Nat} {c : List Rat} (e : l[i]? = some c) : ∃ b, vs[i]? = some (.ref b) ∧ N b ∧ PolV K H b c := by
  have hi : i < vs.length := by
    rw [h.len]; exact (List.getElem?_eq_some_iff.mp e).1
  obtain ⟨b, c', e1, e2, e3, e4⟩ := h.get (List.getElem?_eq_getElem hi)
  rw [e] at e2
  have := Option.some.inj e2
  subst this
  exact ⟨b, by rw [List.getElem?_eq_getElem hi, e1], e3, e4⟩
theorem PolsN.append : ∀ {vs : List V} {l : List (List Rat)} {ws : List V} {m : List (List Rat)}, PolsN K H N vs l → PolsN K H N ws m → PolsN K H N (vs ++ ws) (l ++ m)
  | [], [], _, _, _, h2 => h2
  | _ :: _, _ :: _, _, _, h, h2 => ⟨h.1, PolsN.append h.2 h2⟩
  | [], _ :: _, _, _, h, _ => h.elim
  | _ :: _, [], _, _, h, _ => h.elim
theorem PolsN.snoc {vs : List V} {l : List (List Rat)} {b : Addr} {c : List Rat} (h : PolsN K H N vs l) (hb : N b) (h2 : PolV K H b c) : PolsN K H N (vs ++ [.ref b]) (l ++ [c]) := h.append ⟨⟨b, rfl, hb, h2⟩, trivial⟩
theorem PolsN.set : ∀ {vs : List V} {l : List (List Rat)} {i : Nat} {b : Addr} {c : List Rat}, PolsN K H N vs l → N b → PolV K H b c → PolsN K H N (vs.set i (.ref b)) (l.set i c)
  | [], [], _, _, _, _, _, _ => by simp only [List.set_nil]; exact trivial
  | _ :: _, _ :: _, 0, b, _, h, hb, h2 => ⟨⟨b, rfl, hb, h2⟩, h.2⟩
  | _ :: _, _ :: _, i + 1, _, _, h, hb, h2 => ⟨h.1, PolsN.set (i := i) h.2 hb h2⟩
  | [], _ :: _, _, _, _, h, _, _ => h.elim
  | _ :: _, [], _, _, _, h, _, _ => h.elim
theorem PolsN.pols : ∀ {vs : List V} {ls : List (List Rat)}, PolsN K H N vs ls → Pols K H vs ls
  | [], [], _ => trivial
  | _ :: _, _ :: _, h => by
    obtain ⟨⟨b, h1, _, h3⟩, h4⟩ := h
    exact ⟨⟨b, h1, h3⟩, PolsN.pols h4⟩
  | [], _ :: _, h => h.elim
  | _ :: _, [], h => h.elim
theorem TabN.imp (hN : ∀ b, N b → N' b) (f : ∀ b ws, N b → H b = some (.lst ws) → H' b = some (.lst ws)) (g : ∀ v c, RatV K H v c → RatV K H' v c) {a : Addr} {t : List (List Rat)} (h : TabN K H N a t) : TabN K H' N' a t := by
  obtain ⟨h1, ws, h2, h3⟩ := h
  refine ⟨hN a h1, ws, f a ws h1 h2, h3.imp hN fun b l hb hp => ?_⟩
  obtain ⟨xs, e1, e2⟩ := hp
  refine ⟨xs, f b xs hb e1, ?_⟩
  have : ∀ {vs : List V} {l : List Rat}, Rats K H vs l → Rats K H' vs l := by
    intro vs
    induction vs with
    | nil => intro l h; cases l with
      | nil => exact trivial
      | cons _ _ => exact h.elim
    | cons v vs ih => intro l h; cases l with
      | nil => exact h.elim
      | cons c l => exact ⟨g _ _ h.1, ih h.2⟩
  exact this e2
theorem TabsN.imp (hN : ∀ b, N b → N' b) (f : ∀ b ws, N b → H b = some (.lst ws) → H' b = some (.lst ws)) (g : ∀ v c, RatV K H v c → RatV K H' v c) : ∀ {vs : List V} {ls : List (List (List Rat))}, TabsN K H N vs ls → TabsN K H' N' vs ls
  | [], [], _ => trivial
  | _ :: _, _ :: _, h => by
    obtain ⟨⟨b, h1, h2⟩, h3⟩ := h
    exact ⟨⟨b, h1, h2.imp hN f g⟩, TabsN.imp hN f g h3⟩
  | [], _ :: _, h => h.elim
  | _ :: _, [], h => h.elim
theorem TabsN.same (e : Same H H') {vs : List V} {ls : List (List (List Rat))} (h : TabsN K H N vs ls) : TabsN K H' N vs ls := h.imp (fun _ h => h) (fun _ _ _ h => e _ _ h) (fun _ _ h => h.same e)
theorem TabN.same (e : Same H H') {a : Addr} {t : List (List Rat)} (h : TabN K H N a t) : TabN K H' N a t := h.imp (fun _ h => h) (fun _ _ _ h => e _ _ h) (fun _ _ h => h.same e)
theorem TabsN.mono (hN : ∀ b, N b → N' b) {vs : List V} {ls : List (List (List Rat))} (h : TabsN K H N vs ls) : TabsN K H N' vs ls := h.imp hN (fun _ _ _ h => h) (fun _ _ h => h)
theorem TabN.mono (hN : ∀ b, N b → N' b) {a : Addr} {t : List (List Rat)} (h : TabN K H N a t) : TabN K H N' a t := h.imp hN (fun _ _ _ h => h) (fun _ _ h => h)
theorem TabsN.updN {D : Addr} {us ws : List V} (hD : H D = some (.lst us)) (hN : ∀ b, N b → b ≠ D) {vs : List V} {ls : List (List (List Rat))} (h : TabsN K H N vs ls) : TabsN K (upd H D (.lst ws)) N vs ls :=
  h.imp (fun _ h => h) (fun b _ hb h => by rw [upd_ne (hN b hb)]; exact h) (fun _ _ h => h.updL hD)
theorem TabN.updN {D : Addr} {us ws : List V} (hD : H D = some (.lst us)) (hN : ∀ b, N b → b ≠ D) {a : Addr} {t : List (List Rat)} (h : TabN K H N a t) : TabN K (upd H D (.lst ws)) N a t :=
  h.imp (fun _ h => h) (fun b _ hb h => by rw [upd_ne (hN b hb)]; exact h) (fun _ _ h => h.updL hD)
theorem TabsN.len : ∀ {vs : List V} {ls : List (List (List Rat))}, TabsN K H N vs ls → vs.length = ls.length
  | [], [], _ => rfl
  | _ :: _, _ :: _, h => by rw [List.length_cons, List.length_cons, TabsN.len h.2]
  | [], _ :: _, h => h.elim
  | _ :: _, [], h => h.elim
theorem TabsN.get : ∀ {vs : List V} {l : List (List (List Rat))} {i : Nat} {v : V}, TabsN K H N vs l → vs[i]? = some v → ∃ b c, v = .ref b ∧ l[i]? = some c ∧ TabN K H N b c
  | _ :: _, c :: _, 0, v, h, e => by
    have e' := Option.some.inj e
    subst e'
    obtain ⟨⟨b, h1, h2⟩, _⟩ := h
    exact ⟨b, c, h1, rfl, h2⟩
  | _ :: vs, _ :: l, i + 1, v, h, e => TabsN.get (vs := vs) (l := l) (i := i) h.2 e
  | [], [], _, _, _, e => by simp at e
  | [], _ :: _, _, _, h, _ => h.elim
  | _ :: _, [], _, _, h, _ => h.elim
theorem TabsN.at {vs : List V} {l : List (List (List Rat))} (h : TabsN K H N vs l) {i : Nat} {c : List (List Rat)} (e : l[i]? = some c) : ∃ b, vs[i]? = some (.ref b) ∧ TabN K H N b c := by
  have hi : i < vs.length := by
    rw [h.len]; exact (List.getElem?_eq_some_iff.mp e).1
  obtain ⟨b, c', e1, e2, e3⟩ := h.get (List.getElem?_eq_getElem hi)
  rw [e] at e2
  have := Option.some.inj e2
  subst this
  exact ⟨b, by rw [List.getElem?_eq_getElem hi, e1], e3⟩
theorem TabsN.append : ∀ {vs : List V} {l : List (List (List Rat))} {ws : List V} {m : List (List (List Rat))}, TabsN K H N vs l → TabsN K H N ws m → TabsN K H N (vs ++ ws) (l ++ m)
  | [], [], _, _, _, h2 => h2
  | _ :: _, _ :: _, _, _, h, h2 => ⟨h.1, TabsN.append h.2 h2⟩
  | [], _ :: _, _, _, h, _ => h.elim
  | _ :: _, [], _, _, h, _ => h.elim
theorem TabsN.snoc {vs : List V} {l : List (List (List Rat))} {b : Addr} {c : List (List Rat)} (h : TabsN K H N vs l) (h2 : TabN K H N b c) : TabsN K H N (vs ++ [.ref b]) (l ++ [c]) := h.append ⟨⟨b, rfl, h2⟩, trivial⟩
theorem TabsN.drop : ∀ {vs : List V} {l : List (List (List Rat))} (n : Nat), TabsN K H N vs l → TabsN K H N (vs.drop n) (l.drop n)
  | vs, l, 0, h => h
  | [], [], _ + 1, _ => trivial
  | _ :: _, _ :: _, n + 1, h => TabsN.drop n h.2
  | [], _ :: _, _ + 1, h => h.elim
  | _ :: _, [], _ + 1, h => h.elim
theorem MatN.same (e : Same H H') {a : Addr} {m : List (List (List Rat))} (h : MatN K H N a m) : MatN K H' N a m := by
  obtain ⟨h1, ws, h2, h3⟩ := h
  exact ⟨h1, ws, e _ _ h2, h3.same e⟩
theorem MatN.mono (hN : ∀ b, N b → N' b) {a : Addr} {m : List (List (List Rat))} (h : MatN K H N a m) : MatN K H N' a m := by
  obtain ⟨h1, ws, h2, h3⟩ := h
  exact ⟨hN a h1, ws, h2, h3.mono hN⟩
end
/-! the mathematics -/
theorem x_diag (c : Rat) : AlOne.add [0, 1] (AlOne.trim [-c]) = AlOne.trim [-c, 1] := by
  refine Ma.ext (Ma.tr_add _ _) (Ma.tr_trim _) fun i => ?_
  rw [Ma.co_add, Ma.co_trim, Ma.co_trim]
  match i with
  | 0 => show (0 : Rat) + -c = -c; grind
  | 1 => show (1 : Rat) + 0 = 1; grind
  | i + 2 => show (0 : Rat) + 0 = 0; grind
/-- one row of x less a table -/
def xRow (row : List Rat) (i : Nat) : List (List Rat) := (row.map fun c => AlOne.trim [-c]).set i (AlOne.trim [-(row.getD i 0), 1])
theorem lessX_row {n : Nat} {t : Al09.Table} (h : Ma.Sq n t) {i : Nat} {row : List Rat} (hi : t[i]? = some row) : (Al09.lessX t)[i]? = some (xRow row i) := by
  have hlt : i < t.length := (List.getElem?_eq_some_iff.mp hi).1
  unfold Al09.lessX
  rw [List.getElem?_map]
  have e : (t.zip (List.range t.length))[i]? = some (row, i) := by
    rw [List.getElem?_eq_getElem (by simp; omega), List.getElem_zip]
    obtain ⟨h1, h2⟩ := List.getElem?_eq_some_iff.mp hi
    simp [h2]
  rw [e]
  show some _ = some _
  congr 1
  have hw : row.length = n := h.wid row (List.mem_of_getElem? hi)
  unfold xRow
  apply List.ext_getElem
  · simp [hw, h.rows]
  · intro j h1 h2
    simp only [List.length_map, List.length_zip, List.length_range] at h1
    rw [List.getElem_set]
    simp only [List.getElem_map, List.getElem_zip, List.getElem_range]
    by_cases hj : j = i
    · rw [if_pos hj, if_pos hj.symm]
      subst hj
      rw [List.getD_eq_getElem?_getD, List.getElem?_eq_getElem (by omega)]; rfl
    · rw [if_neg hj, if_neg (fun e => hj e.symm)]
theorem lessX_len (t : Al09.Table) : (Al09.lessX t).length = t.length := by unfold Al09.lessX; simp
end W
set_option maxRecDepth 100000
namespace W
open PySem PySem.Spec PyProof.Rows L2
theorem AllFit.trim_neg {c : Rat} (h : Fits LIM c) : AllFit (AlOne.trim [-c]) ∧ (AlOne.trim [-c]).length ≤ 1 := by
  rw [Ma.trim_cons]
  simp only [AlOne.trim, if_true]
  split
  · exact ⟨fun x hx => by simp at hx, by simp⟩
  · exact ⟨fun x hx => by simp at hx; subst hx; exact h.neg, by simp⟩
theorem fits_one (n : Nat) : Fits n 1 := ⟨Nat.one_le_two_pow, Nat.one_le_two_pow⟩
section
variable {P : Program} {w : World} {K : PySem.W.Frag} {mg : Str → Option Value} {base : Heap}
def spXless (K : PySem.W.Frag) : Sp := fun vs H Q _ => ∃ (a : Addr) (t : List (List Rat)) (n : Nat), vs = [.ref a] ∧ TabN K H Any a t ∧ Ma.Sq n t ∧ n ≤ 100 ∧ (∀ r ∈ t, AllFit r) ∧
  ∀ H' r, Same H H' → MatN K H' (fun b => H b = none) r (Al09.lessX t) → Q (.ref r) H'
end
end W
set_option maxRecDepth 100000
namespace W
open PySem PySem.Spec PyProof.Rows L2
theorem cut_to {xs : List V} {c : Nat} : cutV xs none (some (c : Int)) = xs.take c := by
  unfold cutV
  rw [HT.sIx_none, HT.sIx_nat, List.drop_zero, Nat.sub_zero]
  by_cases h : c ≤ xs.length
  · rw [Nat.min_eq_left h]
  · rw [Nat.min_eq_right (by omega), List.take_length, List.take_of_length_le (by omega)]
theorem cut_from {xs : List V} {c : Nat} : cutV xs (some (c : Int)) none = xs.drop c := by
  unfold cutV
  rw [HT.sIx_none, HT.sIx_nat]
  by_cases h : c ≤ xs.length
  · rw [Nat.min_eq_left h, List.take_of_length_le (by rw [List.length_drop]; omega)]
  · rw [Nat.min_eq_right (by omega), List.drop_of_length_le (Nat.le_refl _), List.take_nil, List.drop_of_length_le (by omega)]
theorem PolsN.erase {K : PySem.W.Frag} {H : Hp} {N : Addr → Prop} : ∀ {vs : List V} {l : List (List Rat)} (i : Nat), PolsN K H N vs l → PolsN K H N (vs.eraseIdx i) (l.eraseIdx i)
  | [], [], _, _ => trivial
  | _ :: _, _ :: _, 0, h => h.2
  | _ :: _, _ :: _, i + 1, h => ⟨h.1, PolsN.erase i h.2⟩
  | [], _ :: _, _, h => h.elim
  | _ :: _, [], _, h => h.elim
section
variable {P : Program} {w : World} {K : PySem.W.Frag} {mg : Str → Option Value} {base : Heap}
def spWithout (K : PySem.W.Frag) : Sp := fun vs H Q _ => ∃ (a : Addr) (m : List (List (List Rat))) (c : Nat), vs = [.ref a, .int c] ∧ MatN K H Any a m ∧ m.length ≤ 1000 ∧ (∀ r ∈ m, r.length ≤ 1000) ∧ c ≤ 1000 ∧
  ∀ H' r, Same H H' → MatN K H' Any r (m.map fun row => row.eraseIdx c) → Q (.ref r) H'
end
end W
set_option maxRecDepth 100000
namespace W
open PySem PySem.Spec PyProof.Rows L2
theorem Ht.allFit {p : Ma.P} {a : Nat} (h : Ma.Ht p a) (ha : a ≤ LIM) : AllFit p.1 := fun c hc => Fits.mono ((Ma.Ht.htP h).num c hc) ha
theorem prodOk_of {p q : Ma.P} {D E a b : Nat} (hp : Ma.HtD p D a) (hq : Ma.HtD q E b) (lp : p.len ≤ 5) (lq : q.len ≤ 5) (hD : 0 < D) (hE : 0 < E) (hD2 : D ≤ 2 ^ 2200) (hE2 : E ≤ 2 ^ 2200) (hab : a + b + 6 ≤ LIM) : ProdOk p.1 q.1 := by
  have l1 : p.1.length ≤ 5 := lp
  have l2 : q.1.length ≤ 5 := lq
  exact ⟨by omega, by omega, D, E, a, b, hD, hE, hD2, hE2, hp.htL, hq.htL, by omega, by omega, by omega⟩
section
variable {P : Program} {w : World} {K : PySem.W.Frag} {mg : Str → Option Value} {base : Heap}
def spDet (K : PySem.W.Frag) (n : Nat) : Sp := fun vs H Q _ => ∃ (a : Addr) (M : Ma.Mat), vs = [.ref a] ∧ MatN K H Any a (Ma.vals M) ∧ Ma.GoodMat n M ∧
  ∀ H' r, Same H H' → H r = none → PolV K H' r (Ma.detP n M).1 → Q (.ref r) H'
theorem vals_len (M : Ma.Mat) : (Ma.vals M).length = M.length := by unfold Ma.vals; simp
end
end W
set_option maxRecDepth 100000
namespace W
open PySem PySem.Spec PyProof.Rows L2
/-! lists of lists of places -/
abbrev nis (l : List Nat) : List V := l.map fun (x : Nat) => V.int (x : Int)
def IlsN (H : Hp) (N : Addr → Prop) : List V → List (List Nat) → Prop
  | [], [] => True
  | v :: vs, l :: ls => (∃ b, v = .ref b ∧ N b ∧ H b = some (.lst (nis l))) ∧ IlsN H N vs ls
  | _, _ => False
section
variable {H H' : Hp} {N N' : Addr → Prop}
theorem IlsN.imp (hN : ∀ b, N b → N' b) (f : ∀ b o, N b → H b = some o → H' b = some o) : ∀ {vs : List V} {ls : List (List Nat)}, IlsN H N vs ls → IlsN H' N' vs ls
  | [], [], _ => trivial
  | _ :: _, _ :: _, h => by
    obtain ⟨⟨b, h1, h2, h3⟩, h4⟩ := h
    exact ⟨⟨b, h1, hN b h2, f b _ h2 h3⟩, IlsN.imp hN f h4⟩
  | [], _ :: _, h => h.elim
  | _ :: _, [], h => h.elim
theorem IlsN.same (e : Same H H') {vs : List V} {ls : List (List Nat)} (h : IlsN H N vs ls) : IlsN H' N vs ls := h.imp (fun _ h => h) (fun _ _ _ h => e _ _ h)
theorem IlsN.mono (hN : ∀ b, N b → N' b) {vs : List V} {ls : List (List Nat)} (h : IlsN H N vs ls) : IlsN H N' vs ls := h.imp hN (fun _ _ _ h => h)
theorem IlsN.updN {D : Addr} {o : HO} (hN : ∀ b, N b → b ≠ D) {vs : List V} {ls : List (List Nat)} (h : IlsN H N vs ls) : IlsN (upd H D o) N vs ls :=
  h.imp (fun _ h => h) (fun b _ hb h => by rw [upd_ne (hN b hb)]; exact h)
theorem IlsN.len : ∀ {vs : List V} {ls : List (List Nat)}, IlsN H N vs ls → vs.length = ls.length
  | [], [], _ => rfl
  | _ :: _, _ :: _, h => by rw [List.length_cons, List.length_cons, IlsN.len h.2]
  | [], _ :: _, h => h.elim
  | _ :: _, [], h => h.elim
theorem IlsN.get : ∀ {vs : List V} {l : List (List Nat)} {i : Nat} {v : V}, IlsN H N vs l → vs[i]? = some v → ∃ b c, v = .ref b ∧ l[i]? = some c ∧ N b ∧ H b = some (.lst (nis c))
  | _ :: _, c :: _, 0, v, h, e => by
    have e' := Option.some.inj e
    subst e'
    obtain ⟨⟨b, h1, h2, h3⟩, _⟩ := h
    exact ⟨b, c, h1, rfl, h2, h3⟩
  | _ :: vs, _ :: l, i + 1, v, h, e => IlsN.get (vs := vs) (l := l) (i := i) h.2 e
  | [], [], _, _, _, e => by simp at e
  | [], _ :: _, _, _, h, _ => h.elim
  | _ :: _, [], _, _, h, _ => h.elim
theorem IlsN.append : ∀ {vs : List V} {l : List (List Nat)} {ws : List V} {m : List (List Nat)}, IlsN H N vs l → IlsN H N ws m → IlsN H N (vs ++ ws) (l ++ m)
  | [], [], _, _, _, h2 => h2
  | _ :: _, _ :: _, _, _, h, h2 => ⟨h.1, IlsN.append h.2 h2⟩
  | [], _ :: _, _, _, h, _ => h.elim
  | _ :: _, [], _, _, h, _ => h.elim
theorem IlsN.snoc {vs : List V} {l : List (List Nat)} {b : Addr} {c : List Nat} (h : IlsN H N vs l) (hb : N b) (h2 : H b = some (.lst (nis c))) : IlsN H N (vs ++ [.ref b]) (l ++ [c]) := h.append ⟨⟨b, rfl, hb, h2⟩, trivial⟩
end
theorem eqk {k : V → Hp → Prop} {x y : V} {H : Hp} (e : x = y) (h : k y H) : k x H := by rw [e]; exact h
/-! the mathematics: one more place behind each -/
def stC (t : Nat) (m : List Nat) : Nat := if 0 < t then m.getLastD 0 + 1 else 0
def extC (n t : Nat) (m : List Nat) : List (List Nat) := (List.range (n - stC t m)).map fun i => m ++ [stC t m + i]
def CM (n : Nat) : Nat → List (List Nat)
  | 0 => [[]]
  | t + 1 => (CM n t).flatMap (extC n t)
theorem CM_choose : ∀ n, n ≤ 4 → ∀ k, k ≤ 4 → CM n k = Al09.choose k (List.range n) := by decide +kernel
theorem CM_small : ∀ n, n ≤ 4 → ∀ k, k ≤ 4 → (CM n k).length ≤ 10 ∧ ∀ m ∈ CM n k, m.length = k ∧ ∀ x ∈ m, x < n := by decide +kernel
theorem flat_len (n t i : Nat) (hn : n ≤ 4) (ht : t ≤ 4) : (((CM n t).take i).flatMap (extC n t)).length ≤ 100 := by
  have h := (CM_small n hn t ht).1
  have : ∀ l : List (List Nat), (l.flatMap (extC n t)).length ≤ 4 * l.length := by
    intro l
    induction l with
    | nil => simp
    | cons a l ih =>
      rw [List.flatMap_cons, List.length_append, List.length_cons]
      have : (extC n t a).length ≤ 4 := by unfold extC; simp; omega
      omega
  have h2 := this ((CM n t).take i)
  rw [List.length_take] at h2
  omega
theorem flat_take {A C : Type} (f : A → List C) {l : List A} {i : Nat} {x : A} (h : l[i]? = some x) : (l.take (i + 1)).flatMap f = (l.take i).flatMap f ++ f x := by
  rw [List.take_add_one, h, List.flatMap_append]; simp
theorem last_int {m : List Nat} (h : m ≠ []) : atI (nis m) (-1) = some (V.int ((m.getLastD 0 : Nat) : Int)) := by
  rcases List.eq_nil_or_concat m with h0 | ⟨u, c, h0⟩
  · exact absurd h0 h
  · rw [List.concat_eq_append] at h0
    subst h0
    unfold nis
    rw [List.map_append]
    have : (u ++ [c]).getLastD 0 = c := by simp
    rw [this]
    exact atI_last _ _
theorem tIf_go {ta tb : TE} {σ : L2.St} {H : Hp} {k : V → Hp → Prop} {c : Bool} (x : V) (hk : k x H) (h1 : c = true → (∀ y, y = x → k y H) → ta σ H k) (h2 : c = false → (∀ y, y = x → k y H) → tb σ H k) : if c = true then ta σ H k else tb σ H k := by
  cases c with
  | true => exact iteT (h1 rfl fun y e => by rw [e]; exact hk)
  | false => exact iteF (h2 rfl fun y e => by rw [e]; exact hk)
section
variable {P : Program} {w : World} {K : PySem.W.Frag} {mg : Str → Option Value} {base : Heap}
def spChoices (K : PySem.W.Frag) : Sp := fun vs H Q _ => ∃ (n k : Nat), vs = [.int n, .int k] ∧ n ≤ 4 ∧ k ≤ 4 ∧
  ∀ H' r ws, Same H H' → H r = none → H' r = some (.lst ws) → IlsN H' (fun b => H b = none) ws (CM n k) → Q (.ref r) H'
end
end W
set_option maxRecDepth 100000
namespace W
open PySem PySem.Spec PyProof.Rows L2
theorem getD_some {A : Type} {l : List A} {i : Nat} {d : A} (h : i < l.length) : l[i]? = some (l.getD i d) := by
  rw [List.getD_eq_getElem?_getD, List.getElem?_eq_getElem h]; rfl
def prow (M : Ma.Mat) (ci : List Nat) (i : Nat) : List (List Rat) := ci.map fun j => ((M.getD i []).getD j 0).1
theorem vals_pick (M : Ma.Mat) (ri ci : List Nat) : Ma.vals (Ma.pick (ri.map fun i => M.getD i []) ci) = ri.map (prow M ci) := by
  unfold Ma.vals Ma.pick prow
  rw [List.map_map, List.map_map]
  refine List.map_congr_left fun i _ => ?_
  show (ci.map _).map _ = _
  rw [List.map_map]; rfl
theorem PolV.avoid {K : PySem.W.Frag} {H : Hp} {b D : Addr} {l : List Rat} (h : PolV K H b l) (nD : H D = none) : b ≠ D := by
  obtain ⟨xs, e, _⟩ := h
  exact ne_of_none e nD
section
variable {P : Program} {w : World} {K : PySem.W.Frag} {mg : Str → Option Value} {base : Heap}
def spPart (K : PySem.W.Frag) : Sp := fun vs H Q _ => ∃ (a b c : Addr) (M : Ma.Mat) (ri ci : List Nat), vs = [.ref a, .ref b, .ref c] ∧ MatN K H Any a (Ma.vals M) ∧ H b = some (.lst (nis ri)) ∧ H c = some (.lst (nis ci)) ∧
  (∀ i ∈ ri, i < M.length) ∧ (∀ j ∈ ci, ∀ r ∈ M, j < r.length) ∧ ri.length ≤ 1000 ∧ ci.length ≤ 1000 ∧
  ∀ H' r, Same H H' → MatN K H' Any r (Ma.vals (Ma.pick (ri.map fun i => M.getD i []) ci)) → Q (.ref r) H'
/-- the determinants of all choices -/
def minorsM (M : Ma.Mat) (n k : Nat) : List Ma.P := (CM n k).flatMap fun ri => (CM n k).map fun ci => Ma.detP k (Ma.pick (ri.map fun i => M.getD i []) ci)
theorem good_pick {n k : Nat} {M : Ma.Mat} (h : Ma.GoodMat n M) {ri ci : List Nat} (hr : ri.length = k) (hc : ci.length = k) (hrn : ∀ i ∈ ri, i < n) : Ma.GoodMat k (Ma.pick (ri.map fun i => M.getD i []) ci) := by
  refine ⟨by unfold Ma.pick; simp [hr], ?_, Ma.pick_good ?_⟩
  · intro r hr'
    unfold Ma.pick at hr'
    rw [List.mem_map] at hr'
    obtain ⟨t, _, e⟩ := hr'
    rw [← e, List.length_map, hc]
  · intro r hr'
    rw [List.mem_map] at hr'
    obtain ⟨i, hi, e⟩ := hr'
    have hi' : i < M.length := by rw [h.rows]; exact hrn i hi
    refine h.good r ?_
    rw [← e, List.getD_eq_getElem?_getD, List.getElem?_eq_getElem hi']
    exact List.getElem_mem hi'
def spMinors (K : PySem.W.Frag) : Sp := fun vs H Q _ => ∃ (a : Addr) (M : Ma.Mat) (n k : Nat), vs = [.ref a, .int k] ∧ MatN K H Any a (Ma.vals M) ∧ Ma.GoodMat n M ∧ n ≤ 4 ∧ k ≤ 4 ∧
  ∀ H' r ws, Same H H' → H r = none → H' r = some (.lst ws) → PolsN K H' (fun b => H b = none) ws ((minorsM M n k).map fun p => p.1) → Q (.ref r) H'
end
end W
set_option maxRecDepth 100000
namespace W
open PySem PySem.Spec PyProof.Rows L2
/-! the mathematics -/
theorem minorsM_eq {n : Nat} {t : Al09.Table} (h : Ma.Sq n t) (hn : n ≤ 4) {k : Nat} (hk : k ≤ 4) : minorsM (Ma.lessP t) n k = Ma.minorsP t k := by
  unfold minorsM Ma.minorsP
  rw [h.rows, ← CM_choose n hn k hk]
  have e : Ma.lessP t = (List.range n).map fun i => (Ma.lessP t).getD i [] := by
    apply List.ext_getElem
    · rw [(Ma.lessP_isX h).rows]; simp
    · intro i h1 h2
      simp only [List.getElem_map, List.getElem_range]
      rw [List.getD_eq_getElem?_getD, List.getElem?_eq_getElem h1]; rfl
  conv => rhs; rw [e, Ma.choose_map, ← CM_choose n hn k hk]
  rw [List.flatMap_map]
theorem comF_val : ∀ (l : List Ma.P), comF (l.map fun p => p.1) = (Ma.comL l 0).1 := by
  intro l
  unfold comF
  rw [← Ma.P.zero_val, Ma.comL_val]
theorem comOk_minors {n : Nat} {t : Al09.Table} (h : Ma.Sq n t) (hn : n ≤ 4) (hs : Ma.SmallT t) {k : Nat} (hk : k ≤ n) (hk0 : 0 < k) : ComOk ((Ma.minorsP t k).map fun p => p.1) := by
  refine ⟨fun l hl => ?_, fun i l hl => ?_⟩
  · rw [List.mem_map] at hl
    obtain ⟨p, _, e⟩ := hl
    rw [← e]; exact p.2
  · rw [List.getElem?_map] at hl
    obtain ⟨p, hp, rfl⟩ := Option.map_eq_some_iff.mp hl
    have hpm := List.mem_of_getElem? hp
    rw [← List.map_take, comF_val]
    by_cases h3 : k ≤ 3
    · have hm : ∀ q ∈ (Ma.minorsP t k).take i, Ma.Ht q 312 ∧ q.len ≤ 4 := fun q hq => Ma.minor_ht3 h hn hs h3 (List.mem_of_mem_take hq)
      have c := Ma.comL_ht2 (b := 312) (l := (Ma.minorsP t k).take i) (fun q hq => ⟨(hm q hq).1, by have := (hm q hq).2; omega⟩)
      have c4 := c.2 4 (fun q hq => (hm q hq).2)
      have hp3 := Ma.minor_ht3 h hn hs h3 hpm
      have l1 : (Ma.comL ((Ma.minorsP t k).take i) 0).1.length ≤ 4 := c4.1
      have l2 : p.1.length ≤ 4 := hp3.2
      refine ⟨(Ma.comL ((Ma.minorsP t k).take i) 0).2, p.2, by omega, by omega, 10, (if (Ma.comL ((Ma.minorsP t k).take i) 0).1.length = 4 then 312 else 492), 312, ?_, Ma.Ht.htP hp3.1, Ma.okE_minors _ l1 _ l2⟩
      split
      · rename_i e4
        exact Ma.Ht.htP (c4.2 e4)
      · exact Ma.Ht.htP c.1
    · have hk4 : k = n := by omega
      subst hk4
      rw [Ma.minors_last h] at hp ⊢
      have hi : i = 0 := by
        have := (List.getElem?_eq_some_iff.mp hp).1
        simp at this; exact this
      subst hi
      have hpc := Ma.minor_ht h hn hs hpm
      have l2 : p.1.length ≤ 5 := hpc.2
      show EucOk (Ma.comL [] 0).1 p.1
      have e0 : (Ma.comL [] 0).1 = [] := Ma.P.zero_val
      rw [e0]
      exact ⟨Ma.tr_nil, p.2, by simp, by omega, 10, 0, 418, Ma.htP_nil 0, Ma.Ht.htP hpc.1, Ma.okE_char _ l2⟩
theorem small_fits {c : Rat} (h : Ma.Small c) : Fits LIM c := Fits.mono (n := LIM) (m := 20) h (by decide)
theorem divOk_dP {n : Nat} {t : Al09.Table} (h : Ma.Sq n t) (hn : n ≤ 4) (hs : Ma.SmallT t) {k : Nat} (hk : k < n) : DivOk (Ma.dP t (k + 1)).1 (Ma.dP t k).1 := by
  have h1 := Ma.dP_ht h hn hs (show k + 1 ≤ n by omega)
  have h2 := Ma.dP_ht h hn hs (show k ≤ n by omega)
  have l1 : (Ma.dP t (k + 1)).1.length ≤ 5 := h1.2
  have l2 : (Ma.dP t k).1.length ≤ 5 := h2.2
  have ne : (Ma.dP t k).1 ≠ [] := fun e => Ma.dP_ne h (show k ≤ n by omega) (Ma.P.eq_zero_iff.mpr e)
  have := Ma.pos_len ne
  refine ⟨(Ma.dP t (k + 1)).2, (Ma.dP t k).2, ne, by omega, by omega, 598, 598, Ma.Ht.htP h1.1, Ma.Ht.htP h2.1, ?_, by decide⟩
  have : ((Ma.dP t (k + 1)).1.length + 1 - (Ma.dP t k).1.length) * (598 + 1) ≤ 5 * (598 + 1) := Nat.mul_le_mul_right _ (by omega)
  show _ ≤ 4400
  omega
/-- behind i sizes -/
def formsTo (t : Al09.Table) (i : Nat) : List (List Rat) := (((List.range i).map fun k => Ma.fP t k).filter fun p => decide (2 ≤ p.1.length)).map fun p => p.1
theorem formsTo_succ {n : Nat} {t : Al09.Table} (h : Ma.Sq n t) {i : Nat} (hi : i < n) : formsTo t (i + 1) = if (Ma.fP t i).1 = [1] then formsTo t i else formsTo t i ++ [(Ma.fP t i).1] := by
  unfold formsTo
  rw [List.range_succ, List.map_append, List.filter_append, List.map_append]
  have hld := (Ma.fP_all h hi).2.1
  have hne : Ma.fP t i ≠ 0 := by intro e; rw [e] at hld; exact absurd hld (by show AlOne.lead (0 : Ma.P).1 ≠ 1; rw [Ma.P.zero_val]; decide)
  have hpos := Ma.P.len_pos hne
  have hpos' : 0 < (Ma.fP t i).1.length := hpos
  by_cases h1 : (Ma.fP t i).1 = [1]
  · rw [if_pos h1]
    simp [h1]
  · rw [if_neg h1]
    have h2 : 2 ≤ (Ma.fP t i).1.length := by
      apply Classical.byContradiction
      intro h3
      have hl1 : (Ma.fP t i).len = 1 := by show (Ma.fP t i).1.length = 1; omega
      have := Ma.P.eq_cst hl1
      rw [hld] at this
      apply h1
      rw [this]
      show AlOne.trim [1] = [1]
      rw [Ma.trim_cons]; simp [AlOne.trim]
    simp [h2]
theorem formsTo_all {n : Nat} {t : Al09.Table} (h : Ma.Sq n t) : formsTo t n = Al09.forms t := by
  rw [Ma.forms_val h]
  unfold formsTo Ma.formsP
  rw [h.rows]
theorem formsTo_len (t : Al09.Table) (i : Nat) : (formsTo t i).length ≤ i := by
  unfold formsTo
  rw [List.length_map]
  exact Nat.le_trans (List.length_filter_le _ _) (by simp)
section
variable {P : Program} {w : World} {K : PySem.W.Frag} {mg : Str → Option Value} {base : Heap}
def spForms (K : PySem.W.Frag) : Sp := fun vs H Q _ => ∃ (a : Addr) (t : Al09.Table) (n : Nat), vs = [.ref a] ∧ TabN K H Any a t ∧ Ma.Sq n t ∧ n ≤ 4 ∧ Ma.SmallT t ∧
  ∀ H' r ws, Same H H' → H r = none → H' r = some (.lst ws) → PolsN K H' (fun b => H b = none) ws (Al09.forms t) → Q (.ref r) H'
end
end W
set_option maxRecDepth 100000
namespace W
open PySem PySem.Spec PyProof.Rows L2
open TL (tl numL numL_lt numL_step tl_num tl_append len_tl ext_tl)
/-! texts -/
theorem numL_dg : ∀ n : Nat, numL n = Ma.dg n := by
  intro n
  induction n using Nat.strongRecOn with
  | _ n ih =>
    rw [Ma.dg]
    by_cases h : n < 10
    · rw [dif_pos h, numL_lt h]
    · rw [dif_neg h, numL_step (by omega), ih (n / 10) (by omega)]
def intT (i : Int) : List Nat := (if i < 0 then [45] else []) ++ Ma.dg i.natAbs
theorem tl_int (i : Int) : tl (Str.ofString (toString i)) = intT i := by
  unfold intT
  cases i with
  | ofNat m =>
    rw [if_neg (show ¬ (Int.ofNat m) < 0 from Int.not_lt.mpr (Int.natCast_nonneg m))]
    have := tl_num m
    rw [numL_dg] at this
    exact this
  | negSucc m =>
    rw [if_pos (by omega)]
    have h1 : tl (Str.ofString (toString (Int.negSucc m))) = 45 :: numL (m + 1) := by
      show (Str.ofString (toString (Int.negSucc m))).cps.toList = _
      rw [Str.ofString_eq_toList]
      show ((("-" ++ Nat.repr (m + 1)) : String).toList.map Char.toNat) = _
      rw [String.toList_append, List.map_append, Nat.toList_repr]
      rfl
    rw [h1, numL_dg]
    rfl
theorem dg_len : ∀ (k n : Nat), 0 < k → n < 10 ^ k → (Ma.dg n).length ≤ k
  | 0, _, h, _ => by omega
  | k + 1, n, _, h => by
    rw [Ma.dg]
    by_cases h1 : n < 10
    · rw [dif_pos h1]; simp
    · rw [dif_neg h1, List.length_append]
      have hk : 0 < k := by
        rcases Nat.eq_zero_or_pos k with h0 | h0
        · subst h0; simp at h; omega
        · exact h0
      have : n / 10 < 10 ^ k := by rw [Nat.pow_succ] at h; omega
      have := dg_len k (n / 10) hk this
      simp; omega
theorem two_le_ten (k : Nat) : 2 ^ k ≤ 10 ^ k := Nat.pow_le_pow_left (by omega) k
theorem dg_len2 {k n : Nat} (hk : 0 < k) (h : n < 2 ^ k) : (Ma.dg n).length ≤ k := dg_len k n hk (Nat.lt_of_lt_of_le h (two_le_ten k))
/-- a number that may be written: up to 4400 bits -/
def Wr (c : Rat) : Prop := c.num.natAbs ≤ 2 ^ 4400 ∧ c.den ≤ 2 ^ 4400
theorem Wr.dig {n : Nat} (h : n ≤ 2 ^ 4400) : n < 10 ^ 4300 :=
  Nat.lt_of_lt_of_le (Nat.lt_of_le_of_lt h (Nat.pow_lt_pow_right (by omega) (show 4400 < 12900 by omega))) PyProof.Rows.pow_lo
theorem pow_1900 : 2 ^ 4400 < 10 ^ 1900 := by decide +kernel
theorem wr_lt {n : Nat} (h : n ≤ 2 ^ 4400) : n < 10 ^ 1900 := Nat.lt_of_le_of_lt h pow_1900
theorem intT_len {i : Int} (h : i.natAbs ≤ 2 ^ 4400) : (intT i).length ≤ 1901 := by
  unfold intT
  have := dg_len 1900 _ (by omega) (wr_lt h)
  rw [List.length_append]
  split <;> simp <;> omega
theorem intT_nat (n : Nat) : intT (n : Int) = Ma.dg n := by
  unfold intT
  rw [if_neg (by omega), Int.natAbs_natCast]; rfl
theorem sgnT_eq (c : Rat) : Ma.sgnT c = intT c.num ++ (if c.den = 1 then [] else 47 :: Ma.dg c.den) := by
  unfold Ma.sgnT Ma.numT intT
  rw [List.append_assoc]
theorem sgnT_len {c : Rat} (h : Wr c) : (Ma.sgnT c).length ≤ 3802 := by
  rw [sgnT_eq, List.length_append]
  have h1 := intT_len h.1
  have h2 := dg_len 1900 _ (by omega) (wr_lt h.2)
  split <;> simp <;> omega
theorem numT_sgn {c : Rat} (h : 0 ≤ c.num) : Ma.sgnT c = Ma.numT c := by
  unfold Ma.sgnT
  rw [if_neg (by omega)]; rfl
theorem big_line : (10000000 : Nat) ≤ sizeLine := by decide
section
variable {X : Cx} {pins : List (Addr × Obj)} {σ : List (Option V)} {H : Hp} {s : Shared}
theorem noDigits (I : Inv X pins σ H s) (e : PySem.W.nsIn X.K cStatics "sys.int_max_str_digits" = some none) : s.heap.NoDigits := by
  obtain ⟨mc, hns, _⟩ := I.mod.nolimit
  refine Heap.NoDigits.keeps ⟨mc, hns, ?_⟩ I.bk
  obtain ⟨o, es, ep, ho, hd, _, hf⟩ := hns
  unfold PySem.W.nsIn at e
  split at e
  · rename_i c d es' n' sl q
    have := I.mod.kin _ _ q
    rw [ho] at this
    cases this
    cases hd
    split at e
    · cases e
    · rename_i he
      rw [← hf]
      unfold nsFind findBy
      rw [← Array.find?_toList, he]
      rfl
  · cases e
/-- str of a number of up to 4300 digits -/
theorem call_str_D (hc : X.calm = true) (z : PySem.W.nsIn X.K cStatics "sys.int_max_str_digits" = some none) : CallR X (.type "str") (fun xs H Q => ∃ i, xs = [.int i] ∧ i.natAbs < 10 ^ 4300 ∧ Q (.str (toString i)) H) := by
  intro pins s σ H xs us Q I r h
  obtain ⟨i, rfl, hz, q⟩ := h
  obtain ⟨u, rfl, t, rfl⟩ := vals1 r
  exact str_of_int_or (I.ok.hd hc) (noDigits I z) (fun _ => ⟨.str _, H, I.tok _, ⟨_, rfl⟩, q⟩) (fun h => absurd hz (Nat.not_lt.mpr h))
end
section
variable {P : Program} {w : World} {K : PySem.W.Frag} {mg : Str → Option Value} {base : Heap}
def spNumT (K : PySem.W.Frag) : Sp := fun vs H Q _ => ∃ (x : V) (c : Rat), vs = [x] ∧ RatV K H x c ∧ Wr c ∧ ∀ z : Str, tl z = Ma.sgnT c → Q (.str z) H
theorem ok_number_text (T : Txt K mg) : FnOk P w K mg base CX0 1 T.f_number_text T.e_number_text ["number"] (spNumT K) := by
  refine T.d_number_text.F.ok sc_number_text (fun vs H Q E h => ?_) (fun cdv A outer s H vs Q E hr h => ?_)
  · obtain ⟨x, c, rfl, _⟩ := h
    rfl
  · obtain ⟨x, c, rfl, ⟨p, rfl, hp⟩, hw, q⟩ := h
    refine ⟨_, pss_cons (ps_set (i := 1) sc_number_text.nd rfl (.inl rfl) (pe_callTy (call_str_D rfl T.dgs) (by rfl) T.z_str (by decide +kernel) (pa_cons (pe_ix ix_tup (pv 0) pe_int (fun _ _ => rfl)) pa_nil)))
      (pss_one (ps_ret (pe_ifExp (pt_cmpR op_eq (pe_ix ix_tup (pv 0) pe_int (fun _ _ => rfl)) pe_int (nomark _)) (pv 1)
        (pe_op op_add_str (pe_op op_add_str (pv 1) pe_str) (pe_callTy (call_str_D rfl T.dgs) (by rfl) T.z_str (by decide +kernel) (pa_cons (pe_ix ix_tup (pv 0) pe_int (fun _ _ => rfl)) pa_nil)))))), ?_⟩
    refine ⟨_, rfl, p, _, 0, _, rfl, rfl, hp, atI_nat (j := 0) rfl, _, rfl, Wr.dig hw.1, ?_⟩
    have hz := tl_int c.num
    generalize Str.ofString (toString c.num) = z1 at hz
    refine ⟨_, rfl, p, _, 1, _, rfl, rfl, hp, atI_nat (j := 1) rfl, rfl, _, rfl, ite2 (fun e => ?_) (fun e => ?_)⟩
    · have e1 : (c.den : Int) = 1 := V.int.inj (of_decide_eq_true e)
      refine ⟨_, rfl, q z1 ?_⟩
      rw [hz, sgnT_eq, if_pos (by omega), List.append_nil]
    · have e1 : ¬ c.den = 1 := fun h => e (decide_eq_true (by rw [h]; rfl))
      have hden : ((c.den : Int)).natAbs ≤ 2 ^ 4400 := natc hw.2
      have hz2 := tl_int ((c.den : Nat) : Int)
      refine ⟨_, rfl, _, _, rfl, rfl, ?_, _, rfl, p, _, 1, _, rfl, rfl, hp, atI_nat (j := 1) rfl, _, rfl, Wr.dig hden, ?_⟩
      · rw [len_tl, hz]
        have := intT_len hw.1
        have h3 : (Str.ofString "/").length ≤ 10 := by decide +kernel
        have := big_line
        omega
      · generalize Str.ofString (toString ((c.den : Nat) : Int)) = z2 at hz2
        refine ⟨_, _, rfl, rfl, ?_, q _ ?_⟩
        · rw [len_tl, tl_append, hz, len_tl, hz2]
          have := intT_len hw.1
          have := intT_len hden
          have h3 : (tl (Str.ofString "/")).length ≤ 10 := by decide +kernel
          have := big_line
          rw [List.length_append]
          omega
        · rw [tl_append, tl_append, hz, hz2, sgnT_eq, if_neg e1, intT_nat, List.append_assoc]
          have : tl (Str.ofString "/") = [47] := by decide +kernel
          rw [this]; rfl
/-- a sign -/
def sgS (b l : Bool) : List Nat := if l then (if b then [45] else []) else (if b then [32, 45, 32] else [32, 43, 32])
def spSign : Sp := fun vs H Q _ => ∃ (b l : Bool), vs = [.bl b, .bl l] ∧ ∀ z : Str, tl z = sgS b l → Q (.str z) H
theorem termT_len {c : Rat} {k : Nat} (h : Wr c) (hc : 0 ≤ c.num) (hk : k < 1000) : (AlBase.termText (Ma.mo k) c).length ≤ 3900 := by
  rw [Ma.termText_mo hc]
  have h1 := sgnT_len h
  rw [numT_sgn hc] at h1
  have h2 : (Ma.powT k).length ≤ 10 := by
    unfold Ma.powT
    have := dg_len 3 k (by omega) (by omega)
    split <;> simp <;> omega
  split
  · omega
  · split
    · omega
    · rw [List.length_append, List.length_cons]; omega
def spTerm (K : PySem.W.Frag) : Sp := fun vs H Q _ => ∃ (x : V) (c : Rat) (k : Nat), vs = [x, .int k] ∧ RatV K H x c ∧ Wr c ∧ 0 ≤ c.num ∧ k < 1000 ∧ ∀ z : Str, tl z = AlBase.termText (Ma.mo k) c → Q (.str z) H
end
end W
set_option maxRecDepth 100000
namespace W
open PySem PySem.Spec PyProof.Rows L2
open TL (tl numL numL_lt numL_step tl_num tl_append len_tl ext_tl)
/-! the text so far: the highest t powers -/
def TT (l : List Rat) (t : Nat) : List Nat := (Ma.termsD (l.drop (l.length - t)) (l.length - t)).foldl Ma.stepT []
theorem TT_zero (l : List Rat) : TT l 0 = [] := by
  unfold TT
  rw [Nat.sub_zero, List.drop_of_length_le (Nat.le_refl _)]; rfl
theorem TT_succ {l : List Rat} {t : Nat} (ht : t < l.length) {c : Rat} (hc : l[l.length - 1 - t]? = some c) : TT l (t + 1) = if c = 0 then TT l t else Ma.stepT (TT l t) (Ma.mo (l.length - 1 - t), c) := by
  unfold TT
  have e1 : l.length - (t + 1) = l.length - 1 - t := by omega
  rw [e1]
  obtain ⟨h1, h2⟩ := List.getElem?_eq_some_iff.mp hc
  rw [List.drop_eq_getElem_cons h1, h2, show l.length - 1 - t + 1 = l.length - t by omega]
  show (Ma.termsD (l.drop (l.length - t)) (l.length - 1 - t + 1) ++ _).foldl _ _ = _
  rw [show l.length - 1 - t + 1 = l.length - t by omega, List.foldl_append]
  by_cases h : c = 0
  · rw [if_pos h, if_pos h]; rfl
  · rw [if_neg h, if_neg h]; rfl
theorem TT_all {l : List Rat} (h : Ma.Tr l) (hne : l ≠ []) : TT l l.length = AlOne.text l := by
  rw [Ma.text_eq h hne]
  unfold TT
  rw [Nat.sub_self, List.drop_zero]
theorem rat_neg_iff (c : Rat) : c < 0 ↔ c.num < 0 := by rw [Rat.lt_iff]; simp
/-- a number without its sign -/
def absR (c : Rat) : Rat := if c < 0 then -c else c
theorem absR_num (c : Rat) : (absR c).num = (c.num.natAbs : Int) ∧ (absR c).den = c.den := by
  unfold absR
  have h := rat_neg_iff c
  by_cases h1 : c < 0
  · rw [if_pos h1, Rat.neg_num, Rat.neg_den]
    have := h.mp h1
    exact ⟨by omega, rfl⟩
  · rw [if_neg h1]
    have : ¬ c.num < 0 := fun h2 => h1 (h.mpr h2)
    exact ⟨by omega, rfl⟩
theorem absR_wr {c : Rat} (h : Wr c) : Wr (absR c) := by
  unfold Wr
  rw [(absR_num c).1, (absR_num c).2, Int.natAbs_natCast]; exact h
theorem stepT_eq (acc : List Nat) (k : Nat) (c : Rat) : Ma.stepT acc (Ma.mo k, c) = acc ++ sgS (decide (c.num < 0)) (decide (acc = [])) ++ AlBase.termText (Ma.mo k) (absR c) := by
  unfold Ma.stepT absR sgS
  have h := rat_neg_iff c
  by_cases h1 : c < 0
  · have h2 := h.mp h1
    by_cases h3 : acc = []
    · simp [h1, h2, h3]
    · simp [h1, h2, h3]
  · have h2 : ¬ c.num < 0 := fun h2 => h1 (h.mpr h2)
    by_cases h3 : acc = []
    · simp [h1, h2, h3]
    · simp [h1, h2, h3]
theorem sgS_len (b l : Bool) : (sgS b l).length ≤ 3 := by cases b <;> cases l <;> decide
theorem TT_len {l : List Rat} (hl : l.length ≤ 100) (hw : ∀ c ∈ l, Wr c) : ∀ t, t ≤ l.length → (TT l t).length ≤ t * 4000
  | 0, _ => by rw [TT_zero]; simp
  | t + 1, ht => by
    have ih := TT_len hl hw t (by omega)
    have hi : l.length - 1 - t < l.length := by omega
    rw [TT_succ (by omega) (List.getElem?_eq_getElem hi)]
    have hwc := hw _ (List.getElem_mem hi)
    generalize l[l.length - 1 - t] = c at hwc
    split
    · omega
    · rw [stepT_eq, List.length_append, List.length_append]
      have h1 := sgS_len (decide (c.num < 0)) (decide (TT l t = []))
      have h2 := termT_len (c := absR c) (k := l.length - 1 - t) (absR_wr hwc) (by rw [(absR_num c).1]; omega) (by omega)
      omega
section
variable {P : Program} {w : World} {K : PySem.W.Frag} {mg : Str → Option Value} {base : Heap}
def spPolyT (K : PySem.W.Frag) : Sp := fun vs H Q _ => ∃ (a : Addr) (l : List Rat), vs = [.ref a] ∧ PolV K H a l ∧ Ma.Tr l ∧ l.length ≤ 100 ∧ (∀ c ∈ l, Wr c) ∧ ∀ H' z, Same H H' → tl z = AlOne.text l → Q (.str z) H'
/-- an answer's numbers -/
def told (f : Int) (zs : List Str) : List Int := f :: zs.flatMap fun z => (z.length : Int) :: (tl z).map fun (x : Nat) => (x : Int)
theorem told_snoc (f : Int) (zs : List Str) (z : Str) : told f (zs ++ [z]) = told f zs ++ ((z.length : Int) :: (tl z).map fun (x : Nat) => (x : Int)) := by
  unfold told
  rw [List.flatMap_append]
  simp
def spAnswer (K : PySem.W.Frag) : Sp := fun vs H Q _ => ∃ (a : Addr) (f : Int) (zs : List Str), vs = [.int f, .ref a] ∧ H a = some (.lst (zs.map V.str)) ∧ zs.length ≤ 300 ∧ (∀ z ∈ zs, z.length ≤ 20000) ∧
  ∀ H' r, Same H H' → H r = none → H' r = some (.lst ((told f zs).map V.int)) → Q (.ref r) H'
theorem told_len {f : Int} {zs : List Str} (h : ∀ z ∈ zs, z.length ≤ 20000) : (told f zs).length ≤ 1 + zs.length * 20001 := by
  unfold told
  rw [List.length_cons]
  have : ∀ l : List Str, (∀ z ∈ l, z.length ≤ 20000) → (l.flatMap fun z => (z.length : Int) :: (tl z).map fun (x : Nat) => (x : Int)).length ≤ l.length * 20001 := by
    intro l
    induction l with
    | nil => intro _; simp
    | cons z l ih =>
      intro hl
      have h1 := ih fun y hy => hl y (by simp [hy])
      have h2 := hl z (by simp)
      rw [len_tl] at h2
      rw [List.flatMap_cons, List.length_append, List.length_cons, List.length_cons, List.length_map]
      omega
  have := this zs h
  omega
theorem ok_answer (T : Txt K mg) : FnOk P w K mg base CX0 1 T.f_answer T.e_answer ["first", "texts"] (spAnswer K) := by
  refine T.d_answer.F.ok sc_answer (fun vs H Q E h => ?_) (fun cdv A outer s H vs Q E hr h => ?_)
  · obtain ⟨a, f, zs, rfl, _⟩ := h
    rfl
  · obtain ⟨a, f, zs, rfl, ha, hzl, hzs, q⟩ := h
    refine ⟨_, pss_cons (ps_set (i := 2) sc_answer.nd rfl (.inl rfl) (pe_lst (pa_cons (pv 0) pa_nil)))
      (pss_cons (ps_for PassesOwn.never rfl (pi_list (pv 1)) (pg_name (i := 3) sc_answer.nd rfl (.inl rfl))
        (pss_cons (ps_expr (pe_bm PySem.F.plainAttrs_list PySem.F.slot_list_append PySem.F.type_list_append mt_append (pv 2) (pa_cons (pe_callB call_len (by rfl) T.z_len PySem.boot_len (pa_cons (pv 3) pa_nil)) pa_nil)))
        (pss_one (ps_expr (pe_bm PySem.F.plainAttrs_list PySem.F.slot_list_extend PySem.F.type_list_extend mt_extend (pv 2) (pa_cons
          (pe_lc (own := [("sign", 4)]) (g := gName 4) (tt := tYes) rfl sc_answer.nd (pi_str (pv 3)) (blkOk_by (N := n_answer) (sc := defScope s_answer) (by decide +kernel)) (fun _ _ _ _ _ => pg_name (i := 4) sc_answer.nd rfl (Or.inl rfl)) (fun _ _ _ _ _ => pts_nil)
            (fun _ _ _ _ _ => pe_callB call_ord (by rfl) T.z_ord (by decide +kernel) (pa_cons (pv 4) pa_nil))) pa_nil))))))
      (pss_one (ps_ret (pv 2)))), ?_⟩
    refine ⟨_, rfl, (by show 1 ≤ sizeLine; decide), fun R nR => ?_⟩
    have s1 := same_upd (o := .lst [.int f]) nR
    have hR1 : (upd H R (.lst [.int f])) R = some (.lst [.int f]) := upd_same
    generalize upd H R (.lst [.int f]) = H1 at s1 hR1
    refine ⟨_, rfl, a, rfl, ⟨_, SqL.of (s1 _ _ ha)⟩, ?_⟩
    have hb := big_line
    refine for_list (K := K) (a := a) (xs := zs.map V.str) (fun i σ H' => ∃ (y3 y4 : Option V), σ = [some (.int f), some (.ref a), some (.ref R), y3, y4] ∧ Same H H' ∧ H' R = some (.lst ((told f (zs.take i)).map V.int)))
      ⟨none, none, rfl, s1, hR1⟩ (fun i σ H' _ h => by obtain ⟨_, _, _, sm, _⟩ := h; exact SqL.of (sm _ _ ha)) ?_ ?_
    · rintro i x σ H' hx ⟨y3, y4, rfl, sm, hR⟩
      rw [List.getElem?_map] at hx
      obtain ⟨z, hz, rfl⟩ := Option.map_eq_some_iff.mp hx
      have hzm := hzs z (List.mem_of_getElem? hz)
      have htl := told_len (f := f) (zs := zs.take i) (fun y hy => hzs y (List.mem_of_mem_take hy))
      rw [List.length_take] at htl
      have htl2 : (told f (zs.take i)).length ≤ 6100000 := by
        have : min i zs.length * 20001 ≤ 300 * 20001 := Nat.mul_le_mul_right _ (by omega)
        omega
      refine ⟨_, rfl, .inl ⟨rfl, _, SqL.of hR⟩, _, rfl, _, z.length, rfl, ⟨by omega, rfl⟩, R, _, _, rfl, rfl, hR, ?_, ?_⟩
      · rw [List.length_map]; omega
      have sR : Same H (upd H' R (.lst ((told f (zs.take i)).map V.int ++ [.int (z.length : Int)]))) := fun b' o e => by
        rw [upd_ne (ne_of_none e nR)]; exact sm _ _ e
      have hR2 : (upd H' R (.lst ((told f (zs.take i)).map V.int ++ [.int (z.length : Int)]))) R = some (.lst ((told f (zs.take i)).map V.int ++ [.int (z.length : Int)])) := upd_same
      generalize upd H' R (.lst ((told f (zs.take i)).map V.int ++ [.int (z.length : Int)])) = H2 at sR hR2
      refine ⟨_, rfl, .inl ⟨rfl, _, SqL.of hR2⟩, _, rfl, z, rfl, fun D nD => ?_⟩
      refine lc_it (walk_str (z := z)) (fun j H3 => Same H2 H3 ∧ H3 D = some (.lst (((tl z).take j).map fun (x : Nat) => V.int (x : Int)))) ⟨same_upd nD, upd_same⟩ (fun _ _ _ _ => trivial) ?_ ?_
      · rintro j x H3 H4 hj ⟨s3, hD⟩ ⟨rfl, c, hc, rfl⟩
        have hc' : (tl z)[j]? = some c := by rw [Array.getElem?_toList]; exact hc
        refine ⟨rfl, _, rfl, _, rfl, rfl, _, hD, ?_, fun b' o e => ?_, ?_⟩
        · rw [List.length_map, List.length_take]
          have := len_tl z
          omega
        · rw [upd_ne (ne_of_none e nD)]; exact s3 _ _ e
        · rw [upd_same, List.take_add_one, hc', List.map_append]; rfl
      · rintro H3 ⟨s3, hD⟩
        rw [List.take_of_length_le (by simp)] at hD
        have := len_tl z
        refine ⟨R, D, _, _, rfl, rfl, s3 _ _ hR2, hD, ?_, ?_⟩
        · have hcs : z.cps.size ≤ 20000 := hzm
          rw [List.length_append, List.length_map, List.length_map]; simp; omega
        · refine ⟨_, _, rfl, fun b' o e => ?_, ?_⟩
          · rw [upd_ne (ne_of_none e nR)]; exact s3 _ _ (sR _ _ e)
          · rw [upd_same, List.take_add_one, hz]
            show _ = some (HO.lst ((told f (zs.take i ++ [z])).map V.int))
            rw [told_snoc, List.map_append, List.map_cons, List.map_map, List.append_assoc]; rfl
    · rintro σ H' ⟨y3, y4, rfl, sm, hR⟩
      rw [List.length_map, List.take_length] at hR
      exact ⟨_, rfl, q H' R sm nR hR⟩
end
end W
set_option maxRecDepth 100000
namespace W
open PySem PySem.Spec PyProof.Rows L2
/-! a written dict of whole numbers -/
theorem dictRow_key {e : DictEntry} {i j : Int} (h : dictRow e = some (i, j)) : ∃ t u, e.key = .int i t ∧ e.val = .int j u ∧ e.hash = hashInt i := by
  unfold dictRow at h
  split at h
  · rename_i a t b u ek ev
    split at h
    · rename_i hh
      have e1 := Option.some.inj h
      have e2 : a = i := congrArg Prod.fst e1
      have e3 : b = j := congrArg Prod.snd e1
      subst e2 e3
      exact ⟨t, u, ek, ev, hh⟩
    · cases h
  · cases h
theorem rows_find : ∀ (l : List DictEntry) (m : List (Int × Int)), l.mapM dictRow = some m → (∀ e ∈ l, ∃ i t, e.key = .int i t ∧ e.hash = hashInt i) ∧
    ∀ k : Int, (m.lookup k = none → (l.find? fun e => Value.isInt k e.key) = none) ∧ ∀ v, m.lookup k = some v → ∃ e u, (l.find? fun e => Value.isInt k e.key) = some e ∧ e.val = .int v u
  | [], m, h => by
    simp at h
    subst h
    exact ⟨by simp, fun k => ⟨fun _ => rfl, fun v hv => by simp at hv⟩⟩
  | e :: l, m, h => by
    rw [List.mapM_cons] at h
    simp only [Option.bind_eq_bind, Option.pure_def, Option.bind_eq_some_iff] at h
    obtain ⟨⟨i, j⟩, he, m', hm, e2⟩ := h
    simp at e2
    subst e2
    obtain ⟨t, u, hk, hv, hh⟩ := dictRow_key he
    obtain ⟨ih1, ih2⟩ := rows_find l m' hm
    refine ⟨fun x hx => ?_, fun k => ?_⟩
    · rcases List.mem_cons.mp hx with e3 | e3
      · subst e3; exact ⟨i, t, hk, hh⟩
      · exact ih1 x e3
    · have hi : Value.isInt k e.key = decide (k = i) := by
        rw [hk]
        show (i == k) = _
        rw [Bool.eq_iff_iff]; simp; exact eq_comm
      rw [List.find?_cons, hi, List.lookup_cons]
      by_cases hki : k = i
      · have e4 : (k == i) = true := by simp [hki]
        rw [e4, decide_eq_true hki]
        refine ⟨fun h => by simp at h, fun v hv2 => ?_⟩
        have := Option.some.inj hv2
        subst this
        exact ⟨e, u, rfl, hv⟩
      · have e4 : (k == i) = false := by simp [hki]
        rw [e4, decide_eq_false hki]
        exact ih2 k
section
variable {X : Cx} {d : Addr} {es : Array DictEntry} {n : Nat} {m : List (Int × Int)}
theorem mapOf_KI {K : PySem.W.Frag} {h : Heap} {prog : Program} {w : World} (Y : K.In h) (hl : K.lookup d = some ⟨.type "dict", none, .dict es n, #[]⟩) (hm : dictRows es = some m) : h.MapOf (intKind prog w) d (fun k => findBy Value.isInt es k) :=
  ⟨_, es, n, Y _ _ hl, ⟨rfl, rfl, rfl⟩, rfl, fun e he => by
    obtain ⟨i, t, e1, e2⟩ := (rows_find es.toList m hm).1 e (Array.mem_toList_iff.mpr he)
    exact ⟨i, by rw [e1]; exact intKind_is prog w i t, e2⟩, fun _ => rfl⟩
theorem findBy_none (hm : dictRows es = some m) {k : Int} (h : m.lookup k = none) : findBy Value.isInt es k = none := by
  have := ((rows_find es.toList m hm).2 k).1 h
  unfold findBy
  rw [← Array.find?_toList, this]; rfl
theorem findBy_some (hm : dictRows es = some m) {k v : Int} (h : m.lookup k = some v) : ∃ u, findBy Value.isInt es k = some (.int v u) := by
  obtain ⟨e, u, h1, h2⟩ := ((rows_find es.toList m hm).2 k).2 v h
  refine ⟨u, ?_⟩
  unfold findBy
  rw [← Array.find?_toList, h1]
  show some e.val = _
  rw [h2]
theorem op_notIn_ki (hl : X.K.lookup d = some ⟨.type "dict", none, .dict es n, #[]⟩) (low : (d == sysModules) = false) (hm : dictRows es = some m) :
    OpR X (compareOp .NotIn) (fun x y H Q => ∃ i : Int, x = .int i ∧ y = .ref d ∧ Q (.bl (!(m.lookup i).isSome)) H) := by
  intro pins s σ H x y v u Q I rx ry h
  obtain ⟨i, rfl, rfl, q⟩ := h
  obtain ⟨t, rfl⟩ := rx
  cases ry
  refine wpAny_notIn_of (intKind_is X.prog X.w i t) low (mapOf_KI (prog := X.prog) I.kIn hl hm) ?_
  cases hk : m.lookup i with
  | none =>
    rw [findBy_none hm hk]
    rw [hk] at q
    exact ⟨.bl true, H, I.tok _, rfl, q⟩
  | some w' =>
    obtain ⟨u', e⟩ := findBy_some hm hk
    rw [e]
    rw [hk] at q
    exact ⟨.bl false, H, I.tok _, rfl, q⟩
theorem ix_ki (hl : X.K.lookup d = some ⟨.type "dict", none, .dict es n, #[]⟩) (hm : dictRows es = some m) : IxR X (fun x y H Q => ∃ i v : Int, x = .ref d ∧ y = .int i ∧ m.lookup i = some v ∧ Q (.int v) H) := by
  intro value slice pins s σ H x y v u Q I rx ry h hs
  obtain ⟨i, v', rfl, rfl, e, q⟩ := h
  cases rx
  obtain ⟨t, rfl⟩ := ry
  obtain ⟨u', e'⟩ := findBy_some hm e
  have hmm := mapOf_KI (prog := X.prog) (w := X.w) I.kIn hl hm
  exact tail_any hmm.typeIs slot_dict_getitem.lookup (wpAny_getItem_of (intKind_is X.prog X.w i t) hmm e' ⟨.int v', H, I.tok _, ⟨_, rfl⟩, q⟩) hs
end
section
variable {P : Program} {w : World} {K : PySem.W.Frag} {mg : Str → Option Value} {base : Heap}
def optI : Option Nat → V
  | none => .non
  | some n => .int (n : Int)
def spWhole (K : PySem.W.Frag) : Sp := fun vs H Q _ => ∃ (a : Addr) (u : List Nat), vs = [.ref a] ∧ SqL K H a (nis u) ∧ u.length ≤ 1000 ∧ Q (optI (Ma.wholeM u)) H
theorem dval_take {u : List Nat} {i : Nat} {x : Nat} (h : u[i]? = some x) : Ma.dval 0 (u.take (i + 1)) = 10 * Ma.dval 0 (u.take i) + (x - 48) := by
  rw [List.take_add_one, h]
  exact Ma.dval_append _ _ _
theorem ok_whole_of (T : Txt K mg) : FnOk P w K mg base CX0 1 T.f_whole_of T.e_whole_of ["digits"] (spWhole K) := by
  obtain ⟨t0, g0⟩ := T.g_DIGIT_0
  obtain ⟨t9, g9⟩ := T.g_DIGIT_9
  refine T.d_whole_of.F.ok sc_whole_of (fun vs H Q E h => ?_) (fun cdv A outer s H vs Q E hr h => ?_)
  · obtain ⟨a, u, rfl, _⟩ := h
    rfl
  · obtain ⟨a, u, rfl, ha, hu, q⟩ := h
    refine ⟨_, pss_cons (ps_if (pt_cmpR op_eq (pe_callB call_len_seq (by rfl) T.z_len PySem.boot_len (pa_cons (pv 0) pa_nil)) pe_int (nomark _)) (pss_one (ps_ret pe_non)) pss_nil)
      (pss_cons (ps_if ((pw_and (pt_cmpR op_eq (pe_ix ix_list (pv 0) pe_int (fun _ _ => rfl)) (pe_glob (v := .int 48) (by rfl) g0 ⟨_, rfl⟩) (nomark _)) (pw_and1 (pt_cmpR op_gt (pe_callB call_len_seq (by rfl) T.z_len PySem.boot_len (pa_cons (pv 0) pa_nil)) pe_int (nomark _)))).pt) (pss_one (ps_ret pe_non)) pss_nil)
      (pss_cons (ps_set (i := 1) sc_whole_of.nd rfl (.inl rfl) pe_int)
      (pss_cons (ps_for PassesOwn.never rfl (pi_list (pv 0)) (pg_name (i := 2) sc_whole_of.nd rfl (.inl rfl))
        (pss_cons (ps_if ((pw_or (pt_cmpR op_lt (pv 2) (pe_glob (v := .int 48) (by rfl) g0 ⟨_, rfl⟩) (nomark _)) (pw_or1 (pt_cmpR op_gt (pv 2) (pe_glob (v := .int 57) (by rfl) g9 ⟨_, rfl⟩) (nomark _)))).pt) (pss_one (ps_ret pe_non)) pss_nil)
        (pss_one (ps_set (i := 1) sc_whole_of.nd rfl (.inl rfl) (pe_op op_sub (pe_op op_add (pe_op op_mul (pv 1) pe_int) (pv 2)) (pe_glob (v := .int 48) (by rfl) g0 ⟨_, rfl⟩))))))
      (pss_one (ps_ret (pv 1)))))), ?_⟩
    refine ⟨_, rfl, a, _, rfl, .inl ha, rfl, _, rfl, ite2 (fun e => ?_) (fun e => ?_)⟩
    · have e1 : ((nis u).length : Int) = 0 := V.int.inj (of_decide_eq_true e)
      have u0 : u = [] := List.eq_nil_of_length_eq_zero (by rw [List.length_map] at e1; omega)
      have : Ma.wholeM u = none := by unfold Ma.wholeM; rw [if_pos u0]
      rw [this] at q
      exact q
    · have e1 : ¬ u.length = 0 := fun h => e (decide_eq_true (by rw [List.length_map, h]; rfl))
      have hne : u ≠ [] := by intro e; rw [e] at e1; exact e1 rfl
      obtain ⟨x0, u', hu'⟩ : ∃ x0 u', u = x0 :: u' := by
        cases u with
        | nil => exact absurd rfl hne
        | cons x0 u' => exact ⟨x0, u', rfl⟩
      refine ⟨_, rfl, a, _, 0, .int (x0 : Int), rfl, rfl, ha, atI_nat (j := 0) (by rw [hu']; rfl), rfl, _, rfl, ?_⟩
      have rest : ¬ (x0 = 48 ∧ 1 < u.length) → tSeq (tAsg (tC (.int 0)) (gName 1)) (tSeq (tFor (iList K (tVar 0)) (gName 2) (tSeq (tIfS (tOr (tTest (tOp (rI0 fun i j => .bl (decide (i < j))) (tVar 2) (tC (.int 48)))) (tTest (tOp (rI0 fun i j => .bl (decide (j < i))) (tVar 2) (tC (.int 57))))) (tRet (tC .non)) tNext) (tAsg (tOp (rI0 fun i j => .int (i - j)) (tOp (rI0 fun i j => .int (i + j)) (tOp (rI CMul fun i j => .int (i * j)) (tVar 1) (tC (.int 10))) (tVar 2)) (tC (.int 48))) (gName 1)))) (tRet (tVar 1))) { nx := fun _ H' => Q .non H', rt := Q } [some (.ref a), none, none] H := by
        intro hz
        refine ⟨_, rfl, a, rfl, ⟨_, ha⟩, ?_⟩
        refine for_list (K := K) (a := a) (xs := nis u) (fun i σ H' => ∃ y2, σ = [some (.ref a), some (.int ((Ma.dval 0 (u.take i) : Nat) : Int)), y2] ∧ H' = H ∧ ∀ x ∈ u.take i, Ma.isDig x = true)
          ⟨none, rfl, rfl, by simp⟩ (fun i σ H' _ h => by obtain ⟨_, _, rfl, _⟩ := h; exact ha) ?_ ?_
        · rintro i v σ H' hv ⟨y2, rfl, rfl, hd⟩
          rw [List.getElem?_map] at hv
          obtain ⟨x, hx, rfl⟩ := Option.map_eq_some_iff.mp hv
          have bad : Ma.isDig x = false → Q .non H' := by
            intro hb
            have : Ma.wholeM u = none := by
              unfold Ma.wholeM
              rw [if_neg hne]
              split
              · rfl
              · rw [if_neg]
                intro h
                have := List.all_eq_true.mp h x (List.mem_of_getElem? hx)
                rw [hb] at this; cases this
            rw [this] at q
            exact q
          refine ⟨_, rfl, _, _, rfl, rfl, _, rfl, ite2 (fun c => ?_) (fun c => ?_)⟩
          · have c1 : (x : Int) < 48 := of_decide_eq_true c
            refine iteT ?_
            exact bad (by unfold Ma.isDig; simp; omega)
          · have c1 : ¬ (x : Int) < 48 := fun h => c (decide_eq_true h)
            refine ⟨_, rfl, _, _, rfl, rfl, _, rfl, ite2 (fun c2 => ?_) (fun c2 => ?_)⟩
            · have c3 : (57 : Int) < (x : Int) := of_decide_eq_true c2
              exact bad (by unfold Ma.isDig; simp; omega)
            · have c3 : ¬ (57 : Int) < (x : Int) := fun h => c2 (decide_eq_true h)
              refine ⟨_, rfl, _, _, rfl, rfl, .inr (by show -(2 ^ 64) < (10 : Int) ∧ (10 : Int) < 2 ^ 64; decide), _, rfl, _, _, rfl, rfl, _, _, rfl, rfl, some (.int (x : Int)), ?_, rfl, ?_⟩
              · rw [dval_take hx]
                have : ((Ma.dval 0 (u.take i) : Nat) : Int) * 10 + (x : Int) - 48 = ((10 * Ma.dval 0 (u.take i) + (x - 48) : Nat) : Int) := by omega
                show [some (V.ref a), some (V.int (((Ma.dval 0 (u.take i) : Nat) : Int) * 10 + (x : Int) - 48)), some (.int (x : Int))] = _
                rw [this]
              · intro y hy
                rw [List.take_add_one, hx, List.mem_append] at hy
                rcases hy with hy | hy
                · exact hd y hy
                · simp at hy
                  subst hy
                  unfold Ma.isDig; simp; omega
        · rintro σ H' ⟨y2, rfl, rfl, hd⟩
          rw [List.length_map, List.take_length] at hd ⊢
          have : Ma.wholeM u = some (Ma.dval 0 u) := by
            unfold Ma.wholeM
            rw [if_neg hne, if_neg (by rw [hu'] at hz ⊢; exact hz), if_pos (List.all_eq_true.mpr hd)]
          rw [this] at q
          exact ⟨_, rfl, q⟩
      refine ite2 (fun c => ?_) (fun c => ?_)
      · have c1 : (x0 : Int) = 48 := V.int.inj (of_decide_eq_true c)
        refine ⟨_, rfl, a, _, rfl, .inl ha, _, _, rfl, rfl, _, rfl, ite2 (fun c2 => ?_) (fun c2 => ?_)⟩
        · have c3 : (1 : Int) < ((nis u).length : Int) := of_decide_eq_true c2
          rw [List.length_map] at c3
          have : Ma.wholeM u = none := by
            unfold Ma.wholeM
            rw [if_neg hne, if_pos ⟨by rw [hu']; show x0 = 48; omega, by omega⟩]
          rw [this] at q
          exact q
        · have c3 : ¬ (1 : Int) < ((nis u).length : Int) := fun h => c2 (decide_eq_true h)
          rw [List.length_map] at c3
          exact rest (by omega)
      · have c1 : ¬ x0 = 48 := fun h => c (decide_eq_true (by rw [h]; rfl))
        refine iteF ?_
        exact rest (fun h => c1 h.1)
end
end W
set_option maxRecDepth 100000
namespace W
open PySem PySem.Spec PyProof.Rows L2
theorem nis_flat (u : List Nat) : (nis u).all flatV = true := by
  rw [List.all_eq_true]
  intro v hv
  rw [List.mem_map] at hv
  obtain ⟨x, _, rfl⟩ := hv
  rfl
theorem inV_nis (k : Nat) (u : List Nat) : inV (.int (k : Int)) (nis u) = decide (k ∈ u) := by
  unfold inV
  induction u with
  | nil => simp
  | cons x u ih =>
    show (eqV (.int (x : Int)) (.int (k : Int)) || (nis u).any _) = _
    rw [ih]
    show (((x : Int) == (k : Int)) || decide (k ∈ u)) = _
    rw [Bool.eq_iff_iff]
    simp only [Bool.or_eq_true, beq_iff_eq, decide_eq_true_eq, List.mem_cons]
    constructor
    · rintro (h | h)
      · exact .inl (by omega)
      · exact .inr h
    · rintro (h | h)
      · exact .inl (by omega)
      · exact .inr h
def OptR (K : PySem.W.Frag) (H : Hp) (v : V) : Option Rat → Prop
  | none => v = .non
  | some c => RatV K H v c
theorem OptR.same {K : PySem.W.Frag} {H H' : Hp} {v : V} {o : Option Rat} (e : Same H H') (h : OptR K H v o) : OptR K H' v o := by
  cases o with
  | none => exact h
  | some c => exact RatV.same h e
theorem idx_first {u : List Nat} {k m : Nat} (h : m < u.idxOf k) : ∀ x, u[m]? = some x → x ≠ k := by
  intro x hx e
  subst e
  have hm : m < u.length := (List.getElem?_eq_some_iff.mp hx).1
  have := List.not_of_lt_findIdx (p := (· == x)) (xs := u) (i := m) h
  obtain ⟨_, h2⟩ := List.getElem?_eq_some_iff.mp hx
  rw [h2] at this
  simp at this
section
variable {P : Program} {w : World} {K : PySem.W.Frag} {mg : Str → Option Value} {base : Heap}
def spUns (K : PySem.W.Frag) (f : List Nat → Option Rat) : Sp := fun vs H Q _ => ∃ (a : Addr) (u : List Nat), vs = [.ref a] ∧ SqL K H a (nis u) ∧ u.length ≤ 1000 ∧ ∀ H' v, Same H H' → OptR K H' v (f u) → Q v H'
theorem ok_unsigned_of (T : Txt K mg) : FnOk P w K mg base CX0 2 T.f_unsigned_of T.e_unsigned_of ["text"] (spUns K Ma.unsignedM) := by
  obtain ⟨ts, gs⟩ := T.g_SLASH
  refine T.d_unsigned_of.F.ok sc_unsigned_of (fun vs H Q E h => ?_) (fun cdv A outer s H vs Q E hr h => ?_)
  · obtain ⟨a, u, rfl, _⟩ := h
    rfl
  · obtain ⟨a, u, rfl, ha, hu, q⟩ := h
    refine ⟨_, pss_cons (ps_if (pt_cmpR op_notIn_seq (pe_glob (v := .int 47) (by rfl) gs ⟨_, rfl⟩) (pv 0) rfl)
        (pss_cons (ps_set (i := 1) sc_unsigned_of.nd rfl (.inl rfl) (pe_D T.d_whole_of (ok_whole_of T) hr (pa_cons (pv 0) pa_nil)))
        (pss_one (ps_ret (pe_ifExp (pt_cmp (pc_isN (pv 1))) pe_non (pe_tup (pa_cons (pv 1) (pa_cons pe_int pa_nil))))))) pss_nil)
      (pss_cons (ps_set (i := 2) sc_unsigned_of.nd rfl (.inl rfl) (pe_bm PySem.F.plainAttrs_list PySem.F.slot_list_index PySem.F.type_list_index mt_index (pv 0) (pa_cons (pe_glob (v := .int 47) (by rfl) gs ⟨_, rfl⟩) pa_nil)))
      (pss_cons (ps_set (i := 3) sc_unsigned_of.nd rfl (.inl rfl) (pe_D T.d_whole_of (ok_whole_of T) hr (pa_cons (pe_slice sl_list (pv 0) po_none (po_some (pv 2))) pa_nil)))
      (pss_cons (ps_set (i := 4) sc_unsigned_of.nd rfl (.inl rfl) (pe_D T.d_whole_of (ok_whole_of T) hr (pa_cons (pe_slice sl_list (pv 0) (po_some (pe_op op_add (pv 2) pe_int)) po_none) pa_nil)))
      (pss_cons (ps_if ((pw_or (pt_cmp (pc_isN (pv 3))) (pw_or (pt_cmp (pc_isN (pv 4))) (pw_or1 (pt_cmpR op_lt (pv 4) pe_int (nomark _))))).pt) (pss_one (ps_ret pe_non)) pss_nil)
      (pss_one (ps_ret (pe_ifExp (pt_cmpR op_eq (pe_D T.d_whole_common (ok_whole_common T) hr (pa_cons (pv 3) (pa_cons (pv 4) pa_nil))) pe_int (nomark _)) (pe_tup (pa_cons (pv 3) (pa_cons (pv 4) pa_nil))) pe_non))))))), ?_⟩
    refine ⟨_, rfl, a, _, rfl, .inl ha, rfl, nis_flat u, _, rfl, ?_⟩
    rw [show inV (V.int 47) (nis u) = decide (47 ∈ u) from inV_nis 47 u]
    by_cases h47 : 47 ∈ u
    · rw [decide_eq_true h47]
      refine iteF ?_
      have hlt := List.idxOf_lt_length_of_mem h47
      refine ⟨_, rfl, .inl ⟨rfl, _, ha⟩, a, nis u, .int 47, u.idxOf 47, .int 47, rfl, rfl, ha, rfl, nis_flat u, ?_, rfl, ?_, ?_⟩
      · rw [List.getElem?_map, List.getElem?_eq_getElem hlt]
        have : u[u.idxOf 47] = 47 := List.getElem_idxOf hlt
        rw [this]; rfl
      · intro m z hm hz
        rw [List.getElem?_map] at hz
        obtain ⟨x, hx, rfl⟩ := Option.map_eq_some_iff.mp hz
        have := idx_first hm x hx
        show ((x : Int) == (47 : Int)) = false
        rw [beq_eq_false_iff_ne]
        omega
      · have hcu : Ma.unsignedM u = (Ma.wholeM (u.take (u.idxOf 47))).bind fun t => (Ma.wholeM (u.drop (u.idxOf 47 + 1))).bind fun b => Ma.fracM t b := by
          unfold Ma.unsignedM; rw [if_pos h47]
        refine ⟨_, rfl, _, rfl, _, rfl, a, _, rfl, ha, fun p1 n1 => ?_⟩
        rw [cut_to]
        have s1 := same_upd (o := .lst ((nis u).take (u.idxOf 47))) n1
        have h1 : SqL K (upd H p1 (.lst ((nis u).take (u.idxOf 47)))) p1 (nis (u.take (u.idxOf 47))) := SqL.of (by rw [upd_same]; unfold nis; rw [List.map_take])
        generalize upd H p1 (.lst ((nis u).take (u.idxOf 47))) = H1 at s1 h1
        refine ⟨p1, _, rfl, h1, by rw [List.length_take]; omega, ?_⟩
        refine ⟨_, rfl, _, rfl, _, _, rfl, rfl, _, rfl, a, _, rfl, s1.seq ha, fun p2 n2 => ?_⟩
        have ei : ((u.idxOf 47 : Nat) : Int) + 1 = ((u.idxOf 47 + 1 : Nat) : Int) := by omega
        rw [ei, cut_from]
        have s2 := same_upd (o := .lst ((nis u).drop (u.idxOf 47 + 1))) n2
        have h2 : SqL K (upd H1 p2 (.lst ((nis u).drop (u.idxOf 47 + 1)))) p2 (nis (u.drop (u.idxOf 47 + 1))) := SqL.of (by rw [upd_same]; unfold nis; rw [List.map_drop])
        generalize upd H1 p2 (.lst ((nis u).drop (u.idxOf 47 + 1))) = H2 at s2 h2
        refine ⟨p2, _, rfl, h2, by rw [List.length_drop]; omega, ?_⟩
        have s12 := s1.trans s2
        cases ht : Ma.wholeM (u.take (u.idxOf 47)) with
        | none =>
          rw [ht] at hcu
          refine ⟨_, rfl, true, rfl, iteT (iteT ?_)⟩
          exact q H2 .non s12 (by rw [hcu]; rfl)
        | some t =>
          refine ⟨_, rfl, false, rfl, iteF ?_⟩
          cases hb : Ma.wholeM (u.drop (u.idxOf 47 + 1)) with
          | none =>
            rw [ht, hb] at hcu
            refine ⟨_, rfl, true, rfl, iteT (iteT ?_)⟩
            exact q H2 .non s12 (by rw [hcu]; rfl)
          | some b =>
            rw [ht, hb] at hcu
            have hcu' : Ma.unsignedM u = Ma.fracM t b := hcu
            refine ⟨_, rfl, false, rfl, iteF ?_⟩
            refine ⟨_, rfl, _, _, rfl, rfl, _, rfl, ite2 (fun c => ?_) (fun c => ?_)⟩
            · have c1 : (b : Int) < 2 := of_decide_eq_true c
              refine q H2 .non s12 ?_
              rw [hcu']
              unfold Ma.fracM
              rw [dif_neg (by omega)]; rfl
            · have c1 : ¬ (b : Int) < 2 := fun h => c (decide_eq_true h)
              refine ⟨_, rfl, _, rfl, t, b, rfl, rfl, _, rfl, ite2 (fun c2 => ?_) (fun c2 => ?_)⟩
              · have c3 : ((Nat.gcd t b : Nat) : Int) = 1 := V.int.inj (of_decide_eq_true c2)
                refine ⟨_, rfl, _, rfl, (by show 2 ≤ sizeLine; decide), fun p3 n3 => ?_⟩
                refine q _ _ (s12.trans (same_upd n3)) ?_
                rw [hcu']
                unfold Ma.fracM
                rw [dif_pos ⟨by omega, by omega⟩]
                exact ⟨p3, rfl, SqT.of upd_same⟩
              · have c3 : ¬ Nat.gcd t b = 1 := fun h => c2 (decide_eq_true (by rw [h]; rfl))
                refine q H2 .non s12 ?_
                rw [hcu']
                unfold Ma.fracM
                rw [dif_neg (fun h => c3 h.2)]; rfl
    · rw [decide_eq_false h47]
      refine iteT ?_
      have hcu : Ma.unsignedM u = (Ma.wholeM u).map fun (n : Nat) => ((n : Nat) : Rat) := by
        unfold Ma.unsignedM; rw [if_neg h47]
      refine ⟨_, rfl, a, u, rfl, ha, hu, ?_⟩
      cases hw : Ma.wholeM u with
      | none =>
        rw [hw] at hcu
        refine ⟨_, rfl, true, rfl, iteT ?_⟩
        exact q H .non (Same.refl H) (by rw [hcu]; rfl)
      | some n =>
        rw [hw] at hcu
        refine ⟨_, rfl, false, rfl, iteF ?_⟩
        refine ⟨_, rfl, (by show 2 ≤ sizeLine; decide), fun p3 n3 => ?_⟩
        refine q _ _ (same_upd n3) ?_
        rw [hcu]
        exact ⟨p3, rfl, SqT.of upd_same⟩
theorem ok_number_of (T : Txt K mg) : FnOk P w K mg base CX0 3 T.f_number_of T.e_number_of ["text"] (spUns K Ma.numberM) := by
  obtain ⟨tm, gm⟩ := T.g_MINUS
  refine T.d_number_of.F.ok sc_number_of (fun vs H Q E h => ?_) (fun cdv A outer s H vs Q E hr h => ?_)
  · obtain ⟨a, u, rfl, _⟩ := h
    rfl
  · obtain ⟨a, u, rfl, ha, hu, q⟩ := h
    refine ⟨_, pss_cons (ps_if (pt_cmpR (op_neD (hu64 hr)) (pe_slice sl_list (pv 0) po_none (po_some pe_int)) (pe_lst (pa_cons (pe_glob (v := .int 45) (by rfl) gm ⟨_, rfl⟩) pa_nil)) (nomark _))
        (pss_one (ps_ret (pe_D T.d_unsigned_of (ok_unsigned_of T) hr (pa_cons (pv 0) pa_nil)))) pss_nil)
      (pss_cons (ps_set (i := 1) sc_number_of.nd rfl (.inl rfl) (pe_D T.d_unsigned_of (ok_unsigned_of T) hr (pa_cons (pe_slice sl_list (pv 0) (po_some pe_int) po_none) pa_nil)))
      (pss_cons (ps_if ((pw_or (pt_cmp (pc_isN (pv 1))) (pw_or1 (pt_cmpR op_eq (pe_ix ix_tup (pv 1) pe_int (fun _ _ => rfl)) pe_int (nomark _)))).pt) (pss_one (ps_ret pe_non)) pss_nil)
      (pss_one (ps_ret (pe_tup (pa_cons (pe_un un_neg (pe_ix ix_tup (pv 1) pe_int (fun _ _ => rfl))) (pa_cons (pe_ix ix_tup (pv 1) pe_int (fun _ _ => rfl)) pa_nil))))))), ?_⟩
    refine ⟨_, rfl, 1, rfl, a, _, rfl, ha, fun p1 n1 => ?_⟩
    rw [show cutV (nis u) none (some 1) = (nis u).take 1 from cut_to (c := 1)]
    have s1 := same_upd (o := .lst ((nis u).take 1)) n1
    have h1 : SqL K (upd H p1 (.lst ((nis u).take 1))) p1 (nis (u.take 1)) := SqL.of (by rw [upd_same]; unfold nis; rw [List.map_take])
    generalize upd H p1 (.lst ((nis u).take 1)) = H1 at s1 h1
    refine ⟨(by show 1 ≤ sizeLine; decide), fun p2 n2 => ?_⟩
    have s2 := same_upd (o := .lst [.int 45]) n2
    have h2 : SqL K (upd H1 p2 (.lst [.int 45])) p2 (nis [45]) := SqL.of upd_same
    have h12 := s2.seq h1
    generalize upd H1 p2 (.lst [.int 45]) = H2 at s2 h2 h12
    have s12 := s1.trans s2
    have dpi : ∀ (l : List Nat) (b : Addr), SqL K H2 b (nis l) → Dp K H2 (.ref b) (.list (l.map fun (x : Nat) => PyData.int (x : Int))) := by
      intro l b hb
      refine .lst hb ?_
      clear hb
      induction l with
      | nil => exact .nil
      | cons x l ih => exact .cons (.int _) ih
    have sh : ∀ l : List Nat, SeqAt.shaped (.list (l.map fun (x : Nat) => PyData.int (x : Int))) = true := by
      intro l
      have : PyData.canLayAll0 (l.map fun (x : Nat) => PyData.int (x : Int)) = true ∧ PyData.depthAll (l.map fun (x : Nat) => PyData.int (x : Int)) = 0 := by
        induction l with
        | nil => exact ⟨rfl, rfl⟩
        | cons x l ih =>
          refine ⟨?_, ?_⟩
          · show (true && PyData.canLayAll0 (l.map fun (x : Nat) => PyData.int (x : Int))) = true
            rw [ih.1]; rfl
          · show max 0 (PyData.depthAll (l.map fun (x : Nat) => PyData.int (x : Int))) = 0
            rw [ih.2]; rfl
      show (PyData.canLayAll0 (l.map fun (x : Nat) => PyData.int (x : Int)) && decide (PyData.depthAll (l.map fun (x : Nat) => PyData.int (x : Int)) + 1 ≤ 64)) = true
      rw [this.1, this.2]; rfl
    have eqi : ∀ l m : List Nat, PyData.eqv (.list (l.map fun (x : Nat) => PyData.int (x : Int))) (.list (m.map fun (x : Nat) => PyData.int (x : Int))) = decide (l = m) := by
      intro l
      show ∀ m, PyData.eqvAll _ _ = _
      induction l with
      | nil => intro m; cases m <;> rfl
      | cons x l ih =>
        intro m
        cases m with
        | nil => rfl
        | cons y m =>
          show (((x : Int) == (y : Int)) && PyData.eqvAll (l.map fun (x : Nat) => PyData.int (x : Int)) (m.map fun (x : Nat) => PyData.int (x : Int))) = _
          rw [ih m, Bool.eq_iff_iff]
          simp only [Bool.and_eq_true, beq_iff_eq, decide_eq_true_eq, List.cons.injEq]
          constructor
          · rintro ⟨h, h'⟩; exact ⟨by omega, h'⟩
          · rintro ⟨h, h'⟩; exact ⟨by omega, h'⟩
    refine ⟨_, _, dpi _ _ h12, dpi _ _ h2, sh _, sh _, _, rfl, ?_⟩
    rw [eqi]
    by_cases h45 : u.take 1 = [45]
    · rw [decide_eq_true h45]
      refine iteF ?_
      have hcu : Ma.numberM u = (Ma.unsignedM (u.drop 1)).bind fun c => if c.num = 0 then none else some (-c) := by
        unfold Ma.numberM; rw [if_pos h45]
      refine ⟨_, rfl, 1, rfl, a, _, rfl, s12.seq ha, fun p3 n3 => ?_⟩
      rw [show cutV (nis u) (some 1) none = (nis u).drop 1 from cut_from (c := 1)]
      have s3 := same_upd (o := .lst ((nis u).drop 1)) n3
      have h3 : SqL K (upd H2 p3 (.lst ((nis u).drop 1))) p3 (nis (u.drop 1)) := SqL.of (by rw [upd_same]; unfold nis; rw [List.map_drop])
      generalize upd H2 p3 (.lst ((nis u).drop 1)) = H3 at s3 h3
      refine ⟨p3, _, rfl, h3, by rw [List.length_drop]; omega, fun H4 v4 s4 h4 => ?_⟩
      have s14 := s12.trans (s3.trans s4)
      cases hs : Ma.unsignedM (u.drop 1) with
      | none =>
        rw [hs] at h4 hcu
        have e4 : v4 = .non := h4
        subst e4
        refine ⟨_, rfl, true, rfl, iteT (iteT ?_)⟩
        exact q H4 .non s14 (by rw [hcu]; rfl)
      | some c =>
        rw [hs] at h4 hcu
        have hcu' : Ma.numberM u = if c.num = 0 then none else some (-c) := hcu
        obtain ⟨p4, rfl, hp4⟩ : RatV K H4 v4 c := h4
        refine ⟨_, rfl, false, rfl, iteF ?_⟩
        refine ⟨_, rfl, p4, _, 0, _, rfl, rfl, hp4, atI_nat (j := 0) rfl, rfl, _, rfl, ite2 (fun c2 => ?_) (fun c2 => ?_)⟩
        · have c3 : c.num = 0 := V.int.inj (of_decide_eq_true c2)
          refine q H4 .non s14 ?_
          rw [hcu', if_pos c3]; rfl
        · have c3 : ¬ c.num = 0 := fun h => c2 (decide_eq_true (by rw [h]))
          refine ⟨_, rfl, p4, _, 0, _, rfl, rfl, hp4, atI_nat (j := 0) rfl, _, rfl, _, rfl, p4, _, 1, _, rfl, rfl, hp4, atI_nat (j := 1) rfl, (by show 2 ≤ sizeLine; decide), fun p5 n5 => ?_⟩
          refine q _ _ (s14.trans (same_upd n5)) ?_
          rw [hcu', if_neg c3]
          exact ⟨p5, rfl, SqT.of upd_same⟩
    · rw [decide_eq_false h45]
      refine iteT ?_
      have hcu : Ma.numberM u = Ma.unsignedM u := by unfold Ma.numberM; rw [if_neg h45]
      refine ⟨_, rfl, a, u, rfl, s12.seq ha, hu, fun H3 v3 s3 h3 => q H3 v3 (s12.trans s3) (by rw [hcu]; exact h3)⟩
end
end W
set_option maxRecDepth 100000
namespace W
open PySem PySem.Spec PyProof.Rows L2
/-! the mathematics -/
def notOk (c : Rat) : Bool := !Al09.numberOk c
def refM (ws : List (List Nat)) : Int := if (ws.map Ma.numberM).any Option.isNone then -1 else if (ws.map Ma.numberM).any (fun o => match o with | none => false | some c => notOk c) then -2 else 0
theorem mapM_none {ws : List (List Nat)} : (ws.map Ma.numberM).any Option.isNone = true ↔ ws.mapM AlOne.readNum = none := by
  induction ws with
  | nil => simp
  | cons x ws ih =>
    rw [List.map_cons, List.any_cons, List.mapM_cons, ← Ma.numberM_read]
    cases h : Ma.numberM x with
    | none => simp
    | some c =>
      simp only [Option.isNone_some, Bool.false_or]
      rw [ih]
      cases h2 : ws.mapM AlOne.readNum with
      | none => simp
      | some cs => simp
theorem mapM_some {ws : List (List Nat)} {cs : List Rat} (h : ws.mapM AlOne.readNum = some cs) : ws.map Ma.numberM = cs.map some := by
  induction ws generalizing cs with
  | nil => simp at h; subst h; rfl
  | cons x ws ih =>
    rw [List.mapM_cons, ← Ma.numberM_read] at h
    cases hx : Ma.numberM x with
    | none => rw [hx] at h; simp at h
    | some c =>
      rw [hx] at h
      cases h2 : ws.mapM AlOne.readNum with
      | none => rw [h2] at h; simp at h
      | some ds =>
        rw [h2] at h
        simp at h
        subst h
        rw [List.map_cons, hx, ih h2]; rfl
theorem any_notOk (cs : List Rat) : ((cs.map some).any fun o => match o with | none => false | some c => notOk c) = !cs.all Al09.numberOk := by
  induction cs with
  | nil => rfl
  | cons c cs ih =>
    rw [List.map_cons, List.any_cons, List.all_cons, ih]
    show (notOk c || _) = _
    unfold notOk
    cases Al09.numberOk c <;> simp
/-- what the texts of numbers are refused by, as the specification says -/
theorem nums_ref (ws : List (List Nat)) (go : List Rat → Al09.Ans) : Al09.nums ws go = if refM ws = 0 then go ((ws.mapM AlOne.readNum).getD []) else Al09.no (refM ws) := by
  unfold Al09.nums refM
  cases h : ws.mapM AlOne.readNum with
  | none =>
    rw [if_pos (mapM_none.mpr h), if_neg (by decide)]
  | some cs =>
    have hn : ¬ (ws.map Ma.numberM).any Option.isNone = true := fun h2 => by rw [mapM_none.mp h2] at h; cases h
    rw [if_neg hn, mapM_some h, any_notOk]
    show (if cs.all Al09.numberOk = false then Al09.no (-2) else go cs) = _
    cases hall : cs.all Al09.numberOk with
    | false => simp
    | true => simp
theorem ref_zero {ws : List (List Nat)} (h : refM ws = 0) : ∃ cs, ws.mapM AlOne.readNum = some cs ∧ ws.map Ma.numberM = cs.map some ∧ cs.all Al09.numberOk = true := by
  unfold refM at h
  split at h
  · cases h
  · rename_i hn
    cases h2 : ws.mapM AlOne.readNum with
    | none => exact absurd (mapM_none.mpr h2) hn
    | some cs =>
      have e := mapM_some h2
      rw [e, any_notOk] at h
      refine ⟨cs, rfl, e, ?_⟩
      cases hall : cs.all Al09.numberOk with
      | true => rfl
      | false => rw [hall] at h; simp at h
theorem ok_small {c : Rat} (h : Al09.numberOk c = true) : Ma.Small c := by
  unfold Al09.numberOk at h
  rw [Bool.and_eq_true, decide_eq_true_eq, decide_eq_true_eq] at h
  have : (10 : Nat) ^ 6 ≤ 2 ^ 20 := by decide
  exact ⟨by omega, by omega⟩
theorem rowsOf_map (n : Nat) : ∀ (k : Nat) (l : List Rat), Al09.rowsOf n k l = (List.range k).map fun i => (l.drop (i * n)).take n
  | 0, _ => rfl
  | k + 1, l => by
    show l.take n :: Al09.rowsOf n k (l.drop n) = _
    rw [rowsOf_map n k (l.drop n), List.range_succ_eq_map, List.map_cons, List.map_map]
    congr 1
    · simp
    · refine List.map_congr_left fun i _ => ?_
      show ((l.drop n).drop (i * n)).take n = (l.drop ((i + 1) * n)).take n
      rw [List.drop_drop, Nat.succ_mul, Nat.add_comm]
theorem sq_rowsOf {n : Nat} {l : List Rat} (h : l.length = n * n) : Ma.Sq n (Al09.rowsOf n n l) := by
  rw [rowsOf_map]
  refine ⟨by simp, ?_⟩
  intro r hr
  rw [List.mem_map] at hr
  obtain ⟨i, hi, e⟩ := hr
  rw [List.mem_range] at hi
  rw [← e, List.length_take, List.length_drop, h]
  have : (i + 1) * n ≤ n * n := Nat.mul_le_mul_right _ hi
  rw [Nat.succ_mul] at this
  omega
theorem small_rowsOf {n k : Nat} {l : List Rat} (h : l.all Al09.numberOk = true) : Ma.SmallT (Al09.rowsOf n k l) := by
  rw [rowsOf_map]
  intro r hr c hc
  rw [List.mem_map] at hr
  obtain ⟨i, _, e⟩ := hr
  rw [← e] at hc
  exact ok_small (List.all_eq_true.mp h c (List.mem_of_mem_drop (List.mem_of_mem_take hc)))
/-! texts in the heap -/
def Texts (K : PySem.W.Frag) (H : Hp) : List V → List (List Nat) → Prop
  | [], [] => True
  | v :: vs, u :: us => (∃ b, v = .ref b ∧ SqL K H b (nis u)) ∧ Texts K H vs us
  | _, _ => False
theorem Texts.same {K : PySem.W.Frag} {H H' : Hp} (e : Same H H') : ∀ {vs : List V} {us : List (List Nat)}, Texts K H vs us → Texts K H' vs us
  | [], [], _ => trivial
  | _ :: _, _ :: _, h => by
    obtain ⟨⟨b, h1, h2⟩, h3⟩ := h
    exact ⟨⟨b, h1, e.seq h2⟩, Texts.same e h3⟩
  | [], _ :: _, h => h.elim
  | _ :: _, [], h => h.elim
theorem Texts.len {K : PySem.W.Frag} {H : Hp} : ∀ {vs : List V} {us : List (List Nat)}, Texts K H vs us → vs.length = us.length
  | [], [], _ => rfl
  | _ :: _, _ :: _, h => by rw [List.length_cons, List.length_cons, Texts.len h.2]
  | [], _ :: _, h => h.elim
  | _ :: _, [], h => h.elim
theorem Texts.get {K : PySem.W.Frag} {H : Hp} : ∀ {vs : List V} {us : List (List Nat)} {i : Nat} {v : V}, Texts K H vs us → vs[i]? = some v → ∃ b u, v = .ref b ∧ us[i]? = some u ∧ SqL K H b (nis u)
  | _ :: _, c :: _, 0, v, h, e => by
    have e' := Option.some.inj e
    subst e'
    obtain ⟨⟨b, h1, h2⟩, _⟩ := h
    exact ⟨b, c, h1, rfl, h2⟩
  | _ :: vs, _ :: l, i + 1, v, h, e => Texts.get (vs := vs) (us := l) (i := i) h.2 e
  | [], [], _, _, _, e => by simp at e
  | [], _ :: _, _, _, h, _ => h.elim
  | _ :: _, [], _, _, h, _ => h.elim
def Opts (K : PySem.W.Frag) (H : Hp) : List V → List (Option Rat) → Prop
  | [], [] => True
  | v :: vs, o :: os => OptR K H v o ∧ Opts K H vs os
  | _, _ => False
section
variable {K : PySem.W.Frag} {H H' : Hp}
theorem Opts.same (e : Same H H') : ∀ {vs : List V} {os : List (Option Rat)}, Opts K H vs os → Opts K H' vs os
  | [], [], _ => trivial
  | _ :: _, _ :: _, h => ⟨h.1.same e, Opts.same e h.2⟩
  | [], _ :: _, h => h.elim
  | _ :: _, [], h => h.elim
theorem Opts.len : ∀ {vs : List V} {os : List (Option Rat)}, Opts K H vs os → vs.length = os.length
  | [], [], _ => rfl
  | _ :: _, _ :: _, h => by rw [List.length_cons, List.length_cons, Opts.len h.2]
  | [], _ :: _, h => h.elim
  | _ :: _, [], h => h.elim
theorem Opts.snoc : ∀ {vs : List V} {os : List (Option Rat)} {v : V} {o : Option Rat}, Opts K H vs os → OptR K H v o → Opts K H (vs ++ [v]) (os ++ [o])
  | [], [], _, _, _, h2 => ⟨h2, trivial⟩
  | _ :: _, _ :: _, _, _, h, h2 => ⟨h.1, Opts.snoc h.2 h2⟩
  | [], _ :: _, _, _, h, _ => h.elim
  | _ :: _, [], _, _, h, _ => h.elim
theorem OptR.updL {k : Addr} {us ws : List V} {v : V} {o : Option Rat} (hk : H k = some (.lst us)) (h : OptR K H v o) : OptR K (upd H k (.lst ws)) v o := by
  cases o with
  | none => exact h
  | some c => exact RatV.updL hk h
theorem Opts.updL {k : Addr} {us ws : List V} (hk : H k = some (.lst us)) : ∀ {vs : List V} {os : List (Option Rat)}, Opts K H vs os → Opts K (upd H k (.lst ws)) vs os
  | [], [], _ => trivial
  | _ :: _, _ :: _, h => ⟨h.1.updL hk, Opts.updL hk h.2⟩
  | [], _ :: _, h => h.elim
  | _ :: _, [], h => h.elim
theorem Opts.get : ∀ {vs : List V} {os : List (Option Rat)} {i : Nat} {v : V}, Opts K H vs os → vs[i]? = some v → ∃ o, os[i]? = some o ∧ OptR K H v o
  | _ :: _, c :: _, 0, v, h, e => by
    have e' := Option.some.inj e
    subst e'
    exact ⟨c, rfl, h.1⟩
  | _ :: vs, _ :: l, i + 1, v, h, e => Opts.get (vs := vs) (os := l) (i := i) h.2 e
  | [], [], _, _, _, e => by simp at e
  | [], _ :: _, _, _, h, _ => h.elim
  | _ :: _, [], _, _, h, _ => h.elim
theorem Opts.rats : ∀ {vs : List V} {cs : List Rat}, Opts K H vs (cs.map some) → Rats K H vs cs
  | [], [], _ => trivial
  | _ :: _, _ :: _, h => ⟨h.1, Opts.rats h.2⟩
  | [], _ :: _, h => h.elim
  | _ :: _, [], h => h.elim
def datO : Option Rat → PyData
  | none => .none
  | some c => datR c
theorem OptR.dp {v : V} {o : Option Rat} (h : OptR K H v o) : Dp K H v (datO o) := by
  cases o with
  | none =>
    have e : v = .non := h
    subst e; exact .non
  | some c => exact RatV.dp h
theorem Opts.dp : ∀ {vs : List V} {os : List (Option Rat)}, Opts K H vs os → DpAll K H vs (os.map datO)
  | [], [], _ => .nil
  | _ :: _, _ :: _, h => .cons h.1.dp (Opts.dp h.2)
  | [], _ :: _, h => h.elim
  | _ :: _, [], h => h.elim
end
theorem lay_datO (l : List (Option Rat)) : PyData.canLayAll0 (l.map datO) = true ∧ PyData.depthAll (l.map datO) ≤ 1 := by
  induction l with
  | nil => exact ⟨rfl, by decide⟩
  | cons c l ih =>
    refine ⟨?_, ?_⟩
    · show (PyData.canLay0 (datO c) && PyData.canLayAll0 (l.map datO)) = true
      rw [ih.1]; cases c <;> rfl
    · show max (PyData.depth (datO c)) (PyData.depthAll (l.map datO)) ≤ 1
      have : PyData.depth (datO c) ≤ 1 := by cases c with
        | none => show 0 ≤ 1; omega
        | some c => show 1 ≤ 1; omega
      omega
theorem shaped_datO (l : List (Option Rat)) : SeqAt.shaped (.list (l.map datO)) = true := by
  have h := lay_datO l
  show (PyData.canLayAll0 (l.map datO) && decide (PyData.depthAll (l.map datO) + 1 ≤ 64)) = true
  rw [h.1, decide_eq_true (by omega)]; rfl
theorem any_none (l : List (Option Rat)) : ((l.map datO).any fun z => PyData.eqv z .none) = l.any Option.isNone := by
  rw [List.any_map]
  congr 1
  funext o
  cases o <;> rfl
section
variable {P : Program} {w : World} {K : PySem.W.Frag} {mg : Str → Option Value} {base : Heap}
def spLong (K : PySem.W.Frag) : Sp := fun vs H Q _ => ∃ (x : V) (c : Rat), vs = [x] ∧ RatV K H x c ∧ Q (.bl (notOk c)) H
theorem ok_is_long (T : Txt K mg) : FnOk P w K mg base CX0 1 T.f_is_long T.e_is_long ["number"] (spLong K) := by
  obtain ⟨tm, gm⟩ := T.g_MOST
  refine T.d_is_long.F.ok sc_is_long (fun vs H Q E h => ?_) (fun cdv A outer s H vs Q E hr h => ?_)
  · obtain ⟨x, c, rfl, _⟩ := h
    rfl
  · obtain ⟨x, c, rfl, ⟨p, rfl, hp⟩, q⟩ := h
    refine ⟨_, pss_one (ps_ret (pe_or (pe_cmpR op_gt (pe_callB call_abs (by rfl) T.z_abs (by decide +kernel) (pa_cons (pe_ix ix_tup (pv 0) pe_int (fun _ _ => rfl)) pa_nil)) (pe_glob (v := .int 999999) (by rfl) gm ⟨_, rfl⟩) (nomark _))
      (pe_one (pe_cmpR op_gt (pe_ix ix_tup (pv 0) pe_int (fun _ _ => rfl)) (pe_glob (v := .int 999999) (by rfl) gm ⟨_, rfl⟩) (nomark _))))), ?_⟩
    refine ⟨_, rfl, p, _, 0, _, rfl, rfl, hp, atI_nat (j := 0) rfl, _, rfl, _, _, rfl, rfl, _, rfl, ?_⟩
    rw [abs_nat]
    refine ite2 (fun e => ?_) (fun e => ?_)
    · have e1 : (999999 : Int) < (c.num.natAbs : Int) := of_decide_eq_true e
      have : notOk c = true := by
        unfold notOk Al09.numberOk
        rw [decide_eq_false (by omega)]; rfl
      rw [this] at q; exact q
    · have e1 : ¬ (999999 : Int) < (c.num.natAbs : Int) := fun h => e (decide_eq_true h)
      refine ⟨_, rfl, p, _, 1, _, rfl, rfl, hp, atI_nat (j := 1) rfl, _, _, rfl, rfl, ?_⟩
      have : notOk c = decide ((999999 : Int) < (c.den : Int)) := by
        unfold notOk Al09.numberOk
        rw [decide_eq_true (show c.num.natAbs < 10 ^ 6 by omega), Bool.true_and]
        by_cases h : (c.den : Int) ≤ 999999
        · rw [decide_eq_true (show c.den < 10 ^ 6 by omega), decide_eq_false (by omega)]; rfl
        · rw [decide_eq_false (show ¬ c.den < 10 ^ 6 by omega), decide_eq_true (by omega)]; rfl
      rw [this] at q; exact q
/-- the number of each text, None where it isn't a number's -/
def spNumsOf (K : PySem.W.Frag) : Sp := fun vs H Q _ => ∃ (a : Addr) (ts : List V) (us : List (List Nat)), vs = [.ref a] ∧ SqL K H a ts ∧ Texts K H ts us ∧ (∀ u ∈ us, u.length ≤ 1000) ∧ us.length ≤ 100 ∧
  ∀ H' D acc, Same H H' → H D = none → H' D = some (.lst acc) → Opts K H' acc (us.map Ma.numberM) → Q (.ref D) H'
theorem ok_numbers_of (T : Txt K mg) : FnOk P w K mg base CX0 4 T.f_numbers_of T.e_numbers_of ["texts"] (spNumsOf K) := by
  refine T.d_numbers_of.F.ok sc_numbers_of (fun vs H Q E h => ?_) (fun cdv A outer s H vs Q E hr h => ?_)
  · obtain ⟨a, ts, us, rfl, _⟩ := h
    rfl
  · obtain ⟨a, ts, us, rfl, ha, hT, hl, hn, q⟩ := h
    refine ⟨_, pss_one (ps_ret (pe_lc (own := [("text", 1)]) (g := gName 1) (tt := tYes) rfl sc_numbers_of.nd (pi_list (pv 0)) (blkOk_by (N := n_numbers_of) (sc := defScope s_numbers_of) (by decide +kernel)) (fun _ _ _ _ _ => pg_name (i := 1) sc_numbers_of.nd rfl (Or.inl rfl)) (fun _ _ _ _ _ => pts_nil)
          (fun _ _ _ _ _ => pe_D T.d_number_of (ok_number_of T) hr (pa_cons (pv 1) pa_nil)))), ?_⟩
    have hTl := hT.len
    refine ⟨_, rfl, a, rfl, ⟨ts, ha⟩, fun D nD => ?_⟩
    refine lc_list (K := K) (a := a) (xs := ts) (fun i H' => Same H H' ∧ ∃ acc, H' D = some (.lst acc) ∧ Opts K H' acc ((us.take i).map Ma.numberM)) ⟨same_upd nD, [], upd_same, trivial⟩ (fun i H' _ h => h.1.seq ha) ?_ ?_
    · rintro i x H' hx ⟨sm, acc, hD, hacc⟩
      obtain ⟨b, u, rfl, hu, hb⟩ := hT.get hx
      refine ⟨rfl, _, rfl, b, u, rfl, sm.seq hb, hl u (List.mem_of_getElem? hu), fun H2 v2 s2 h2 => ⟨acc, s2 _ _ hD, ?_, ?_, _, upd_same, ?_⟩⟩
      · rw [hacc.len, List.length_map, List.length_take]
        exact small1000 (by omega)
      · intro b' o e
        rw [upd_ne (ne_of_none e nD)]
        exact s2 _ _ (sm _ _ e)
      · rw [List.take_add_one, hu, List.map_append]
        exact ((hacc.same s2).snoc h2).updL (s2 _ _ hD)
    · rintro H1 ⟨s1, acc, hD, hacc⟩
      rw [hTl, List.take_length] at hacc
      exact q H1 D acc s1 nD hD hacc
def spRefusal (K : PySem.W.Frag) (f : List (List Nat) → Int) : Sp := fun vs H Q _ => ∃ (a : Addr) (ts : List V) (us : List (List Nat)), vs = [.ref a] ∧ SqL K H a ts ∧ Texts K H ts us ∧ (∀ u ∈ us, u.length ≤ 1000) ∧ us.length ≤ 100 ∧
  ∀ H', Same H H' → Q (.int (f us)) H'
theorem ok_numbers_refusal (T : Txt K mg) : FnOk P w K mg base CX0 5 T.f_numbers_refusal T.e_numbers_refusal ["texts"] (spRefusal K refM) := by
  obtain ⟨t1, g1⟩ := T.g_WRONG_TEXT
  obtain ⟨t2, g2⟩ := T.g_TOO_LARGE
  refine T.d_numbers_refusal.F.ok sc_numbers_refusal (fun vs H Q E h => ?_) (fun cdv A outer s H vs Q E hr h => ?_)
  · obtain ⟨a, ts, us, rfl, _⟩ := h
    rfl
  · obtain ⟨a, ts, us, rfl, ha, hT, hl, hn, q⟩ := h
    have hu65 : A.units + 3 + 65 < cLine := by have := hr.un; exact Nat.lt_of_le_of_lt (by show A.units + 3 + 65 ≤ A.units + 3 + 16 * 4 + 200; omega) this
    refine ⟨_, pss_cons (ps_set (i := 1) sc_numbers_refusal.nd rfl (.inl rfl) (pe_D T.d_numbers_of (ok_numbers_of T) hr (pa_cons (pv 0) pa_nil)))
      (pss_cons (ps_if (pt_cmpR (op_inD hu65) pe_non (pv 1) rfl) (pss_one (ps_ret (pe_glob (v := .int (-1)) (by rfl) g1 ⟨_, rfl⟩))) pss_nil)
      (pss_cons (ps_if (pt_val (pe_callB (cr_any rfl) (by rfl) T.z_any (by decide +kernel) (pa_cons (pe_lc (own := [("number", 2)]) (g := gName 2) (tt := tYes) rfl sc_numbers_refusal.nd (pi_list (pv 1)) (blkOk_by (N := n_numbers_refusal) (sc := defScope s_numbers_refusal) (by decide +kernel)) (fun _ _ _ _ _ => pg_name (i := 2) sc_numbers_refusal.nd rfl (Or.inl rfl)) (fun _ _ _ _ _ => pts_nil)
          (fun _ _ _ _ _ => pe_D T.d_is_long (ok_is_long T) hr (pa_cons (pv 2) pa_nil))) pa_nil))) (pss_one (ps_ret (pe_glob (v := .int (-2)) (by rfl) g2 ⟨_, rfl⟩))) pss_nil)
      (pss_one (ps_ret pe_int)))), ?_⟩
    have hTl := hT.len
    refine ⟨_, rfl, a, ts, us, rfl, ha, hT, hl, hn, fun H1 D acc s1 nD hD hacc => ?_⟩
    · skip
      refine ⟨_, rfl, .none, _, .non, .lst (SqL.of hD) hacc.dp, rfl, shaped_datO _, _, rfl, ?_⟩
      rw [any_none]
      refine ite2 (fun c => ?_) (fun c => ?_)
      · have : refM us = -1 := by unfold refM; rw [if_pos c]
        have := q H1 s1
        rw [‹refM us = -1›] at this; exact this
      · refine ⟨_, rfl, D, rfl, ⟨acc, SqL.of hD⟩, fun B nB => ?_⟩
        refine lc_list (K := K) (a := D) (xs := acc) (fun i H' => Same H1 H' ∧ H' B = some (.lst ((((us.map Ma.numberM).take i).map fun o => match o with | none => false | some c => notOk c).map V.bl))) ⟨same_upd nB, upd_same⟩ (fun i H' _ h => SqL.of (h.1 _ _ hD)) ?_ ?_
        · rintro i x H' hx ⟨sm, hB⟩
          obtain ⟨o, ho, hv⟩ := hacc.get hx
          cases o with
          | none =>
            exfalso
            apply c
            rw [List.any_eq_true]
            exact ⟨none, List.mem_of_getElem? ho, rfl⟩
          | some c0 =>
            refine ⟨rfl, _, rfl, x, c0, rfl, RatV.same hv sm, _, hB, ?_, fun b' o' e => ?_, ?_⟩
            · rw [List.length_map, List.length_map, List.length_take, List.length_map]
              exact small1000 (by omega)
            · rw [upd_ne (ne_of_none e nB)]
              exact sm _ _ e
            · rw [upd_same, List.take_add_one, ho, List.map_append, List.map_append]; rfl
        · rintro H2 ⟨s2, hB⟩
          rw [List.take_of_length_le (by rw [hacc.len]; exact Nat.le_refl _)] at hB
          refine ⟨B, _, rfl, SqL.of hB, _, rfl, ?_⟩
          rw [List.any_map]
          have e3 : (us.map Ma.numberM).any (id ∘ fun o => match o with | none => false | some c => notOk c) = (us.map Ma.numberM).any (fun o => match o with | none => false | some c => notOk c) := rfl
          rw [e3]
          refine ite2 (fun c2 => ?_) (fun c2 => ?_)
          · have e4 : refM us = -2 := by unfold refM; rw [if_neg c, if_pos c2]
            have := q H2 (s1.trans s2)
            rw [e4] at this; exact this
          · have e4 : refM us = 0 := by unfold refM; rw [if_neg c, if_neg c2]
            have := q H2 (s1.trans s2)
            rw [e4] at this; exact this
end
end W
set_option maxRecDepth 100000
namespace W
open PySem PySem.Spec PyProof.Rows L2
open TL (tl numL numL_lt numL_step tl_num tl_append len_tl ext_tl)
/-! the mathematics -/
def sideRows : List (Int × Int) := [(1, 1), (4, 2), (9, 3), (16, 4)]
theorem side_all : ∀ k : Nat, k ≤ 100 → (sideRows.lookup (k : Int)) = (Al09.sideOf k).map fun (n : Nat) => (n : Int) := by decide +kernel
theorem side_sq : ∀ k : Nat, k ≤ 100 → ∀ n, Al09.sideOf k = some n → n * n = k ∧ 1 ≤ n ∧ n ≤ 4 := by
  intro k _ n h
  unfold Al09.sideOf at h
  have h1 := List.find?_some h
  have h2 := List.mem_of_find?_eq_some h
  simp at h1 h2
  refine ⟨h1, ?_⟩
  rcases h2 with e | e | e | e <;> omega
def tabRef (us : List (List Nat)) : Int := match Al09.sideOf us.length with
  | none => -6
  | some _ => refM us
theorem cut_mid {xs : List V} {a b : Nat} (h : a ≤ b) : cutV xs (some (a : Int)) (some (b : Int)) = (xs.drop a).take (b - a) := by
  unfold cutV
  rw [HT.sIx_nat, HT.sIx_nat]
  by_cases ha : a ≤ xs.length
  · rw [Nat.min_eq_left ha]
    by_cases hb : b ≤ xs.length
    · rw [Nat.min_eq_left hb]
    · rw [Nat.min_eq_right (by omega), List.take_of_length_le (by rw [List.length_drop]; omega), List.take_of_length_le (by rw [List.length_drop]; omega)]
  · rw [Nat.min_eq_right (by omega), Nat.min_eq_right (by omega), List.drop_of_length_le (Nat.le_refl _), List.drop_of_length_le (by omega)]; simp
theorem Rats.drop {K : PySem.W.Frag} {H : Hp} : ∀ {vs : List V} {l : List Rat} (n : Nat), Rats K H vs l → Rats K H (vs.drop n) (l.drop n)
  | vs, l, 0, h => h
  | [], [], _ + 1, _ => trivial
  | _ :: _, _ :: _, n + 1, h => Rats.drop n h.2
  | [], _ :: _, _ + 1, h => h.elim
  | _ :: _, [], _ + 1, h => h.elim
theorem Rats.take {K : PySem.W.Frag} {H : Hp} : ∀ {vs : List V} {l : List Rat} (n : Nat), Rats K H vs l → Rats K H (vs.take n) (l.take n)
  | vs, l, 0, h => by simp only [List.take_zero]; exact trivial
  | [], [], _ + 1, _ => trivial
  | _ :: _, _ :: _, n + 1, h => ⟨h.1, Rats.take n h.2⟩
  | [], _ :: _, _ + 1, h => h.elim
  | _ :: _, [], _ + 1, h => h.elim
section
variable {P : Program} {w : World} {K : PySem.W.Frag} {mg : Str → Option Value} {base : Heap}
def spTableOfN (K : PySem.W.Frag) : Sp := fun vs H Q _ => ∃ (a : Addr) (ts : List V) (us : List (List Nat)) (n : Nat) (cs : List Rat), vs = [.ref a] ∧ SqL K H a ts ∧ Texts K H ts us ∧ (∀ u ∈ us, u.length ≤ 1000) ∧ us.length ≤ 100 ∧ Al09.sideOf us.length = some n ∧ us.map Ma.numberM = cs.map some ∧
  ∀ H' r, Same H H' → TabN K H' (fun b => H b = none) r (Al09.rowsOf n n cs) → Q (.ref r) H'
theorem ok_table_ofN (T : Txt K mg) : FnOk P w K mg base CX0 5 T.f_table_of T.e_table_of ["texts"] (spTableOfN K) := by
  refine T.d_table_of.F.ok sc_table_of (fun vs H Q E h => ?_) (fun cdv A outer s H vs Q E hr h => ?_)
  · obtain ⟨a, ts, us, n, cs, rfl, _⟩ := h
    rfl
  · obtain ⟨a, ts, us, n, cs, rfl, ha, hT, hl, hn, hsd, hcs, q⟩ := h
    refine ⟨_, pss_cons (ps_set (i := 1) sc_table_of.nd rfl (.inr rfl) (pe_ix (ix_ki T.l_ROWS T.v_ROWS) (pe_glob (v := .ref T.a_ROWS) (by rfl) T.g_ROWS rfl) (pe_callB call_len_seq (by rfl) T.z_len PySem.boot_len (pa_cons (pv 0) pa_nil)) (fun _ _ => rfl)))
      (pss_cons (ps_set (i := 2) sc_table_of.nd rfl (.inr rfl) (pe_D T.d_numbers_of (ok_numbers_of T) hr (pa_cons (pv 0) pa_nil)))
      (pss_one (ps_ret (pe_lc (own := [("at", 3)]) (g := gName 3) (tt := tYes) rfl sc_table_of.nd (pi_range1 (by rfl) T.z_range (pa_cons (pv 1) pa_nil)) (blkOk_by (N := n_table_of) (sc := defScope s_table_of) (by decide +kernel)) (fun _ _ _ _ _ => pg_name (i := 3) sc_table_of.nd rfl (Or.inl rfl)) (fun _ _ _ _ _ => pts_nil)
          (fun _ _ _ _ _ => pe_slice (show SlR _ (rSlL K) from sl_list) (pv 2) (po_some (pe_op op_mul (pv 3) (pv 1))) (po_some (pe_op op_mul (pe_op op_add (pv 3) pe_int) (pv 1)))))))), ?_⟩
    have hTl := hT.len
    obtain ⟨hsq, hn1, hn4⟩ := side_sq us.length hn n hsd
    have e1 : ([(1, 1), (4, 2), (9, 3), (16, 4)] : List (Int × Int)).lookup (ts.length : Int) = some (n : Int) := by
      have := side_all us.length (by omega)
      rw [hsd] at this
      rw [hTl]; exact this
    refine ⟨_, rfl, a, ts, rfl, .inl ha, _, _, rfl, rfl, e1, ?_⟩
    refine ⟨_, rfl, a, ts, us, rfl, ha, hT, hl, hn, fun H1 D acc s1 nDH hD hacc => ?_⟩
    · rw [hcs] at hacc
      have hR := hacc.rats
      refine ⟨_, rfl, _, rfl, (by omega), (by omega), fun B nB => ?_⟩
      have hBD : B ≠ D := by intro e; rw [e, hD] at nB; cases nB
      refine lc_range (lo := 0) (n := ((n : Nat) : Int).toNat) (fun i H' => Same H1 H' ∧ ∃ bs, H' B = some (.lst bs) ∧ PolsN K H' (fun b => b ≠ B ∧ H b = none) bs ((List.range i).map fun i => (cs.drop (i * n)).take n)) ⟨same_upd nB, [], upd_same, trivial⟩ ?_ ?_
      · rintro i H' hi ⟨sm, bs, hB, hbs⟩
        have hin : i < n := by omega
        have ei : (0 : Int) + ((i : Nat) : Int) = ((i : Nat) : Int) := by omega
        rw [ei]
        have hm1 : ((i : Nat) : Int) * ((n : Nat) : Int) = ((i * n : Nat) : Int) := by rw [Int.natCast_mul]
        have hm2 : (((i : Nat) : Int) + 1) * ((n : Nat) : Int) = (((i + 1) * n : Nat) : Int) := by rw [Int.natCast_mul]; rfl
        refine ⟨rfl, _, rfl, _, rfl, _, rfl, _, _, rfl, rfl, .inl (by constructor <;> omega), _, rfl, _, rfl, _, _, rfl, rfl, _, rfl, _, _, rfl, rfl, .inl (by constructor <;> omega), _, rfl, D, acc, rfl, SqL.of (sm _ _ hD), fun p np => ?_⟩
        rw [hm1, hm2, cut_mid (Nat.mul_le_mul_right _ (by omega)), show (i + 1) * n - i * n = n by rw [Nat.succ_mul]; omega]
        have sp := same_upd (o := .lst ((acc.drop (i * n)).take n)) np
        have hp : PolV K (upd H' p (.lst ((acc.drop (i * n)).take n))) p ((cs.drop (i * n)).take n) := ⟨_, upd_same, (((hR.drop (i * n)).take n).same sm).same sp⟩
        generalize upd H' p (.lst ((acc.drop (i * n)).take n)) = H2 at sp hp
        have hpB : p ≠ B := by intro e; rw [e, hB] at np; cases np
        refine ⟨bs, sp _ _ hB, ?_, fun b' o e => ?_, _, upd_same, ?_⟩
        · rw [hbs.len, List.length_map, List.length_range]
          exact small1000 (by omega)
        · rw [upd_ne (ne_of_none e nB)]
          exact sp _ _ (sm _ _ e)
        · rw [List.range_succ, List.map_append]
          exact ((hbs.same sp).snoc (b := p) ⟨hpB, s1.free (sm.free np)⟩ hp).updN (sp _ _ hB) (fun _ h => h.1)
      · rintro H' ⟨sm, bs, hB, hbs⟩
        refine q H' B (s1.trans sm) ⟨s1.free nB, bs, hB, ?_⟩
        rw [rowsOf_map]
        rw [Int.toNat_natCast] at hbs
        exact hbs.mono fun _ h => h.2
def spTableOf (K : PySem.W.Frag) : Sp := fun vs H Q _ => ∃ (a : Addr) (ts : List V) (us : List (List Nat)) (n : Nat) (cs : List Rat), vs = [.ref a] ∧ SqL K H a ts ∧ Texts K H ts us ∧ (∀ u ∈ us, u.length ≤ 1000) ∧ us.length ≤ 100 ∧ Al09.sideOf us.length = some n ∧ us.map Ma.numberM = cs.map some ∧
  ∀ H' r, Same H H' → TabN K H' Any r (Al09.rowsOf n n cs) → Q (.ref r) H'
theorem ok_table_of (T : Txt K mg) : FnOk P w K mg base CX0 5 T.f_table_of T.e_table_of ["texts"] (spTableOf K) := (ok_table_ofN T).imp fun vs H Q E h => by
  obtain ⟨a, ts, us, n, cs, h1, h2, h3, h4, h5, h6, h7, q⟩ := h
  exact ⟨a, ts, us, n, cs, h1, h2, h3, h4, h5, h6, h7, fun H' r s' t => q H' r s' (t.mono fun _ _ => trivial)⟩
/-! the call -/
theorem text_of {n : Nat} {t : Al09.Table} (sq : Ma.Sq n t) (hn : n ≤ 4) (hs : Ma.SmallT t) : ∀ l ∈ Al09.forms t, Ma.Tr l ∧ l.length ≤ 5 ∧ ∀ c ∈ l, Wr c := by
  intro l hl
  rw [Ma.forms_val sq, List.mem_map] at hl
  obtain ⟨p, hp, rfl⟩ := hl
  unfold Ma.formsP at hp
  have hp := (List.mem_filter.mp hp).1
  rw [List.mem_map] at hp
  obtain ⟨k, hk, rfl⟩ := hp
  rw [List.mem_range, sq.rows] at hk
  have h := Ma.fP_ht sq hn hs hk
  refine ⟨(Ma.fP t k).2, h.2, fun c hc => ?_⟩
  have := (Ma.Ht.htP h.1).num c hc
  have h2 : (2 : Nat) ^ 598 ≤ 2 ^ 4400 := Nat.pow_le_pow_right (by omega) (by omega)
  exact ⟨Nat.le_trans this.1 h2, Nat.le_trans this.2 h2⟩
theorem text_len {l : List Rat} (h : Ma.Tr l) (h5 : l.length ≤ 5) (hw : ∀ c ∈ l, Wr c) : (AlOne.text l).length ≤ 20000 := by
  by_cases hne : l = []
  · subst hne; decide
  · rw [← TT_all h hne]
    have := TT_len (by omega) hw l.length (Nat.le_refl _)
    have : l.length * 4000 ≤ 5 * 4000 := Nat.mul_le_mul_right _ h5
    omega
theorem forms_len {n : Nat} {t : Al09.Table} (sq : Ma.Sq n t) : (Al09.forms t).length ≤ n := by
  rw [← formsTo_all sq]; exact formsTo_len t n
/-- an answer's list -/
def shown (a : Al09.Ans) : List Int := a.code :: a.texts.flatMap Al09Neutral.shownText
theorem told_shown (f : Int) : ∀ (zs : List Str) (ts : List (List Nat)), zs.map tl = ts → told f zs = shown ⟨f, ts⟩ := by
  intro zs ts h
  subst h
  unfold told shown
  congr 1
  rw [List.flatMap_map]
  congr 1
/-- the texts back from whole numbers -/
theorem nats_back (us : List (List Nat)) : (us.map fun u => u.map fun (x : Nat) => (x : Int)).map Al09Neutral.nats = us := by
  rw [List.map_map]
  conv => rhs; rw [← List.map_id us]
  refine List.map_congr_left fun u _ => ?_
  show (u.map fun (x : Nat) => (x : Int)).map Int.toNat = u
  rw [List.map_map]
  conv => rhs; rw [← List.map_id u]
  exact List.map_congr_left fun x _ => Int.toNat_natCast x
theorem with1_no {us : List (List Nat)} (go : Al09.Table → Al09.Ans) (h : tabRef us ≠ 0) : Al09.with1 us go = Al09.no (tabRef us) := by
  unfold Al09.with1
  unfold tabRef at *
  cases hs : Al09.sideOf us.length with
  | none => rfl
  | some n =>
    rw [hs] at h
    show Al09.nums us _ = _
    rw [nums_ref, if_neg h]
theorem with1_ok {us : List (List Nat)} (h : tabRef us = 0) : ∃ n cs, Al09.sideOf us.length = some n ∧ us.map Ma.numberM = cs.map some ∧ cs.all Al09.numberOk = true ∧ cs.length = us.length ∧
    ∀ go : Al09.Table → Al09.Ans, Al09.with1 us go = go (Al09.rowsOf n n cs) := by
  unfold tabRef at h
  cases hs : Al09.sideOf us.length with
  | none => rw [hs] at h; cases h
  | some n =>
    rw [hs] at h
    obtain ⟨cs, h1, h2, h3⟩ := ref_zero h
    refine ⟨n, cs, rfl, h2, h3, ?_, fun go => ?_⟩
    · have := congrArg List.length h2
      rw [List.length_map, List.length_map] at this
      exact this.symm
    · unfold Al09.with1
      rw [hs]
      show Al09.nums us _ = _
      rw [nums_ref, if_pos h, h1]; rfl
theorem tabRef_neg {us : List (List Nat)} (h : tabRef us ≠ 0) : tabRef us < 0 := by
  unfold tabRef refM at *
  split
  · decide
  · rename_i e
    rw [e] at h
    simp only at h
    split
    · decide
    · rename_i h1
      rw [if_neg h1] at h
      split
      · decide
      · rename_i h2
        rw [if_neg h2] at h
        exact absurd rfl h
def spTop (K : PySem.W.Frag) (due : List (List Nat) → List Int) : Sp := fun vs H Q _ => ∃ (a : Addr) (ts : List V) (us : List (List Nat)), vs = [.ref a] ∧ SqL K H a ts ∧ Texts K H ts us ∧ (∀ u ∈ us, u.length ≤ 1000) ∧ us.length ≤ 100 ∧
  ∀ H' r, H' r = some (.lst ((due us).map V.int)) → Q (.ref r) H'
end
end W
set_option maxRecDepth 100000
namespace W
open PySem PySem.Spec PyProof.Rows L2
open PySem.W (WData Codec)
/-! the request -/
def unZ (l : List Int) : List Nat := l.map Int.toNat
theorem unZ_back {l : List Int} (h : ∀ x ∈ l, 0 ≤ x) : (unZ l).map (fun (x : Nat) => (x : Int)) = l := by
  unfold unZ
  rw [List.map_map]
  conv => rhs; rw [← List.map_id l]
  refine List.map_congr_left fun x hx => ?_
  show ((x.toNat : Nat) : Int) = x
  have := h x hx
  omega
theorem texts_dw {K : PySem.W.Frag} {H : Hp} : ∀ (a : List (List Int)) (vs : List V), (∀ l ∈ a, ∀ x ∈ l, 0 ≤ x) → DwAll K H vs (a.map fun l => WData.list (l.map WData.int)) → Texts K H vs (a.map unZ)
  | [], vs, _, h => by cases h; exact trivial
  | l :: a, vs, hp, h => by
    cases h with
    | cons h1 h2 =>
      cases h1 with
      | lst hs ha =>
        have e := ints_dw l _ ha
        subst e
        refine ⟨⟨_, rfl, ?_⟩, texts_dw a _ (fun l hl => hp l (by simp [hl])) h2⟩
        have e2 : nis (unZ l) = l.map V.int := by
          conv => rhs; rw [← unZ_back (hp l (by simp))]
          unfold nis
          rw [List.map_map]; rfl
        rw [e2]; exact hs
theorem rows_in {a : List (List Int)} (h : (a.all fun l => Codec.inLen 0 1000 l && l.all (Codec.inInt 0 255)) = true) : ∀ l ∈ a, l.length ≤ 1000 ∧ ∀ x ∈ l, (0 : Int) ≤ x := by
  intro l hl
  have := List.all_eq_true.mp h l hl
  rw [Bool.and_eq_true] at this
  refine ⟨(Codec.inNat_iff.mp this.1).2, fun x hx => ?_⟩
  have h9 := List.all_eq_true.mp this.2 x hx
  unfold Codec.inInt at h9
  rw [Bool.and_eq_true, decide_eq_true_eq] at h9
  exact h9.1
theorem unZ_len {a : List (List Int)} (h : ∀ l ∈ a, l.length ≤ 1000 ∧ ∀ x ∈ l, (0 : Int) ≤ x) : ∀ u ∈ a.map unZ, u.length ≤ 1000 := by
  intro u hu
  rw [List.mem_map] at hu
  obtain ⟨l, hl, rfl⟩ := hu
  unfold unZ
  rw [List.length_map]; exact (h l hl).1
theorem unZ_all {a : List (List Int)} (h : ∀ l ∈ a, l.length ≤ 1000 ∧ ∀ x ∈ l, (0 : Int) ≤ x) : ((a.map unZ).map fun u => u.map fun (x : Nat) => (x : Int)) = a := by
  rw [List.map_map]
  conv => rhs; rw [← List.map_id a]
  exact List.map_congr_left fun l hl => unZ_back (h l hl).2
end W
set_option maxRecDepth 100000
namespace W
open PySem PySem.Spec PyProof.Rows L2
/-! so many texts, beside n -/
theorem refM_neg {us : List (List Nat)} (h : refM us ≠ 0) : refM us < 0 := by
  unfold refM at *
  split
  · decide
  · rename_i h1
    rw [if_neg h1] at h
    split
    · decide
    · rename_i h2
      rw [if_neg h2] at h
      exact absurd rfl h
def cntRef (n c : Nat) (us : List (List Nat)) : Int := if n < 1 ∨ 4 < n ∨ us.length ≠ c then -6 else refM us
theorem cntRef_neg {n c : Nat} {us : List (List Nat)} (h : cntRef n c us ≠ 0) : cntRef n c us < 0 := by
  unfold cntRef at *
  split
  · decide
  · rename_i h1
    rw [if_neg h1] at h
    exact refM_neg h
theorem withN_no {n t m : Nat} {us : List (List Nat)} (go : List Rat → Al09.Ans) (h : cntRef n (t * (n * n) + m) us ≠ 0) : Al09.withN n t m us go = Al09.no (cntRef n (t * (n * n) + m) us) := by
  unfold Al09.withN
  unfold cntRef at *
  by_cases hc : n < 1 ∨ 4 < n ∨ us.length ≠ t * (n * n) + m
  · rw [if_pos hc, if_pos hc]
  · rw [if_neg hc] at h
    rw [if_neg hc, if_neg hc, nums_ref, if_neg h]
theorem withN_ok {n t m : Nat} {us : List (List Nat)} (h : cntRef n (t * (n * n) + m) us = 0) : 1 ≤ n ∧ n ≤ 4 ∧ us.length = t * (n * n) + m ∧ ∃ cs, us.map Ma.numberM = cs.map some ∧ cs.all Al09.numberOk = true ∧ cs.length = us.length ∧
    ∀ go : List Rat → Al09.Ans, Al09.withN n t m us go = go cs := by
  unfold cntRef at h
  by_cases hc : n < 1 ∨ 4 < n ∨ us.length ≠ t * (n * n) + m
  · rw [if_pos hc] at h; cases h
  · rw [if_neg hc] at h
    obtain ⟨cs, h1, h2, h3⟩ := ref_zero h
    have hc1 : ¬ n < 1 := fun x => hc (.inl x)
    have hc2 : ¬ 4 < n := fun x => hc (.inr (.inl x))
    have hc3 : us.length = t * (n * n) + m := by
      by_cases e : us.length = t * (n * n) + m
      · exact e
      · exact absurd (.inr (.inr e)) hc
    refine ⟨by omega, by omega, hc3, cs, h2, h3, ?_, fun go => ?_⟩
    · have := congrArg List.length h2
      rw [List.length_map, List.length_map] at this
      exact this.symm
    · unfold Al09.withN
      rw [if_neg hc, nums_ref, if_pos h, h1]; rfl
theorem side_of {n : Nat} (h1 : 1 ≤ n) (h4 : n ≤ 4) : Al09.sideOf (n * n) = some n := by
  have : ∀ n : Nat, n ≤ 4 → 1 ≤ n → Al09.sideOf (n * n) = some n := by decide +kernel
  exact this n h4 h1
theorem sq_le {n : Nat} (h4 : n ≤ 4) : n * n ≤ 16 := Nat.mul_le_mul h4 h4
theorem rowsOf_take {n : Nat} (cs : List Rat) : Al09.rowsOf n n (cs.take (n * n)) = Al09.rowsOf n n cs := by
  rw [rowsOf_map, rowsOf_map]
  refine List.map_congr_left fun i hi => ?_
  rw [List.mem_range] at hi
  have h1 : (i + 1) * n ≤ n * n := Nat.mul_le_mul_right _ hi
  rw [Nat.succ_mul] at h1
  rw [List.drop_take, List.take_take, Nat.min_eq_left (by omega)]
theorem Texts.take {K : PySem.W.Frag} {H : Hp} : ∀ {vs : List V} {us : List (List Nat)} (k : Nat), Texts K H vs us → Texts K H (vs.take k) (us.take k)
  | vs, us, 0, h => by simp only [List.take_zero]; exact trivial
  | [], [], _ + 1, _ => trivial
  | _ :: _, _ :: _, k + 1, h => ⟨h.1, Texts.take k h.2⟩
  | [], _ :: _, _ + 1, h => h.elim
  | _ :: _, [], _ + 1, h => h.elim
theorem Texts.drop {K : PySem.W.Frag} {H : Hp} : ∀ {vs : List V} {us : List (List Nat)} (k : Nat), Texts K H vs us → Texts K H (vs.drop k) (us.drop k)
  | vs, us, 0, h => h
  | [], [], _ + 1, _ => trivial
  | _ :: _, _ :: _, k + 1, h => Texts.drop k h.2
  | [], _ :: _, _ + 1, h => h.elim
  | _ :: _, [], _ + 1, h => h.elim
section
variable {P : Program} {w : World} {K : PySem.W.Frag} {mg : Str → Option Value} {base : Heap}
def spCnt (K : PySem.W.Frag) : Sp := fun vs H Q _ => ∃ (a : Addr) (ts : List V) (us : List (List Nat)) (n c : Nat), vs = [.int n, .ref a, .int c] ∧ SqL K H a ts ∧ Texts K H ts us ∧ (∀ u ∈ us, u.length ≤ 1000) ∧ us.length ≤ 100 ∧
  ∀ H', Same H H' → Q (.int (cntRef n c us)) H'
theorem ok_counted_refusal (T : Txt K mg) : FnOk P w K mg base CX0 6 T.f_counted_refusal T.e_counted_refusal ["n", "texts", "count"] (spCnt K) := by
  obtain ⟨t1, g1⟩ := T.g_NOT_SO_MANY
  obtain ⟨t4, g4⟩ := T.g_MOST_ROWS
  refine T.d_counted_refusal.F.ok sc_counted_refusal (fun vs H Q E h => ?_) (fun cdv A outer s H vs Q E hr h => ?_)
  · obtain ⟨a, ts, us, n, c, rfl, _⟩ := h
    rfl
  · obtain ⟨a, ts, us, n, c, rfl, ha, hT, hl, hn, q⟩ := h
    refine ⟨_, pss_cons (ps_if ((pw_or (pt_cmpR op_lt (pv 0) pe_int (nomark _)) (pw_or (pt_cmpR op_gt (pv 0) (pe_glob (v := .int 4) (by rfl) g4 ⟨_, rfl⟩) (nomark _)) (pw_or1 (pt_cmpR op_ne (pe_callB call_len_seq (by rfl) T.z_len PySem.boot_len (pa_cons (pv 1) pa_nil)) (pv 2) (nomark _))))).pt)
        (pss_one (ps_ret (pe_glob (v := .int (-6)) (by rfl) g1 ⟨_, rfl⟩))) pss_nil)
      (pss_one (ps_ret (pe_D T.d_numbers_refusal (ok_numbers_refusal T) hr (pa_cons (pv 1) pa_nil)))), ?_⟩
    have hTl := hT.len
    have bad : (n < 1 ∨ 4 < n ∨ us.length ≠ c) → Q (.int (-6)) H := by
      intro hc
      have := q H (Same.refl H)
      unfold cntRef at this
      rw [if_pos hc] at this; exact this
    refine ⟨_, rfl, _, _, rfl, rfl, _, rfl, ite2 (fun c1 => ?_) (fun c1 => ?_)⟩
    · have : (n : Int) < 1 := of_decide_eq_true c1
      refine iteT ?_
      exact bad (.inl (by omega))
    · have c1' : ¬ (n : Int) < 1 := fun h => c1 (decide_eq_true h)
      refine ⟨_, rfl, _, _, rfl, rfl, _, rfl, ite2 (fun c2 => ?_) (fun c2 => ?_)⟩
      · have : (4 : Int) < (n : Int) := of_decide_eq_true c2
        refine iteT ?_
        exact bad (.inr (.inl (by omega)))
      · have c2' : ¬ (4 : Int) < (n : Int) := fun h => c2 (decide_eq_true h)
        refine ⟨_, rfl, a, ts, rfl, .inl ha, _, rfl, rfl, _, rfl, ?_⟩
        by_cases c3 : us.length = c
        · have : decide (V.int ((ts.length : Nat) : Int) = V.int ((c : Nat) : Int)) = true := by rw [hTl, c3, decide_eq_true rfl]
          rw [this]
          refine iteF ?_
          refine ⟨_, rfl, a, ts, us, rfl, ha, hT, hl, hn, fun H' s' => ?_⟩
          have := q H' s'
          unfold cntRef at this
          rw [if_neg (by omega)] at this; exact this
        · have : decide (V.int ((ts.length : Nat) : Int) = V.int ((c : Nat) : Int)) = false := by
            rw [decide_eq_false]
            intro e
            have := V.int.inj e
            omega
          rw [this]
          refine iteT ?_
          exact bad (.inr (.inr c3))
/-- a call of n and texts -/
def spTop2 (K : PySem.W.Frag) (due : Nat → List (List Nat) → List Int) : Sp := fun vs H Q _ => ∃ (a : Addr) (ts : List V) (us : List (List Nat)) (n : Nat), vs = [.int n, .ref a] ∧ n < 2 ^ 32 ∧ SqL K H a ts ∧ Texts K H ts us ∧ (∀ u ∈ us, u.length ≤ 1000) ∧ us.length ≤ 100 ∧
  ∀ H' r, H' r = some (.lst ((due n us).map V.int)) → Q (.ref r) H'
theorem mulN {a b i j : Nat} (ha : i < 2 ^ a) (hb : j < 2 ^ b) (h : a + b < 1000000) : CMulW (i : Int) (j : Int) :=
  mulW (a := a) (b := b) (by rw [Int.natAbs_natCast]; omega) (by rw [Int.natAbs_natCast]; omega) h
theorem sq32 {n : Nat} (h : n < 2 ^ 32) : n * n < 2 ^ 64 := by
  have h1 : n * n ≤ (2 ^ 32 - 1) * (2 ^ 32 - 1) := Nat.mul_le_mul (by omega) (by omega)
  exact Nat.lt_of_le_of_lt h1 (by decide)
end
end W
set_option maxRecDepth 100000
namespace W
open PySem PySem.Spec PyProof.Rows L2
/-! tables of numbers whose rows are lists of their own -/
def Rws (K : PySem.W.Frag) (H : Hp) : List Addr → List (List Rat) → Prop
  | [], [] => True
  | b :: bs, l :: ls => PolV K H b l ∧ Rws K H bs ls
  | _, _ => False
section
variable {K : PySem.W.Frag} {H H' : Hp}
theorem Rws.same (e : Same H H') : ∀ {bs : List Addr} {ls : List (List Rat)}, Rws K H bs ls → Rws K H' bs ls
  | [], [], _ => trivial
  | _ :: _, _ :: _, h => ⟨h.1.same e, Rws.same e h.2⟩
  | [], _ :: _, h => h.elim
  | _ :: _, [], h => h.elim
theorem Rws.len : ∀ {bs : List Addr} {ls : List (List Rat)}, Rws K H bs ls → bs.length = ls.length
  | [], [], _ => rfl
  | _ :: _, _ :: _, h => by rw [List.length_cons, List.length_cons, Rws.len h.2]
  | [], _ :: _, h => h.elim
  | _ :: _, [], h => h.elim
theorem Rws.snoc : ∀ {bs : List Addr} {ls : List (List Rat)} {b : Addr} {l : List Rat}, Rws K H bs ls → PolV K H b l → Rws K H (bs ++ [b]) (ls ++ [l])
  | [], [], _, _, _, h2 => ⟨h2, trivial⟩
  | _ :: _, _ :: _, _, _, h, h2 => ⟨h.1, Rws.snoc h.2 h2⟩
  | [], _ :: _, _, _, h, _ => h.elim
  | _ :: _, [], _, _, h, _ => h.elim
theorem Rws.at : ∀ {bs : List Addr} {ls : List (List Rat)} {i : Nat} {l : List Rat}, Rws K H bs ls → ls[i]? = some l → ∃ b, bs[i]? = some b ∧ PolV K H b l
  | b :: _, l :: _, 0, m, h, e => by
    have e' := Option.some.inj e
    subst e'
    exact ⟨b, rfl, h.1⟩
  | _ :: bs, _ :: ls, i + 1, m, h, e => Rws.at (bs := bs) (ls := ls) (i := i) h.2 e
  | [], [], _, _, _, e => by simp at e
  | [], _ :: _, _, _, h, _ => h.elim
  | _ :: _, [], _, _, h, _ => h.elim
theorem Rws.isL : ∀ {bs : List Addr} {ls : List (List Rat)} {b : Addr}, Rws K H bs ls → b ∈ bs → ∃ ws, H b = some (.lst ws)
  | c :: bs, l :: ls, b, h, hb => by
    rcases List.mem_cons.mp hb with e | e
    · subst e
      obtain ⟨ws, h1, _⟩ := h.1
      exact ⟨ws, h1⟩
    · exact Rws.isL (bs := bs) (ls := ls) h.2 e
  | [], [], _, _, hb => by cases hb
  | [], _ :: _, _, h, _ => h.elim
  | _ :: _, [], _, h, _ => h.elim
theorem Rws.updN {D : Addr} {us ws : List V} (hD : H D = some (.lst us)) : ∀ {bs : List Addr} {ls : List (List Rat)}, D ∉ bs → Rws K H bs ls → Rws K (upd H D (.lst ws)) bs ls
  | [], [], _, _ => trivial
  | b :: bs, _ :: ls, hn, h => ⟨h.1.updN hD (fun e => hn (by rw [e]; exact List.mem_cons_self)), Rws.updN hD (fun e => hn (List.mem_cons_of_mem _ e)) h.2⟩
  | [], _ :: _, _, h => h.elim
  | _ :: _, [], _, h => h.elim
theorem Rws.set {b : Addr} {us ws : List V} {l : List Rat} (hD : H b = some (.lst us)) (hw : Rats K H ws l) : ∀ {bs : List Addr} {ls : List (List Rat)} {i : Nat}, bs.Nodup → bs[i]? = some b → Rws K H bs ls → Rws K (upd H b (.lst ws)) bs (ls.set i l)
  | c :: bs, m :: ls, 0, hn, e, h => by
    have e' := Option.some.inj e
    subst e'
    exact ⟨⟨ws, upd_same, hw.updL hD⟩, Rws.updN hD (List.nodup_cons.mp hn).1 h.2⟩
  | c :: bs, m :: ls, i + 1, hn, e, h => by
    have hn' := List.nodup_cons.mp hn
    have hb : b ∈ bs := List.mem_of_getElem? (by simpa using e)
    exact ⟨h.1.updN hD (fun x => hn'.1 (by rw [x]; exact hb)), Rws.set hD hw (bs := bs) (ls := ls) (i := i) hn'.2 (by simpa using e) h.2⟩
  | [], [], _, _, e, _ => by simp at e
  | [], _ :: _, _, _, _, h => h.elim
  | _ :: _, [], _, _, _, h => h.elim
theorem Rws.pols {N : Addr → Prop} : ∀ {bs : List Addr} {ls : List (List Rat)}, (∀ b ∈ bs, N b) → Rws K H bs ls → PolsN K H N (bs.map V.ref) ls
  | [], [], _, _ => trivial
  | b :: bs, _ :: ls, hn, h => ⟨⟨b, rfl, hn b List.mem_cons_self, h.1⟩, Rws.pols (fun c hc => hn c (List.mem_cons_of_mem _ hc)) h.2⟩
  | [], _ :: _, _, h => h.elim
  | _ :: _, [], _, h => h.elim
def Grd (K : PySem.W.Frag) (H : Hp) (N : Addr → Prop) (a : Addr) (M : List (List Rat)) : Prop := N a ∧ ∃ bs : List Addr, H a = some (.lst (bs.map V.ref)) ∧ bs.Nodup ∧ (∀ b ∈ bs, N b ∧ b ≠ a) ∧ Rws K H bs M
theorem Grd.same {N : Addr → Prop} {a : Addr} {M : List (List Rat)} (h : Grd K H N a M) (e : Same H H') : Grd K H' N a M := by
  obtain ⟨h0, bs, h1, h2, h3, h4⟩ := h
  exact ⟨h0, bs, e _ _ h1, h2, h3, h4.same e⟩
theorem Grd.mono {N N' : Addr → Prop} {a : Addr} {M : List (List Rat)} (h : Grd K H N a M) (hN : ∀ b, N b → N' b) : Grd K H N' a M := by
  obtain ⟨h0, bs, h1, h2, h3, h4⟩ := h
  exact ⟨hN _ h0, bs, h1, h2, fun b hb => ⟨hN _ (h3 b hb).1, (h3 b hb).2⟩, h4⟩
theorem Grd.tab {N : Addr → Prop} {a : Addr} {M : List (List Rat)} (h : Grd K H N a M) : TabN K H N a M := by
  obtain ⟨h0, bs, h1, h2, h3, h4⟩ := h
  exact ⟨h0, _, h1, h4.pols fun b hb => (h3 b hb).1⟩
/-- a row, and what becomes of the table when a place of it is set -/
theorem Grd.row {N : Addr → Prop} {a : Addr} {n : Nat} {M : List (List Rat)} (h : Grd K H N a M) (sq : Ma.Sq n M) {i : Nat} (hi : i < n) : ∃ (vs : List V) (b : Addr) (ws : List V), H a = some (.lst vs) ∧ vs[i]? = some (.ref b) ∧ H b = some (.lst ws) ∧ ws.length = n ∧ N b ∧
    (∀ j, j < n → ∃ v, ws[j]? = some v ∧ RatV K H v (Ma.E M i j)) ∧
    ∀ (j : Nat) (v : V) (c : Rat), RatV K H v c → Grd K (upd H b (.lst (ws.set j v))) N a (Ma.setE M i j c) := by
  obtain ⟨h0, bs, h1, h2, h3, h4⟩ := h
  obtain ⟨r, hr, lr⟩ := sq.row hi
  obtain ⟨b, hb, ws, hws, hR⟩ := h4.at hr
  have hbm := List.mem_of_getElem? hb
  refine ⟨_, b, ws, h1, by rw [List.getElem?_map, hb]; rfl, hws, by rw [hR.len, lr], (h3 b hbm).1, fun j hj => ?_, fun j v c hv => ?_⟩
  · have hj' : j < r.length := by omega
    obtain ⟨v, h5, h6⟩ := hR.at (List.getElem?_eq_getElem hj')
    refine ⟨v, h5, ?_⟩
    rw [Ma.E_of hr (List.getElem?_eq_getElem hj')]; exact h6
  · refine ⟨h0, bs, ?_, h2, h3, ?_⟩
    · rw [upd_ne (fun e => (h3 b hbm).2 e.symm)]; exact h1
    · unfold Ma.setE
      have : M.getD i [] = r := by rw [List.getD_eq_getElem?_getD, hr]; rfl
      rw [this]
      exact Rws.set hws (hR.set hv) h2 hb h4
end
section
variable {P : Program} {w : World} {K : PySem.W.Frag} {mg : Str → Option Value} {base : Heap}
/-- zeros -/
def zeroT (n : Nat) : List (List Rat) := List.replicate n (List.replicate n 0)
def spEmpty (K : PySem.W.Frag) : Sp := fun vs H Q _ => ∃ n : Nat, vs = [.int n] ∧ n ≤ 100 ∧ ∀ H' r, Same H H' → Grd K H' (fun b => H b = none) r (zeroT n) → Q (.ref r) H'
theorem ok_empty_table (T : Txt K mg) : FnOk P w K mg base CX0 1 T.f_empty_table T.e_empty_table ["size"] (spEmpty K) := by
  refine T.d_empty_table.F.ok sc_empty_table (fun vs H Q E h => ?_) (fun cdv A outer s H vs Q E hr h => ?_)
  · obtain ⟨n, rfl, _⟩ := h
    rfl
  · obtain ⟨n, rfl, hn, q⟩ := h
    refine ⟨_, pss_one (ps_ret (pe_lc (own := [("row", 1)]) (g := gName 1) (tt := tYes) rfl sc_empty_table.nd (pi_range1 (by rfl) T.z_range (pa_cons (pv 0) pa_nil)) (blkOk_by (N := n_empty_table) (sc := defScope s_empty_table) (by decide +kernel)) (fun _ _ _ _ _ => pg_name (i := 1) sc_empty_table.nd rfl (Or.inl rfl)) (fun _ _ _ _ _ => pts_nil)
          (fun _ _ _ _ _ => pe_op op_rep (pe_lst (pa_cons (pe_glob (v := .ref T.a_ZERO) (by rfl) T.g_ZERO rfl) pa_nil)) (pv 0)))), ?_⟩
    refine ⟨_, rfl, _, rfl, (by omega), (by omega), fun B nB => ?_⟩
    refine lc_range (lo := 0) (n := ((n : Nat) : Int).toNat) (fun i H' => Same H H' ∧ ∃ bs : List Addr, H' B = some (.lst (bs.map V.ref)) ∧ bs.Nodup ∧ (∀ b ∈ bs, H b = none ∧ b ≠ B) ∧ Rws K H' bs (List.replicate i (List.replicate n 0))) ⟨same_upd nB, [], upd_same, List.nodup_nil, by simp, trivial⟩ ?_ ?_
    · rintro i H' hi ⟨sm, bs, hB, hnd, hbs, hR⟩
      refine ⟨rfl, ⟨(by show 1 ≤ sizeLine; decide), fun z nz => ?_⟩⟩
      have s1 := same_upd (o := .lst [.ref T.a_ZERO]) nz
      have hz : (upd H' z (.lst [.ref T.a_ZERO])) z = some (.lst [.ref T.a_ZERO]) := upd_same
      generalize upd H' z (.lst [.ref T.a_ZERO]) = H1 at s1 hz
      refine ⟨_, rfl, z, _, _, rfl, rfl, hz, (by omega), (by omega), ?_, fun r nr => ?_⟩
      · have : (1000 : Nat) ≤ sizeLine := by decide
        simp; omega
      rw [flat_rep, Int.toNat_natCast]
      have s2 := same_upd (o := .lst (List.replicate n (V.ref T.a_ZERO))) nr
      have hr2 : PolV K (upd H1 r (.lst (List.replicate n (V.ref T.a_ZERO)))) r (List.replicate n 0) := ⟨_, upd_same, Rats.replicate (T.zero _) n⟩
      generalize upd H1 r (.lst (List.replicate n (V.ref T.a_ZERO))) = H2 at s2 hr2
      have s12 := s1.trans s2
      have nrH' := s1.free nr
      have hrB : r ≠ B := by intro e; rw [e, hB] at nrH'; cases nrH'
      have hrbs : r ∉ bs := by
        intro e
        obtain ⟨ws, e2⟩ := hR.isL e
        rw [nrH'] at e2; cases e2
      refine ⟨_, s12 _ _ hB, ?_, fun b' o e => ?_, bs ++ [r], ?_, ?_, ?_, ?_⟩
      · rw [List.length_map, hR.len, List.length_replicate]
        exact small1000 (by omega)
      · rw [upd_ne (ne_of_none e nB)]
        exact s12 _ _ (sm _ _ e)
      · rw [upd_same, List.map_append]; rfl
      · exact List.nodup_append.mpr ⟨hnd, by simp, fun x hx y hy => by
          rw [List.mem_singleton] at hy
          intro e
          rw [e, hy] at hx; exact hrbs hx⟩
      · intro b hb
        rcases List.mem_append.mp hb with h1 | h1
        · exact hbs b h1
        · rw [List.mem_singleton] at h1
          rw [h1]; exact ⟨sm.free nrH', hrB⟩
      · rw [List.replicate_succ']
        refine Rws.updN (s12 _ _ hB) ?_ ((hR.same s12).snoc hr2)
        intro e
        rcases List.mem_append.mp e with h1 | h1
        · exact (hbs B h1).2 rfl
        · rw [List.mem_singleton] at h1
          exact hrB h1.symm
    · rintro H' ⟨sm, bs, hB, hnd, hbs, hR⟩
      rw [Int.toNat_natCast] at hR
      exact q H' B sm ⟨nB, bs, hB, hnd, hbs, hR⟩
/-- the table of a polynomial put in -/
def putF (M : List (List Rat)) (s : Nat) (l : List Rat) (i j : Nat) : Rat :=
  if s ≤ i ∧ i < s + (l.length - 1) ∧ j + 1 = s + (l.length - 1) then -(l.getD (i - s) 0) else if s ≤ j ∧ j + 1 < s + (l.length - 1) ∧ i = j + 1 then 1 else Ma.E M i j
def spPut (K : PySem.W.Frag) : Sp := fun vs H Q _ => ∃ (a f : Addr) (s N : Nat) (M : List (List Rat)) (l : List Rat) (H0 : Hp), vs = [.ref a, .int s, .ref f] ∧ Same H0 H ∧ Grd K H (fun b => H0 b = none) a M ∧ PolV K H0 f l ∧ Ma.Sq N M ∧ 2 ≤ l.length ∧ s + (l.length - 1) ≤ N ∧ N ≤ 100 ∧
  ∀ H' M', Same H0 H' → Grd K H' (fun b => H0 b = none) a M' → Ma.Sq N M' → (∀ i j, Ma.E M' i j = putF M s l i j) → Q .non H'
/-- tables along the diagonal -/
def spAlong (K : PySem.W.Frag) : Sp := fun vs H Q _ => ∃ (a : Addr) (ws : List V) (fs : List (List Rat)), vs = [.ref a] ∧ H a = some (.lst ws) ∧ PolsN K H Any ws fs ∧ (∀ l ∈ fs, 2 ≤ l.length ∧ l.length ≤ 5) ∧ fs.length ≤ 4 ∧
  ∀ H' r, Same H H' → TabN K H' Any r (Ma.dia fs) → Q (.ref r) H'
theorem degs_le : ∀ (fs : List (List Rat)), (∀ l ∈ fs, 2 ≤ l.length ∧ l.length ≤ 5) → Ma.degs fs ≤ 4 * fs.length
  | [], _ => by simp [Ma.degs]
  | f :: fs, h => by
    have ih := degs_le fs fun l hl => h l (List.mem_cons_of_mem _ hl)
    have := (h f List.mem_cons_self).2
    rw [Ma.degs_cons, List.length_cons]
    unfold AlOne.degree
    omega
theorem degs_take {fs : List (List Rat)} {i : Nat} {f : List Rat} (h : fs[i]? = some f) : Ma.degs (fs.take (i + 1)) = Ma.degs (fs.take i) + (f.length - 1) := by
  rw [List.take_add_one, h]
  exact Ma.degs_snoc _ _
theorem degs_mono : ∀ (fs : List (List Rat)) (i : Nat), Ma.degs (fs.take i) ≤ Ma.degs fs
  | [], i => by simp
  | f :: fs, 0 => by simp [Ma.degs]
  | f :: fs, i + 1 => by
    rw [List.take_succ_cons, Ma.degs_cons, Ma.degs_cons]
    have := degs_mono fs i
    omega
theorem degs_sum (fs : List (List Rat)) : ((fs.map fun f => ((f.length : Int) - 1)).sum = (Ma.degs fs : Int)) ∨ ∃ f ∈ fs, f.length = 0 := by
  induction fs with
  | nil => exact .inl rfl
  | cons f fs ih =>
    rcases ih with h | ⟨g, h1, h2⟩
    · by_cases h0 : f.length = 0
      · exact .inr ⟨f, List.mem_cons_self, h0⟩
      · refine .inl ?_
        rw [List.map_cons, List.sum_cons, h, Ma.degs_cons]
        unfold AlOne.degree
        omega
    · exact .inr ⟨g, List.mem_cons_of_mem _ h1, h2⟩
theorem zeroT_map (n : Nat) : zeroT n = (List.range n).map fun _ => (List.range n).map fun _ => (0 : Rat) := by
  unfold zeroT
  have : ∀ (A : Type) (c : A), List.replicate n c = (List.range n).map fun _ => c := by
    intro A c
    apply List.ext_getElem <;> simp
  rw [this (List Rat), this Rat]
end
end W
set_option maxRecDepth 100000
namespace W
open PySem PySem.Spec PyProof.Rows L2
open TL (tl numL numL_lt numL_step tl_num tl_append len_tl ext_tl)
/-! a table's answer -/
section
variable {P : Program} {w : World} {K : PySem.W.Frag} {mg : Str → Option Value} {base : Heap}
theorem tabFlat_len {n : Nat} : ∀ (M : List (List Rat)), (∀ r ∈ M, r.length ≤ n) → (M.flatMap fun r => r).length ≤ n * M.length
  | [], _ => by simp
  | r :: M, h => by
    have ih := tabFlat_len M fun x hx => h x (List.mem_cons_of_mem _ hx)
    have := h r List.mem_cons_self
    rw [List.flatMap_cons, List.length_append, List.length_cons, Nat.mul_succ]
    omega
def spTableA (K : PySem.W.Frag) : Sp := fun vs H Q _ => ∃ (a : Addr) (M : List (List Rat)), vs = [.ref a] ∧ TabN K H Any a M ∧ M.length ≤ 16 ∧ (∀ r ∈ M, r.length ≤ 16) ∧ (∀ r ∈ M, ∀ c ∈ r, Wr c) ∧
  ∀ H' p, Same H H' → H' p = some (.lst ((shown (Al09.toldTable M)).map V.int)) → Q (.ref p) H'
theorem ok_table_answer (T : Txt K mg) : FnOk P w K mg base CX0 2 T.f_table_answer T.e_table_answer ["table"] (spTableA K) := by
  refine T.d_table_answer.F.ok sc_table_answer (fun vs H Q E h => ?_) (fun cdv A outer s H vs Q E hr h => ?_)
  · obtain ⟨a, M, rfl, _⟩ := h
    rfl
  · obtain ⟨a, M, rfl, ⟨_, ws, ha, hP⟩, hM, hM2, hW, q⟩ := h
    have hwl := hP.len
    refine ⟨_, pss_cons (ps_set (i := 1) sc_table_answer.nd rfl (.inl rfl) (pe_lst pa_nil))
      (pss_cons (ps_for PassesOwn.never rfl (pi_list (pv 0)) (pg_name (i := 2) sc_table_answer.nd rfl (.inl rfl))
        (pss_one (ps_expr (pe_bm PySem.F.plainAttrs_list PySem.F.slot_list_extend PySem.F.type_list_extend mt_extend (pv 1) (pa_cons
          (pe_lc (own := [("number", 3)]) (g := gName 3) (tt := tYes) rfl sc_table_answer.nd (pi_list (pv 2)) (blkOk_by (N := n_table_answer) (sc := defScope s_table_answer) (by decide +kernel)) (fun _ _ _ _ _ => pg_name (i := 3) sc_table_answer.nd rfl (Or.inl rfl)) (fun _ _ _ _ _ => pts_nil)
            (fun _ _ _ _ _ => pe_D T.d_number_text (ok_number_text T) hr (pa_cons (pv 3) pa_nil))) pa_nil)))))
      (pss_one (ps_ret (pe_D T.d_answer (ok_answer T) hr (pa_cons (pe_callB call_len_seq (by rfl) T.z_len PySem.boot_len (pa_cons (pv 0) pa_nil)) (pa_cons (pv 1) pa_nil)))))), ?_⟩
    refine ⟨Nat.zero_le _, fun R nR => ?_⟩
    have s1 := same_upd (o := .lst []) nR
    have hR1 : (upd H R (.lst [])) R = some (.lst []) := upd_same
    generalize upd H R (.lst []) = H1 at s1 hR1
    refine ⟨_, rfl, a, rfl, ⟨ws, SqL.of (s1 _ _ ha)⟩, ?_⟩
    have hfl : ∀ i, ((M.take i).flatMap fun r => r).length ≤ 256 := by
      intro i
      have h1 := tabFlat_len (n := 16) (M.take i) fun r hr => hM2 r (List.mem_of_mem_take hr)
      rw [List.length_take] at h1
      have : 16 * min i M.length ≤ 16 * 16 := Nat.mul_le_mul_left _ (by omega)
      omega
    refine for_list (K := K) (a := a) (xs := ws) (fun i σ H' => ∃ (y2 y3 : Option V) (zs : List Str), σ = [some (.ref a), some (.ref R), y2, y3] ∧ Same H H' ∧ H' R = some (.lst (zs.map V.str)) ∧ zs.map tl = ((M.take i).flatMap fun r => r).map Ma.sgnT)
      ⟨none, none, [], rfl, s1, hR1, rfl⟩ (fun i σ H' _ h => by obtain ⟨_, _, _, _, sm, _⟩ := h; exact SqL.of (sm _ _ ha)) ?_ ?_
    · rintro i x σ H' hx ⟨y2, y3, zs, rfl, sm, hR, hzs⟩
      obtain ⟨b, l, rfl, hli, _, hb⟩ := hP.get hx
      have hlm := List.mem_of_getElem? hli
      obtain ⟨us, hus, huR⟩ := hb.same sm
      have hul := huR.len
      have hl16 := hM2 l hlm
      refine ⟨_, rfl, .inl ⟨rfl, _, SqL.of hR⟩, _, rfl, b, rfl, ⟨us, SqL.of hus⟩, fun D nD => ?_⟩
      refine lc_list (K := K) (a := b) (xs := us) (fun j H2 => Same H' H2 ∧ ∃ ys : List Str, H2 D = some (.lst (ys.map V.str)) ∧ ys.map tl = (l.take j).map Ma.sgnT) ⟨same_upd nD, [], upd_same, rfl⟩ (fun j H2 _ h => SqL.of (h.1 _ _ hus)) ?_ ?_
      · rintro j v H2 hv ⟨s2, ys, hD, hys⟩
        obtain ⟨c, hc, hv2⟩ := huR.get hv
        have hyl : ys.length ≤ 16 := by
          have := congrArg List.length hys
          rw [List.length_map, List.length_map, List.length_take] at this
          omega
        refine ⟨rfl, _, rfl, v, c, rfl, hv2.same s2, hW l hlm c (List.mem_of_getElem? hc), fun z hz => ⟨_, hD, ?_, fun b' o e => ?_, ys ++ [z], ?_, ?_⟩⟩
        · rw [List.length_map]; exact small1000 (by omega)
        · rw [upd_ne (ne_of_none e nD)]; exact s2 _ _ e
        · rw [upd_same, List.map_append]; rfl
        · rw [List.map_append, hys, List.take_add_one, hc, List.map_append]
          show _ ++ [tl z] = _ ++ [Ma.sgnT c]
          rw [hz]
      · rintro H2 ⟨s2, ys, hD, hys⟩
        rw [hul, List.take_length] at hys
        have hyl : ys.length ≤ 16 := by
          have := congrArg List.length hys
          rw [List.length_map, List.length_map] at this
          omega
        have hzl : zs.length ≤ 256 := by
          have := congrArg List.length hzs
          rw [List.length_map, List.length_map] at this
          have := hfl i
          omega
        have hRD : R ≠ D := by intro e; rw [← e, hR] at nD; cases nD
        refine ⟨R, D, _, _, rfl, rfl, s2 _ _ hR, hD, ?_, ?_⟩
        · have hb := big_line
          rw [List.length_map, List.length_map]; omega
        · refine ⟨_, _, zs ++ ys, rfl, fun b' o e => ?_, ?_, ?_⟩
          · rw [upd_ne (ne_of_none e nR)]; exact s2 _ _ (sm _ _ e)
          · rw [upd_same, List.map_append]
          · rw [List.map_append, hzs, hys, List.take_add_one, hli, List.flatMap_append, List.map_append]
            simp
    · rintro σ H' ⟨y2, y3, zs, rfl, sm, hR, hzs⟩
      rw [hwl, List.take_length] at hzs
      have hzl : zs.length ≤ 256 := by
        have := congrArg List.length hzs
        rw [List.length_map, List.length_map] at this
        have := hfl M.length
        rw [List.take_length] at this
        omega
      refine ⟨_, rfl, a, ws, rfl, .inl (SqL.of (sm _ _ ha)), _, rfl, R, _, zs, rfl, hR, by omega, ?_, fun H5 r5 s5 n5 h5 => q H5 r5 (sm.trans s5) ?_⟩
      · intro z hz
        have hzm : tl z ∈ zs.map tl := List.mem_map.mpr ⟨z, hz, rfl⟩
        rw [hzs, List.mem_map] at hzm
        obtain ⟨c, hc, e⟩ := hzm
        rw [List.mem_flatMap] at hc
        obtain ⟨r, hr1, hr2⟩ := hc
        have := sgnT_len (hW r hr1 c hr2)
        rw [len_tl, ← e]; omega
      · rw [h5, told_shown _ zs _ hzs, hwl]
        have : (M.flatMap fun r => r).map Ma.sgnT = (M.flatMap fun (r : Al09.Row) => r).map AlOne.numText := List.map_congr_left fun c _ => (Ma.numText_eq c).symm
        rw [this]; rfl
end
end W
set_option maxRecDepth 100000
namespace W
open PySem PySem.Spec PyProof.Rows L2
/-! rows times columns -/
/-- every step of a row times a column is within the size -/
def RowOk (r c : List Rat) : Prop := ∀ t, t < r.length → Fits LIM (r.getD t 0) ∧ Fits LIM (c.getD t 0) ∧ Fits LIM (r.getD t 0 * c.getD t 0) ∧ Fits LIM (Ma.sm t (fun k => r.getD k 0 * c.getD k 0))
theorem getD_of {l : List Rat} {i : Nat} {c : Rat} (h : l[i]? = some c) : l.getD i 0 = c := by rw [List.getD_eq_getElem?_getD, h]; rfl
section
variable {P : Program} {w : World} {K : PySem.W.Frag} {mg : Str → Option Value} {base : Heap}
def spRowT (K : PySem.W.Frag) : Sp := fun vs H Q _ => ∃ (a b : Addr) (r c : List Rat), vs = [.ref a, .ref b] ∧ PolV K H a r ∧ PolV K H b c ∧ r.length = c.length ∧ RowOk r c ∧
  ∀ H' v, Same H H' → RatV K H' v (Al09.dot r c) → Q v H'
theorem ok_row_times (T : Txt K mg) : FnOk P w K mg base CX0 4 T.f_row_times T.e_row_times ["row", "vector"] (spRowT K) := by
  refine T.d_row_times.F.ok sc_row_times (fun vs H Q E h => ?_) (fun cdv A outer s H vs Q E hr h => ?_)
  · obtain ⟨a, b, r, c, rfl, _⟩ := h
    rfl
  · obtain ⟨a, b, r, c, rfl, ⟨ws, hws, hwR⟩, ⟨us, hus, huR⟩, hl, ok, q⟩ := h
    have hwl := hwR.len
    have hul := huR.len
    refine ⟨_, pss_cons (ps_set (i := 2) sc_row_times.nd rfl (.inl rfl) (pe_glob (v := .ref T.a_ZERO) (by rfl) T.g_ZERO rfl))
      (pss_cons (ps_for PassesOwn.never rfl (pi_zip (by rfl) T.z_zip (pa_cons (pv 0) (pa_cons (pv 1) pa_nil))) (pg_tup rfl (pgs_cons (pg_name (i := 3) sc_row_times.nd rfl (.inl rfl)) (pgs_cons (pg_name (i := 4) sc_row_times.nd rfl (.inl rfl)) pgs_nil)))
        (pss_one (ps_set (i := 2) sc_row_times.nd rfl (.inl rfl) (pe_D T.d_ratio_sum (ok_ratio_sum T) hr (pa_cons (pv 2) (pa_cons (pe_D T.d_ratio_product (ok_ratio_product T) hr (pa_cons (pv 3) (pa_cons (pv 4) pa_nil))) pa_nil))))))
      (pss_one (ps_ret (pv 2)))), ?_⟩
    refine ⟨_, rfl, _, rfl, a, b, ws, us, rfl, SqL.of hws, SqL.of hus, ?_⟩
    refine for_it (walk_zip (K := K) (a := a) (b := b) (xs := ws) (ys := us) (n := r.length) (by omega)) (fun i σ H' => ∃ (y3 y4 : Option V) (v : V), σ = [some (.ref a), some (.ref b), some v, y3, y4] ∧ Same H H' ∧ RatV K H' v (Ma.sm i (fun k => r.getD k 0 * c.getD k 0)))
      ⟨none, none, _, rfl, Same.refl H, T.zero H⟩ (fun i σ H' _ h => by obtain ⟨_, _, _, _, sm, _⟩ := h; exact ⟨SqL.of (sm _ _ hws), SqL.of (sm _ _ hus)⟩) ?_ ?_
    · rintro i x σ H' H'' hi ⟨y3, y4, v, rfl, sm, hv⟩ ⟨t, x1, x2, rfl, nt, rfl, hx1, hx2⟩
      obtain ⟨c1, hc1, hv1⟩ := hwR.get hx1
      obtain ⟨c2, hc2, hv2⟩ := huR.get hx2
      have st := same_upd (o := .tup [x1, x2]) nt
      refine ⟨t, _, rfl, SqT.of upd_same, rfl, _, _, rfl, _, _, rfl, rfl, ?_⟩
      generalize upd H' t (.tup [x1, x2]) = H1 at st
      have s1 := sm.trans st
      obtain ⟨f1, f2, f3, f4⟩ := ok i hi
      rw [getD_of hc1, getD_of hc2] at f3
      rw [getD_of hc1] at f1
      rw [getD_of hc2] at f2
      refine ⟨_, rfl, _, rfl, _, rfl, x1, x2, c1, c2, rfl, hv1.same s1, hv2.same s1, ⟨f1, f2⟩, fun H5 v5 s5 hv5 => ?_⟩
      refine ⟨v, v5, _, _, rfl, (hv.same st).same s5, hv5, ⟨f4, f3⟩, fun H6 v6 s6 hv6 => ?_⟩
      refine ⟨_, _, v6, rfl, (s1.trans s5).trans s6, ?_⟩
      rw [Ma.sm, getD_of hc1, getD_of hc2]; exact hv6
    · rintro σ H' ⟨y3, y4, v, rfl, sm, hv⟩
      refine ⟨_, rfl, q H' v sm ?_⟩
      rw [Ma.dot_sm rfl hl.symm]; exact hv
def spCol (K : PySem.W.Frag) : Sp := fun vs H Q _ => ∃ (a : Addr) (M : List (List Rat)) (j : Nat), vs = [.ref a, .int j] ∧ TabN K H Any a M ∧ M.length ≤ 100 ∧ (∀ r ∈ M, j < r.length) ∧
  ∀ H' p, Same H H' → H p = none → PolV K H' p (Al09.column j M) → Q (.ref p) H'
theorem ok_column_of (T : Txt K mg) : FnOk P w K mg base CX0 1 T.f_column_of T.e_column_of ["table", "at"] (spCol K) := by
  refine T.d_column_of.F.ok sc_column_of (fun vs H Q E h => ?_) (fun cdv A outer s H vs Q E hr h => ?_)
  · obtain ⟨a, M, j, rfl, _⟩ := h
    rfl
  · obtain ⟨a, M, j, rfl, ⟨_, ws, ha, hP⟩, hM, hj, q⟩ := h
    have hwl := hP.len
    refine ⟨_, pss_one (ps_ret (pe_lc (own := [("row", 2)]) (g := gName 2) (tt := tYes) rfl sc_column_of.nd (pi_list (pv 0)) (blkOk_by (N := n_column_of) (sc := defScope s_column_of) (by decide +kernel)) (fun _ _ _ _ _ => pg_name (i := 2) sc_column_of.nd rfl (Or.inl rfl)) (fun _ _ _ _ _ => pts_nil)
          (fun _ _ _ _ _ => pe_ix (show IxR _ (rIxL K) from ix_list) (pv 2) (pv 1) (fun _ _ => rfl)))), ?_⟩
    refine ⟨_, rfl, a, rfl, ⟨ws, SqL.of ha⟩, fun D nD => ?_⟩
    refine lc_list (K := K) (a := a) (xs := ws) (fun i H' => Same H H' ∧ ∃ acc, H' D = some (.lst acc) ∧ Rats K H' acc ((M.take i).map fun r => r.getD j 0)) ⟨same_upd nD, [], upd_same, trivial⟩ (fun i H' _ h => SqL.of (h.1 _ _ ha)) ?_ ?_
    · rintro i x H' hx ⟨sm, acc, hD, hacc⟩
      obtain ⟨b, l, rfl, hli, _, hb⟩ := hP.get hx
      obtain ⟨us, hus, huR⟩ := hb.same sm
      have hjl := hj l (List.mem_of_getElem? hli)
      obtain ⟨v, hv1, hv2⟩ := huR.at (List.getElem?_eq_getElem hjl)
      refine ⟨rfl, _, rfl, _, rfl, b, us, _, v, rfl, rfl, SqL.of hus, atI_nat hv1, acc, hD, ?_, fun b' o e => ?_, _, upd_same, ?_⟩
      · rw [hacc.len, List.length_map, List.length_take]
        exact small1000 (by omega)
      · rw [upd_ne (ne_of_none e nD)]; exact sm _ _ e
      · rw [List.take_add_one, hli, List.map_append]
        refine (hacc.snoc ?_).updL hD
        show RatV K H' v (l.getD j 0)
        rw [List.getD_eq_getElem?_getD, List.getElem?_eq_getElem hjl]; exact hv2
    · rintro H' ⟨sm, acc, hD, hacc⟩
      rw [hwl, List.take_length] at hacc
      exact q H' D sm nD ⟨acc, hD, hacc⟩
def spProd (K : PySem.W.Frag) : Sp := fun vs H Q _ => ∃ (a b : Addr) (A B : List (List Rat)) (n : Nat), vs = [.ref a, .ref b] ∧ TabN K H Any a A ∧ TabN K H Any b B ∧ Ma.Sq n A ∧ Ma.Sq n B ∧ n ≤ 4 ∧ (∀ r ∈ A, ∀ j, j < n → RowOk r (Al09.column j B)) ∧
  ∀ H' p, Same H H' → Grd K H' (fun b => H b = none) p (Al09.times A B) → Q (.ref p) H'
theorem ok_table_product (T : Txt K mg) : FnOk P w K mg base CX0 5 T.f_table_product T.e_table_product ["left", "right"] (spProd K) := by
  refine T.d_table_product.F.ok sc_table_product (fun vs H Q E h => ?_) (fun cdv A outer s H vs Q E hr h => ?_)
  · obtain ⟨a, b, A, B, n, rfl, _⟩ := h
    rfl
  · obtain ⟨a, b, M, B, n, rfl, ⟨_, ws, ha, hP⟩, hB, sqA, sqB, hn, ok, q⟩ := h
    obtain ⟨_, us, hb, hPB⟩ := id hB
    have hwl := hP.len
    have hul := hPB.len
    have hMl := sqA.rows
    have hBl := sqB.rows
    refine ⟨_, pss_cons (ps_setLc (i := 2) (own := [("at", 3)]) (g := gName 3) (tt := tYes) rfl sc_table_product.nd rfl rfl (sw_true rfl rfl rfl (by decide +kernel)) (pi_range1 (by rfl) T.z_range (pa_cons (pe_callB call_len_seq (by rfl) T.z_len PySem.boot_len (pa_cons (pv 1) pa_nil)) pa_nil)) (blkOk_by (N := n_table_product) (sc := defScope s_table_product) (by decide +kernel)) (fun _ _ _ _ _ => pg_name (i := 3) sc_table_product.nd rfl (Or.inl rfl)) (fun _ _ _ _ _ => pts_nil)
          (fun _ _ _ _ _ => pe_D T.d_column_of (ok_column_of T) hr (pa_cons (pv 1) (pa_cons (pv 3) pa_nil))))
      (pss_cons (ps_set (i := 4) sc_table_product.nd rfl (.inl rfl) (pe_lst pa_nil))
      (pss_cons (ps_for PassesOwn.never rfl (pi_list (pv 0)) (pg_name (i := 5) sc_table_product.nd rfl (.inr rfl))
        (pss_one (ps_expr (pe_bm PySem.F.plainAttrs_list PySem.F.slot_list_append PySem.F.type_list_append mt_append (pv 4) (pa_cons
          (pe_lc (own := [("column", 6)]) (g := gName 6) (tt := tYes) rfl sc_table_product.nd (pi_list (pv 2)) (blkOk_by (N := n_table_product) (sc := defScope s_table_product) (by decide +kernel)) (fun _ _ _ _ _ => pg_name (i := 6) sc_table_product.nd rfl (Or.inl rfl)) (fun _ _ _ _ _ => pts_nil)
            (fun _ _ _ _ _ => pe_D T.d_row_times (ok_row_times T) hr (pa_cons (pv 5) (pa_cons (pv 6) pa_nil)))) pa_nil)))))
      (pss_one (ps_ret (pv 4))))), ?_⟩
    refine ⟨_, rfl, b, us, rfl, .inl (SqL.of hb), _, rfl, (by omega), (by omega), fun D nD => ?_⟩
    refine lc_range (lo := 0) (n := ((us.length : Nat) : Int).toNat) (fun i H' => Same H H' ∧ ∃ cs, H' D = some (.lst cs) ∧ PolsN K H' (fun b => b ≠ D) cs ((List.range i).map fun j => Al09.column j B)) ⟨same_upd nD, [], upd_same, trivial⟩ ?_ ?_
    · rintro i H' hi ⟨sm, cs, hD, hcs⟩
      have ei : (0 : Int) + ((i : Nat) : Int) = ((i : Nat) : Int) := by omega
      have hin : i < n := by omega
      rw [ei]
      refine ⟨rfl, _, rfl, _, rfl, b, B, i, rfl, hB.same sm, by omega, fun r hr' => by rw [sqB.wid r hr']; exact hin, fun H2 p2 s2 n2 h2 => ?_⟩
      have hpD : p2 ≠ D := by intro e; rw [e, hD] at n2; cases n2
      refine ⟨cs, s2 _ _ hD, ?_, fun b' o e => ?_, _, upd_same, ?_⟩
      · rw [hcs.len, List.length_map, List.length_range]
        exact small1000 (by omega)
      · rw [upd_ne (ne_of_none e nD)]; exact s2 _ _ (sm _ _ e)
      · rw [List.range_succ, List.map_append]
        exact ((hcs.same s2).snoc (b := p2) hpD h2).updN (s2 _ _ hD) (fun _ h => h)
    · rintro H1 ⟨s1, cs, hD, hcs⟩
      rw [Int.toNat_natCast, hul, hBl] at hcs
      have hcl := hcs.len
      rw [List.length_map, List.length_range] at hcl
      refine ⟨Nat.zero_le _, fun R nR => ?_⟩
      have s2 := same_upd (o := .lst []) nR
      have hR2 : (upd H1 R (.lst [])) R = some (.lst []) := upd_same
      generalize upd H1 R (.lst []) = H2 at s2 hR2
      have s12 := s1.trans s2
      have nRH := s1.free nR
      refine ⟨_, rfl, a, rfl, ⟨ws, SqL.of (s12 _ _ ha)⟩, ?_⟩
      refine for_list (K := K) (a := a) (xs := ws) (fun i σ H' => ∃ (y3 y5 y6 : Option V) (bs : List Addr), σ = [some (.ref a), some (.ref b), some (.ref D), y3, some (.ref R), y5, y6] ∧ Same H1 H' ∧ H' R = some (.lst (bs.map V.ref)) ∧ bs.Nodup ∧ (∀ x ∈ bs, H1 x = none ∧ x ≠ R) ∧ Rws K H' bs ((M.take i).map fun r => (List.range B.length).map fun j => Al09.dot r (Al09.column j B)))
        ⟨_, none, none, [], rfl, s2, hR2, List.nodup_nil, by simp, trivial⟩ (fun i σ H' _ h => by obtain ⟨_, _, _, _, _, sm, _⟩ := h; exact SqL.of (sm _ _ (s1 _ _ ha))) ?_ ?_
      · rintro i x σ H' hx ⟨y3, y5, y6, bs, rfl, sm, hR, hnd, hbs, hRw⟩
        obtain ⟨br, l, rfl, hli, _, hbr⟩ := hP.get hx
        have hlm := List.mem_of_getElem? hli
        have hbr' := (hbr.same s1).same sm
        have hll := sqA.wid l hlm
        refine ⟨_, rfl, .inl ⟨rfl, _, SqL.of hR⟩, _, rfl, D, rfl, ⟨cs, SqL.of (sm _ _ hD)⟩, fun F nF => ?_⟩
        refine lc_list (K := K) (a := D) (xs := cs) (fun j H3 => Same H' H3 ∧ ∃ acc, H3 F = some (.lst acc) ∧ Rats K H3 acc ((List.range j).map fun j => Al09.dot l (Al09.column j B))) ⟨same_upd nF, [], upd_same, trivial⟩ (fun j H3 _ h => SqL.of (h.1 _ _ (sm _ _ hD))) ?_ ?_
        · rintro j y H3 hy ⟨s3, acc, hF, hacc⟩
          obtain ⟨bc, lc, rfl, hlc, _, hbc⟩ := hcs.get hy
          have hjn : j < n := by rw [← hcl]; exact (List.getElem?_eq_some_iff.mp hy).1
          have elc : lc = Al09.column j B := by
            rw [List.getElem?_map, List.getElem?_range hjn] at hlc
            exact (Option.some.inj hlc).symm
          subst elc
          refine ⟨rfl, _, rfl, _, rfl, br, bc, l, _, rfl, hbr'.same s3, (hbc.same sm).same s3, by rw [Ma.col_len, hll, hBl], ok l hlm j hjn, fun H4 v4 s4 hv4 => ?_⟩
          refine ⟨acc, s4 _ _ hF, ?_, fun b' o e => ?_, _, upd_same, ?_⟩
          · rw [hacc.len, List.length_map, List.length_range]
            exact small1000 (by omega)
          · rw [upd_ne (ne_of_none e nF)]; exact s4 _ _ (s3 _ _ e)
          · rw [List.range_succ, List.map_append]
            exact ((hacc.same s4).snoc hv4).updL (s4 _ _ hF)
        · rintro H3 ⟨s3, acc, hF, hacc⟩
          rw [hcl] at hacc
          have hRF : F ≠ R := by intro e; rw [e, hR] at nF; cases nF
          have hFbs : F ∉ bs := by
            intro e
            obtain ⟨zs, e2⟩ := hRw.isL e
            rw [nF] at e2; cases e2
          have hFP : PolV K H3 F ((List.range B.length).map fun j => Al09.dot l (Al09.column j B)) := ⟨acc, hF, by rw [hBl]; exact hacc⟩
          refine ⟨R, _, _, rfl, rfl, s3 _ _ hR, ?_, ?_⟩
          · rw [List.length_map, hRw.len, List.length_map, List.length_take]
            exact small1000 (by omega)
          · refine ⟨_, _, _, bs ++ [F], rfl, fun b' o e => ?_, ?_, ?_, ?_, ?_⟩
            · rw [upd_ne (ne_of_none e nR)]; exact s3 _ _ (sm _ _ e)
            · rw [upd_same, List.map_append]; rfl
            · exact List.nodup_append.mpr ⟨hnd, by simp, fun x hx y hy => by
                rw [List.mem_singleton] at hy
                intro e
                rw [e, hy] at hx; exact hFbs hx⟩
            · intro x hx
              rcases List.mem_append.mp hx with h1 | h1
              · exact hbs x h1
              · rw [List.mem_singleton] at h1
                rw [h1]; exact ⟨sm.free nF, hRF⟩
            · rw [List.take_add_one, hli, List.map_append]
              refine Rws.updN (s3 _ _ hR) ?_ ((hRw.same s3).snoc hFP)
              intro e
              rcases List.mem_append.mp e with h1 | h1
              · exact (hbs R h1).2 rfl
              · rw [List.mem_singleton] at h1
                exact hRF h1.symm
      · rintro σ H' ⟨y3, y5, y6, bs, rfl, sm, hR, hnd, hbs, hRw⟩
        rw [hwl, List.take_length] at hRw
        exact ⟨_, rfl, q H' R (s1.trans sm) ⟨nRH, bs, hR, hnd, fun x hx => ⟨s1.free (hbs x hx).1, (hbs x hx).2⟩, hRw⟩⟩
/-- every step of a polynomial of a table is within the size -/
def PolyOk (n : Nat) (M : List (List Rat)) (p : List Rat) : Prop := ∀ i, i < p.length → (∀ r ∈ Al09.valueAt M (p.drop (i + 1)), ∀ j, j < n → RowOk r (Al09.column j M)) ∧ Fits LIM (p.getD i 0) ∧
  ∀ k, k < n → Fits LIM (Ma.E (Al09.times (Al09.valueAt M (p.drop (i + 1))) M) k k)
def spPolyAt (K : PySem.W.Frag) : Sp := fun vs H Q _ => ∃ (a b : Addr) (p : List Rat) (M : List (List Rat)) (n : Nat), vs = [.ref a, .ref b] ∧ PolV K H a p ∧ TabN K H Any b M ∧ Ma.Sq n M ∧ n ≤ 4 ∧ PolyOk n M p ∧
  ∀ H' r, Same H H' → TabN K H' Any r (Al09.valueAt M p) → Q (.ref r) H'
theorem ok_poly_at (T : Txt K mg) : FnOk P w K mg base CX0 6 T.f_poly_at T.e_poly_at ["p", "table"] (spPolyAt K) := by
  refine T.d_poly_at.F.ok sc_poly_at (fun vs H Q E h => ?_) (fun cdv A outer s H vs Q E hr h => ?_)
  · obtain ⟨a, b, p, M, n, rfl, _⟩ := h
    rfl
  · obtain ⟨a, b, p, M, n, rfl, ⟨ps, hps, hpR⟩, hM, sq, hn, ok, q⟩ := h
    obtain ⟨_, ws, hb, hP⟩ := id hM
    have hwl := hP.len
    have hMl := sq.rows
    have hpl := hpR.len
    refine ⟨_, pss_cons (ps_set (i := 2) sc_poly_at.nd rfl (.inl rfl) (pe_D T.d_empty_table (ok_empty_table T) hr (pa_cons (pe_callB call_len_seq (by rfl) T.z_len PySem.boot_len (pa_cons (pv 1) pa_nil)) pa_nil)))
      (pss_cons (ps_for PassesOwn.never rfl (pi_reversed (by rfl) T.z_reversed (pa_cons (pv 0) pa_nil)) (pg_name (i := 3) sc_poly_at.nd rfl (.inl rfl))
        (pss_cons (ps_set (i := 2) sc_poly_at.nd rfl (.inl rfl) (pe_D T.d_table_product (ok_table_product T) hr (pa_cons (pv 2) (pa_cons (pv 1) pa_nil))))
        (pss_one (ps_for PassesOwn.never rfl (pi_range1 (by rfl) T.z_range (pa_cons (pe_callB call_len_seq (by rfl) T.z_len PySem.boot_len (pa_cons (pv 1) pa_nil)) pa_nil)) (pg_name (i := 4) sc_poly_at.nd rfl (.inl rfl))
          (pss_one (ps_asg (pe_D T.d_ratio_sum (ok_ratio_sum T) hr (pa_cons (pe_ix ix_list (pe_ix ix_list (pv 2) (pv 4) (fun _ _ => rfl)) (pv 4) (fun _ _ => rfl)) (pa_cons (pv 3) pa_nil))) (pg_sub (pe_ix ix_list (pv 2) (pv 4) (fun _ _ => rfl)) (pv 4) set_list)))))))
      (pss_one (ps_ret (pv 2)))), ?_⟩
    have hwn : ws.length = n := by omega
    refine ⟨_, rfl, b, ws, rfl,   .inl (SqL.of hb), n, by rw [hwn]; rfl, by omega, fun H1 R s1 hG => ?_⟩
    have hz : zeroT n = Al09.valueAt M (p.drop p.length) := by
      rw [List.drop_length]
      show _ = Al09.zero M.length
      rw [hMl]
      have h1 : Ma.Sq n (zeroT n) := by rw [zeroT_map]; exact Ma.sq_map_range _ _
      refine h1.ext (Ma.sq_zero n) fun i j _ _ => ?_
      rw [zeroT_map, Ma.E_map_range, Ma.E_zero]; split <;> rfl
    refine ⟨_, rfl, a, ps, rfl, SqL.of (s1 _ _ hps), ?_⟩
    refine for_it (walk_rev (K := K) (a := a) (xs := ps)) (fun t σ H' => ∃ (R : Addr) (y3 y4 : Option V), σ = [some (.ref a), some (.ref b), some (.ref R), y3, y4] ∧ Same H H' ∧ Grd K H' (fun b => H b = none) R (Al09.valueAt M (p.drop (p.length - t))))
      ⟨R, none, none, rfl, s1, by rw [Nat.sub_zero, ← hz]; exact hG⟩ (fun i σ H' _ h => by obtain ⟨_, _, _, _, sm, _⟩ := h; exact SqL.of (sm _ _ hps)) ?_ ?_
    · rintro t x σ H' H'' ht ⟨R, y3, y4, rfl, sm, hG⟩ ⟨rfl, hx⟩
      obtain ⟨c, hc, hv⟩ := hpR.get hx
      have htp : t < p.length := by omega
      have hix : ps.length - 1 - t = p.length - 1 - t := by omega
      rw [hix] at hc
      have hil : p.length - 1 - t < p.length := by omega
      obtain ⟨ok1, ok2, ok3⟩ := ok (p.length - 1 - t) hil
      have hdt : p.length - 1 - t + 1 = p.length - t := by omega
      rw [hdt] at ok1 ok3
      rw [getD_of hc] at ok2
      have hdrop : p.drop (p.length - (t + 1)) = c :: p.drop (p.length - t) := by
        rw [show p.length - (t + 1) = p.length - 1 - t by omega, List.drop_eq_getElem_cons hil, hdt]
        congr 1
        have := List.getElem?_eq_getElem hil
        rw [hc] at this
        exact (Option.some.inj this).symm
      generalize p.drop (p.length - t) = pt at hG ok1 ok3 hdrop
      have sqV := Ma.sq_valueAt sq pt
      refine ⟨_, rfl, _, rfl, R, b, _, M, n, rfl, hG.tab.mono fun _ _ => trivial, hM.same sm, sqV, sq, hn, ok1, fun H2 R2 s2 hG2 => ?_⟩
      have hG2' := hG2.mono (N' := fun b => H b = none) fun x hx => sm.free hx
      have sm2 := sm.trans s2
      have sqT := Ma.sq_times sqV sq
      refine ⟨_, rfl, b, ws, rfl, .inl (SqL.of (sm2 _ _ hb)), _, rfl, (by omega), (by omega), ?_⟩
      rw [hwn, Int.toNat_natCast]
      refine for_range (lo := 0) (n := n) (fun k σ H3 => ∃ (y4 : Option V) (M3 : List (List Rat)), σ = [some (.ref a), some (.ref b), some (.ref R2), some x, y4] ∧ Same H H3 ∧ Grd K H3 (fun b => H b = none) R2 M3 ∧ Ma.Sq n M3 ∧ ∀ i j, Ma.E M3 i j = Ma.E (Al09.times (Al09.valueAt M pt) M) i j + (if i = j ∧ i < k then c else 0))
        ⟨y4, _, rfl, sm2, hG2', sqT, fun i j => by rw [if_neg (by omega)]; grind⟩ ?_ ?_
      · rintro k σ H3 hk ⟨y4, M3, rfl, s3, hG3, sq3, hE⟩
        have ek : (0 : Int) + ((k : Nat) : Int) = ((k : Nat) : Int) := by omega
        rw [ek]
        obtain ⟨vs, br, us, hR3, hvb, hbr, hul, hNb, hget, hset⟩ := hG3.row sq3 hk
        obtain ⟨v0, hv0, hr0⟩ := hget k hk
        refine ⟨_, rfl, _, rfl, R2, vs, _, _, rfl, rfl, SqL.of hR3, atI_nat hvb, _, rfl, br, us, _, _, rfl, rfl, SqL.of hbr, atI_nat hv0, ?_⟩
        refine ⟨_, rfl, v0, x, _, c, rfl, hr0, hv.same s3, ⟨?_, ok2⟩, fun H4 v4 s4 hv4 => ?_⟩
        · rw [hE k k, if_neg (by omega)]
          have := ok3 k hk
          rw [show Ma.E (Al09.times (Al09.valueAt M pt) M) k k + 0 = Ma.E (Al09.times (Al09.valueAt M pt) M) k k by grind]
          exact this
        · obtain ⟨vs4, br4, us4, hR4, hvb4, hbr4, hul4, hNb4, _, hset4⟩ := (hG3.same s4).row sq3 hk
          refine ⟨_, rfl, _, rfl, R2, vs4, _, _, rfl, rfl, SqL.of hR4, atI_nat hvb4, _, rfl, br4, us4, _, k, rfl, rfl, hbr4, ixN_nat (by omega), ?_⟩
          refine ⟨_, _, rfl, fun b' o e => ?_, hset4 k _ _ hv4, Ma.setE_sq sq3 hk _, fun i j => ?_⟩
          · rw [upd_ne (ne_of_none e hNb4)]; exact s4 _ _ (s3 _ _ e)
          · rw [Ma.E_setE sq3 hk hk, hE k k, hE i j]
            by_cases h1 : i = k ∧ j = k
            · obtain ⟨e1, e2⟩ := h1
              subst e1 e2
              rw [if_pos ⟨rfl, rfl⟩, if_neg (by omega), if_pos (by omega)]; grind
            · rw [if_neg h1]
              by_cases h2 : i = j ∧ i < k
              · rw [if_pos h2, if_pos (by omega)]
              · rw [if_neg h2, if_neg (by omega)]
      · rintro σ H3 ⟨y4, M3, rfl, s3, hG3, sq3, hE⟩
        refine ⟨R2, _, _, rfl, s3, ?_⟩
        rw [hdrop]
        have : M3 = Al09.valueAt M (c :: pt) := sq3.ext (Ma.sq_valueAt sq _) fun i j hi hj => by
          rw [hE i j, Ma.E_valueR sq c pt hi hj]
          by_cases h1 : i = j
          · rw [if_pos ⟨h1, hi⟩, if_pos h1]
          · rw [if_neg (fun x => h1 x.1), if_neg h1]
        rw [← this]; exact hG3
    · rintro σ H' ⟨R, y3, y4, rfl, sm, hG⟩
      rw [hpl, Nat.sub_self, List.drop_zero] at hG
      exact ⟨_, rfl, q H' R sm (hG.tab.mono fun _ _ => trivial)⟩
end
end W
set_option maxRecDepth 100000
namespace W
open PySem PySem.Spec PyProof.Rows L2
/-! lists of bytes as data -/
def datN (l : List Nat) : PyData := .list (l.map fun (x : Nat) => PyData.int (x : Int))
theorem dp_nis {K : PySem.W.Frag} {H : Hp} {l : List Nat} {b : Addr} (hb : SqL K H b (nis l)) : Dp K H (.ref b) (datN l) := by
  refine .lst hb ?_
  clear hb
  induction l with
  | nil => exact .nil
  | cons x l ih => exact .cons (.int _) ih
theorem shaped_datN (l : List Nat) : SeqAt.shaped (datN l) = true := by
  have : PyData.canLayAll0 (l.map fun (x : Nat) => PyData.int (x : Int)) = true ∧ PyData.depthAll (l.map fun (x : Nat) => PyData.int (x : Int)) = 0 := by
    induction l with
    | nil => exact ⟨rfl, rfl⟩
    | cons x l ih =>
      refine ⟨?_, ?_⟩
      · show (true && PyData.canLayAll0 (l.map fun (x : Nat) => PyData.int (x : Int))) = true
        rw [ih.1]; rfl
      · show max 0 (PyData.depthAll (l.map fun (x : Nat) => PyData.int (x : Int))) = 0
        rw [ih.2]; rfl
  show (PyData.canLayAll0 (l.map fun (x : Nat) => PyData.int (x : Int)) && decide (PyData.depthAll (l.map fun (x : Nat) => PyData.int (x : Int)) + 1 ≤ 64)) = true
  rw [this.1, this.2]; rfl
theorem eqv_datN : ∀ l m : List Nat, PyData.eqv (datN l) (datN m) = decide (l = m) := by
  intro l
  show ∀ m, PyData.eqvAll _ _ = _
  induction l with
  | nil => intro m; cases m <;> rfl
  | cons x l ih =>
    intro m
    cases m with
    | nil => rfl
    | cons y m =>
      show (((x : Int) == (y : Int)) && PyData.eqvAll (l.map fun (x : Nat) => PyData.int (x : Int)) (m.map fun (x : Nat) => PyData.int (x : Int))) = _
      rw [ih m, Bool.eq_iff_iff]
      simp only [Bool.and_eq_true, beq_iff_eq, decide_eq_true_eq, List.cons.injEq]
      constructor
      · rintro ⟨h, h'⟩; exact ⟨by omega, h'⟩
      · rintro ⟨h, h'⟩; exact ⟨by omega, h'⟩
theorem eqv_datO (o : Option Rat) (c : Rat) : PyData.eqv (datO o) (datR c) = decide (o = some c) := by
  cases o with
  | none => rfl
  | some d =>
    show PyData.eqv (datR d) (datR c) = _
    rw [eqv_datR]
    by_cases h : d = c
    · simp [h]
    · simp [h]
theorem shaped_datO1 (o : Option Rat) : SeqAt.shaped (datO o) = true := by cases o <;> rfl
theorem cut_last {xs : List V} : cutV xs none (some (-1)) = xs.dropLast := by
  have e : HT.sIx xs.length xs.length (some (-1)) = xs.length - 1 := by
    show (if (-1 : Int) < 0 then ((-1 : Int) + (xs.length : Int)).toNat else min (-1 : Int).toNat xs.length) = _
    rw [if_pos (by omega)]; omega
  have e2 : HT.sIx xs.length 0 none = 0 := rfl
  unfold cutV
  rw [e, e2, List.drop_zero, Nat.sub_zero, List.dropLast_eq_take]
theorem atI_neg1 {xs : List V} {v : V} (h : xs[xs.length - 1]? = some v) : atI xs (-1) = some v := by
  have hne : xs ≠ [] := by intro e; subst e; cases h
  have h1 := (List.dropLast_concat_getLast hne).symm
  have h2 : xs.getLast hne = v := by
    rw [List.getLast_eq_getElem]
    exact (List.getElem?_eq_some_iff.mp h).2
  rw [h2] at h1
  rw [h1]; exact atI_last _ _
section
variable {P : Program} {w : World} {K : PySem.W.Frag} {mg : Str → Option Value} {base : Heap}
def spPow (K : PySem.W.Frag) : Sp := fun vs H Q _ => ∃ (a : Addr) (u : List Nat), vs = [.ref a] ∧ SqL K H a (nis u) ∧ u.length ≤ 1000 ∧ ∀ H', Same H H' → Q (optI (Ma.powerM u)) H'
theorem ok_power_of (T : Txt K mg) : FnOk P w K mg base CX0 2 T.f_power_of T.e_power_of ["text"] (spPow K) := by
  obtain ⟨t1, g1⟩ := T.g_CARET
  refine T.d_power_of.F.ok sc_power_of (fun vs H Q E h => ?_) (fun cdv A outer s H vs Q E hr h => ?_)
  · obtain ⟨a, u, rfl, _⟩ := h
    rfl
  · obtain ⟨a, u, rfl, ha, hu, q⟩ := h
    refine ⟨_, pss_cons (ps_if (pt_cmpR op_eq (pe_callB call_len_seq (by rfl) T.z_len PySem.boot_len (pa_cons (pv 0) pa_nil)) pe_int (nomark _)) (pss_one (ps_ret pe_int)) pss_nil)
      (pss_cons (ps_if (pt_cmpR op_ne (pe_ix ix_list (pv 0) pe_int (fun _ _ => rfl)) (pe_glob (v := .int 94) (by rfl) g1 ⟨_, rfl⟩) (nomark _)) (pss_one (ps_ret pe_non)) pss_nil)
      (pss_cons (ps_set (i := 1) sc_power_of.nd rfl (.inl rfl) (pe_D T.d_whole_of (ok_whole_of T) hr (pa_cons (pe_slice sl_list (pv 0) (po_some pe_int) po_none) pa_nil)))
      (pss_one (ps_ret (pe_ifExp ((pw_or (pt_cmp (pc_isN (pv 1))) (pw_or1 (pt_cmpR op_lt (pv 1) pe_int (nomark _)))).pt) pe_non (pv 1)))))), ?_⟩
    refine ⟨_, rfl, a, _, rfl, .inl ha, rfl, _, rfl, ite2 (fun e => ?_) (fun e => ?_)⟩
    · have e1 : ((nis u).length : Int) = 0 := V.int.inj (of_decide_eq_true e)
      have u0 : u = [] := List.eq_nil_of_length_eq_zero (by rw [List.length_map] at e1; omega)
      have : Ma.powerM u = some 1 := by unfold Ma.powerM; rw [if_pos u0]
      have := q H (Same.refl H)
      rw [‹Ma.powerM u = some 1›] at this
      exact this
    · have e1 : ¬ u.length = 0 := fun h => e (decide_eq_true (by rw [List.length_map, h]; rfl))
      cases u with
      | nil => exact absurd rfl e1
      | cons x u =>
        refine ⟨_, rfl, a, _, 0, .int (x : Int), rfl, rfl, ha, atI_nat (j := 0) rfl, rfl, _, rfl, ?_⟩
        have hM : Ma.powerM (x :: u) = if x = 94 then (Ma.wholeM u).bind fun n => if n < 2 then none else some n else none := by
          unfold Ma.powerM; rw [if_neg (by simp)]; rfl
        by_cases hx : x = 94
        · have : decide (V.int (x : Int) = V.int 94) = true := by rw [hx]; rfl
          rw [this]
          refine iteF ?_
          rw [if_pos hx] at hM
          refine ⟨_, rfl, 1, rfl, a, _, rfl, ha, fun p1 n1 => ?_⟩
          rw [show cutV (nis (x :: u)) (some 1) none = (nis (x :: u)).drop 1 from cut_from (c := 1)]
          have s1 := same_upd (o := .lst ((nis (x :: u)).drop 1)) n1
          have h1 : SqL K (upd H p1 (.lst ((nis (x :: u)).drop 1))) p1 (nis u) := SqL.of upd_same
          generalize upd H p1 (.lst ((nis (x :: u)).drop 1)) = H1 at s1 h1
          refine ⟨p1, u, rfl, h1, by simp at hu; omega, ?_⟩
          cases hw : Ma.wholeM u with
          | none =>
            rw [hw] at hM
            refine ⟨_, rfl, true, rfl, iteT ?_⟩
            have := q H1 s1
            rw [hM] at this; exact this
          | some n =>
            rw [hw] at hM
            have hM : Ma.powerM (x :: u) = if n < 2 then none else some n := hM
            refine ⟨_, rfl, false, rfl, iteF ?_⟩
            refine ⟨_, rfl, _, _, rfl, rfl, _, rfl, ite2 (fun c => ?_) (fun c => ?_)⟩
            · have c1 : (n : Int) < 2 := of_decide_eq_true c
              have := q H1 s1
              rw [hM, if_pos (by omega)] at this; exact this
            · have c1 : ¬ (n : Int) < 2 := fun h => c (decide_eq_true h)
              have := q H1 s1
              rw [hM, if_neg (by omega)] at this
              exact ⟨_, rfl, this⟩
        · have : decide (V.int (x : Int) = V.int 94) = false := by
            rw [decide_eq_false]
            intro e
            have := V.int.inj e
            omega
          rw [this]
          refine iteT ?_
          have := q H (Same.refl H)
          rw [hM, if_neg hx] at this; exact this
theorem ok_factor_of (T : Txt K mg) : FnOk P w K mg base CX0 3 T.f_factor_of T.e_factor_of ["text"] (spUns K Ma.factorM) := by
  obtain ⟨t1, g1⟩ := T.g_STAR
  refine T.d_factor_of.F.ok sc_factor_of (fun vs H Q E h => ?_) (fun cdv A outer s H vs Q E hr h => ?_)
  · obtain ⟨a, u, rfl, _⟩ := h
    rfl
  · obtain ⟨a, u, rfl, ha, hu, q⟩ := h
    refine ⟨_, pss_cons (ps_if (pt_cmpR op_eq (pe_callB call_len_seq (by rfl) T.z_len PySem.boot_len (pa_cons (pv 0) pa_nil)) pe_int (nomark _)) (pss_one (ps_ret (pe_glob (v := .ref T.a_ONE) (by rfl) T.g_ONE rfl))) pss_nil)
      (pss_cons (ps_if (pt_cmpR op_ne (pe_ix ix_list (pv 0) (pe_un un_neg pe_int) (fun _ _ => rfl)) (pe_glob (v := .int 42) (by rfl) g1 ⟨_, rfl⟩) (nomark _)) (pss_one (ps_ret pe_non)) pss_nil)
      (pss_cons (ps_set (i := 1) sc_factor_of.nd rfl (.inl rfl) (pe_D T.d_unsigned_of (ok_unsigned_of T) hr (pa_cons (pe_slice sl_list (pv 0) po_none (po_some (pe_un un_neg pe_int))) pa_nil)))
      (pss_one (ps_ret (pe_ifExp (pt_cmpR (op_eqD (hu64 hr)) (pv 1) (pe_glob (v := .ref T.a_ONE) (by rfl) T.g_ONE rfl) (nomark _)) pe_non (pv 1)))))), ?_⟩
    refine ⟨_, rfl, a, _, rfl, .inl ha, rfl, _, rfl, ite2 (fun e => ?_) (fun e => ?_)⟩
    · have e1 : ((nis u).length : Int) = 0 := V.int.inj (of_decide_eq_true e)
      have u0 : u = [] := List.eq_nil_of_length_eq_zero (by rw [List.length_map] at e1; omega)
      refine q H _ (Same.refl H) ?_
      have : Ma.factorM u = some 1 := by unfold Ma.factorM; rw [if_pos u0]
      rw [this]; exact T.one H
    · have e1 : ¬ u.length = 0 := fun h => e (decide_eq_true (by rw [List.length_map, h]; rfl))
      have hne : u ≠ [] := by intro h; rw [h] at e1; exact e1 rfl
      have hlast : u.getLastD 0 = u.getLast hne := by rw [List.getLastD_eq_getLast?, List.getLast?_eq_some_getLast hne]; rfl
      have hat : atI (nis u) (-1) = some (.int ((u.getLast hne : Nat) : Int)) := by
        refine atI_neg1 ?_
        rw [List.length_map, List.getElem?_map, List.getElem?_eq_getElem (show u.length - 1 < u.length by omega), List.getLast_eq_getElem]; rfl
      refine ⟨_, rfl, 1, rfl, a, _, -1, _, rfl, rfl, ha, hat, rfl, _, rfl, ?_⟩
      have hM : Ma.factorM u = if u.getLastD 0 = 42 then (Ma.unsignedM u.dropLast).bind fun c => if c = 1 then none else some c else none := by
        unfold Ma.factorM; rw [if_neg hne]
      rw [hlast] at hM
      by_cases hx : u.getLast hne = 42
      · have : decide (V.int ((u.getLast hne : Nat) : Int) = V.int 42) = true := by rw [hx]; rfl
        rw [this]
        refine iteF ?_
        rw [if_pos hx] at hM
        refine ⟨_, rfl, 1, rfl, _, rfl, a, _, rfl, ha, fun p1 n1 => ?_⟩
        rw [show cutV (nis u) none (some (-1)) = (nis u).dropLast from cut_last]
        have s1 := same_upd (o := .lst (nis u).dropLast) n1
        have h1 : SqL K (upd H p1 (.lst (nis u).dropLast)) p1 (nis u.dropLast) := SqL.of (by rw [upd_same]; unfold nis; rw [List.map_dropLast])
        generalize upd H p1 (.lst (nis u).dropLast) = H1 at s1 h1
        refine ⟨p1, _, rfl, h1, by rw [List.length_dropLast]; omega, fun H2 v2 s2 h2 => ?_⟩
        refine ⟨_, rfl, _, _, h2.dp, (T.one H2).dp, shaped_datO1 _, shaped_datR _, _, rfl, ?_⟩
        rw [eqv_datO]
        refine ite2 (fun c => ?_) (fun c => ?_)
        · have c1 := of_decide_eq_true c
          refine q H2 .non (s1.trans s2) ?_
          rw [hM, c1]
          show OptR K H2 .non (if (1 : Rat) = 1 then none else some 1)
          rw [if_pos rfl]; rfl
        · have c1 : ¬ Ma.unsignedM u.dropLast = some 1 := fun h => c (decide_eq_true h)
          refine ⟨_, rfl, q H2 v2 (s1.trans s2) ?_⟩
          have : Ma.factorM u = Ma.unsignedM u.dropLast := by
            rw [hM]
            cases ho : Ma.unsignedM u.dropLast with
            | none => rfl
            | some d =>
              show (if d = 1 then none else some d) = some d
              rw [if_neg (fun e => c1 (by rw [ho, e]))]
          rw [this]; exact h2
      · have : decide (V.int ((u.getLast hne : Nat) : Int) = V.int 42) = false := by
          rw [decide_eq_false]
          intro e
          have := V.int.inj e
          omega
        rw [this]
        refine iteT ?_
        refine q H .non (Same.refl H) ?_
        rw [hM, if_neg hx]; rfl
/-- a term, or none -/
def OptT (K : PySem.W.Frag) (H : Hp) (v : V) : Option (Rat × Nat) → Prop
  | none => v = .non
  | some t => ∃ p x, v = .ref p ∧ SqT K H p [x, .int (t.2 : Int)] ∧ RatV K H x t.1
def spTermO (K : PySem.W.Frag) : Sp := fun vs H Q _ => ∃ (a : Addr) (u : List Nat), vs = [.ref a] ∧ SqL K H a (nis u) ∧ u.length ≤ 1000 ∧ ∀ H' v, Same H H' → OptT K H' v (Ma.termM u) → Q v H'
theorem ok_term_of (T : Txt K mg) : FnOk P w K mg base CX0 4 T.f_term_of T.e_term_of ["piece"] (spTermO K) := by
  obtain ⟨t1, g1⟩ := T.g_LETTER_X
  refine T.d_term_of.F.ok sc_term_of (fun vs H Q E h => ?_) (fun cdv A outer s H vs Q E hr h => ?_)
  · obtain ⟨a, u, rfl, _⟩ := h
    rfl
  · obtain ⟨a, u, rfl, ha, hu, q⟩ := h
    refine ⟨_, pss_cons (ps_if (pt_cmpR op_in_seq (pe_glob (v := .int 120) (by rfl) g1 ⟨_, rfl⟩) (pv 0) rfl)
        (pss_cons (ps_set (i := 1) sc_term_of.nd rfl (.inl rfl) (pe_bm PySem.F.plainAttrs_list PySem.F.slot_list_index PySem.F.type_list_index mt_index (pv 0) (pa_cons (pe_glob (v := .int 120) (by rfl) g1 ⟨_, rfl⟩) pa_nil)))
        (pss_cons (ps_set (i := 2) sc_term_of.nd rfl (.inl rfl) (pe_D T.d_factor_of (ok_factor_of T) hr (pa_cons (pe_slice sl_list (pv 0) po_none (po_some (pv 1))) pa_nil)))
        (pss_one (ps_set (i := 3) sc_term_of.nd rfl (.inl rfl) (pe_D T.d_power_of (ok_power_of T) hr (pa_cons (pe_slice sl_list (pv 0) (po_some (pe_op op_add (pv 1) pe_int)) po_none) pa_nil))))))
        (pss_cons (ps_set (i := 2) sc_term_of.nd rfl (.inl rfl) (pe_D T.d_unsigned_of (ok_unsigned_of T) hr (pa_cons (pv 0) pa_nil)))
        (pss_one (ps_set (i := 3) sc_term_of.nd rfl (.inl rfl) pe_int))))
      (pss_cons (ps_if ((pw_or (pt_cmp (pc_isN (pv 2))) (pw_or (pt_cmpR (op_eqD (hu64 hr)) (pv 2) (pe_glob (v := .ref T.a_ZERO) (by rfl) T.g_ZERO rfl) (nomark _)) (pw_or1 (pt_cmp (pc_isN (pv 3)))))).pt) (pss_one (ps_ret pe_non)) pss_nil)
      (pss_one (ps_ret (pe_tup (pa_cons (pv 2) (pa_cons (pv 3) pa_nil)))))), ?_⟩
    refine ⟨_, rfl, a, _, rfl, .inl ha, rfl, nis_flat u, _, rfl, ?_⟩
    rw [show inV (V.int 120) (nis u) = decide (120 ∈ u) from inV_nis 120 u]
    by_cases h120 : 120 ∈ u
    · rw [decide_eq_true h120]
      refine iteT ?_
      have hlt := List.idxOf_lt_length_of_mem h120
      refine ⟨_, rfl, .inl ⟨rfl, _, ha⟩, a, nis u, .int 120, u.idxOf 120, .int 120, rfl, rfl, ha, rfl, nis_flat u, ?_, rfl, ?_, ?_⟩
      · rw [List.getElem?_map, List.getElem?_eq_getElem hlt]
        have : u[u.idxOf 120] = 120 := List.getElem_idxOf hlt
        rw [this]; rfl
      · intro m z hm hz
        rw [List.getElem?_map] at hz
        obtain ⟨x, hx, rfl⟩ := Option.map_eq_some_iff.mp hz
        have := idx_first hm x hx
        show ((x : Int) == (120 : Int)) = false
        rw [beq_eq_false_iff_ne]
        omega
      · refine ⟨_, rfl, _, rfl, _, rfl, a, _, rfl, ha, fun p1 n1 => ?_⟩
        rw [cut_to]
        have s1 := same_upd (o := .lst ((nis u).take (u.idxOf 120))) n1
        have h1 : SqL K (upd H p1 (.lst ((nis u).take (u.idxOf 120)))) p1 (nis (u.take (u.idxOf 120))) := SqL.of (by rw [upd_same]; unfold nis; rw [List.map_take])
        generalize upd H p1 (.lst ((nis u).take (u.idxOf 120))) = H1 at s1 h1
        refine ⟨p1, _, rfl, h1, by rw [List.length_take]; omega, fun H2 v2 s2 h2 => ?_⟩
        have s12 := s1.trans s2
        refine ⟨_, rfl, _, rfl, _, _, rfl, rfl, _, rfl, a, _, rfl, s12.seq ha, fun p3 n3 => ?_⟩
        have ei : ((u.idxOf 120 : Nat) : Int) + 1 = ((u.idxOf 120 + 1 : Nat) : Int) := by omega
        rw [ei, cut_from]
        have s3 := same_upd (o := .lst ((nis u).drop (u.idxOf 120 + 1))) n3
        have h3 : SqL K (upd H2 p3 (.lst ((nis u).drop (u.idxOf 120 + 1)))) p3 (nis (u.drop (u.idxOf 120 + 1))) := SqL.of (by rw [upd_same]; unfold nis; rw [List.map_drop])
        generalize upd H2 p3 (.lst ((nis u).drop (u.idxOf 120 + 1))) = H3 at s3 h3
        refine ⟨p3, _, rfl, h3, by rw [List.length_drop]; omega, fun H4 s4 => ?_⟩
        have sF := s12.trans (s3.trans s4)
        have hv := (h2.same s3).same s4
        have hraw : Ma.termM u = ((Ma.factorM (u.take (u.idxOf 120))).bind fun c => (Ma.powerM (u.drop (u.idxOf 120 + 1))).map fun k => (c, k)).bind fun x => if x.1 = 0 then none else some x := by
          unfold Ma.termM Ma.rawM; rw [if_pos h120]
        clear h2
        generalize Ma.factorM (u.take (u.idxOf 120)) = o1 at hv hraw
        generalize Ma.powerM (u.drop (u.idxOf 120 + 1)) = o2 at hraw
        cases o1 with
        | none =>
          have e4 : v2 = .non := hv
          subst e4
          refine ⟨_, rfl, true, rfl, iteT (iteT ?_)⟩
          exact q H4 .non sF (by rw [hraw]; rfl)
        | some c =>
          have hv' : RatV K H4 v2 c := hv
          obtain ⟨p4, e4, hp4⟩ := id hv'
          subst e4
          refine ⟨_, rfl, false, rfl, iteF ?_⟩
          refine ⟨_, rfl, _, _, hv'.dp, (T.zero H4).dp, shaped_datR _, shaped_datR _, _, rfl, ?_⟩
          rw [eqv_datR]
          refine ite2 (fun c2 => ?_) (fun c2 => ?_)
          · have c3 : c = 0 := of_decide_eq_true c2
            refine iteT ?_
            refine q H4 .non sF ?_
            rw [hraw]
            cases o2 with
            | none => rfl
            | some k =>
              show OptT K H4 .non (if c = 0 then none else some (c, k))
              rw [if_pos c3]; rfl
          · have c3 : ¬ c = 0 := fun h => c2 (decide_eq_true h)
            cases o2 with
            | none =>
              refine ⟨_, rfl, true, rfl, iteT ?_⟩
              exact q H4 .non sF (by rw [hraw]; rfl)
            | some k =>
              refine ⟨_, rfl, false, rfl, iteF ?_⟩
              refine ⟨_, rfl, _, rfl, (by show 2 ≤ sizeLine; decide), fun p5 n5 => ?_⟩
              have s5 := same_upd (o := .tup [.ref p4, .int (k : Int)]) n5
              refine q _ _ (sF.trans s5) ?_
              rw [hraw]
              show OptT K _ (.ref p5) (if c = 0 then none else some (c, k))
              rw [if_neg c3]
              exact ⟨p5, _, rfl, SqT.of upd_same, hv'.same s5⟩
    · rw [decide_eq_false h120]
      refine iteF ?_
      refine ⟨_, rfl, a, u, rfl, ha, hu, fun H4 v2 sF hv => ?_⟩
      · have hraw : Ma.termM u = ((Ma.unsignedM u).bind fun c => (some 0).map fun k => (c, k)).bind fun x => if x.1 = 0 then none else some x := by
          unfold Ma.termM Ma.rawM
          rw [if_neg h120]
          cases Ma.unsignedM u <;> rfl
        generalize Ma.unsignedM u = o1 at hv hraw
        cases o1 with
        | none =>
          have e4 : v2 = .non := hv
          subst e4
          refine ⟨_, rfl, true, rfl, iteT (iteT ?_)⟩
          exact q H4 .non sF (by rw [hraw]; rfl)
        | some c =>
          have hv' : RatV K H4 v2 c := hv
          obtain ⟨p4, e4, hp4⟩ := id hv'
          subst e4
          refine ⟨_, rfl, false, rfl, iteF ?_⟩
          refine ⟨_, rfl, _, _, hv'.dp, (T.zero H4).dp, shaped_datR _, shaped_datR _, _, rfl, ?_⟩
          rw [eqv_datR]
          refine ite2 (fun c2 => ?_) (fun c2 => ?_)
          · have c3 : c = 0 := of_decide_eq_true c2
            refine iteT ?_
            refine q H4 .non sF ?_
            rw [hraw]
            show OptT K H4 .non (if c = 0 then none else some (c, 0))
            rw [if_pos c3]; rfl
          · have c3 : ¬ c = 0 := fun h => c2 (decide_eq_true h)
            · refine ⟨_, rfl, false, rfl, iteF ?_⟩
              refine ⟨_, rfl, _, rfl, (by show 2 ≤ sizeLine; decide), fun p5 n5 => ?_⟩
              have s5 := same_upd (o := .tup [.ref p4, .int ((0 : Nat) : Int)]) n5
              refine q _ _ (sF.trans s5) ?_
              rw [hraw]
              show OptT K _ (.ref p5) (if c = 0 then none else some (c, 0))
              rw [if_neg c3]
              exact ⟨p5, _, rfl, SqT.of upd_same, hv'.same s5⟩
end
end W
set_option maxRecDepth 100000
namespace W
open PySem PySem.Spec PyProof.Rows L2
/-! pieces -/
theorem split_snoc_sep : ∀ u : List Nat, AlBase.split 32 (u ++ [32]) = AlBase.split 32 u ++ [[]]
  | [] => rfl
  | a :: u => by
    have ih := split_snoc_sep u
    rw [List.cons_append, AlBase.split, AlBase.split]
    by_cases h : a = 32
    · rw [if_pos h, if_pos h, ih]; rfl
    · rw [if_neg h, if_neg h, ih]
      cases hs : AlBase.split 32 u with
      | nil => exact absurd hs (Ma.split_ne 32 u)
      | cons w r => rfl
theorem split_snoc {b : Nat} (hb : b ≠ 32) : ∀ u : List Nat, ∃ ls l, AlBase.split 32 u = ls ++ [l] ∧ AlBase.split 32 (u ++ [b]) = ls ++ [l ++ [b]]
  | [] => ⟨[], [], rfl, by
      show AlBase.split 32 [b] = [[b]]
      rw [AlBase.split, if_neg hb]; rfl⟩
  | a :: u => by
    obtain ⟨ls, l, h1, h2⟩ := split_snoc hb u
    rw [List.cons_append, AlBase.split, AlBase.split, h1, h2]
    by_cases h : a = 32
    · rw [if_pos h, if_pos h]; exact ⟨[] :: ls, l, rfl, rfl⟩
    · rw [if_neg h, if_neg h]
      cases ls with
      | nil => exact ⟨[], a :: l, rfl, rfl⟩
      | cons w r => exact ⟨(a :: w) :: r, l, rfl, rfl⟩
theorem piece_len : ∀ {u p : List Nat}, p ∈ AlBase.split 32 u → p.length ≤ u.length
  | [], p, h => by
    have h : p ∈ [[]] := h
    rw [List.mem_singleton] at h
    rw [h]; simp
  | a :: u, p, h => by
    rw [AlBase.split] at h
    split at h
    · rcases List.mem_cons.mp h with e | e
      · rw [e]; simp
      · have := piece_len e
        simp; omega
    · split at h
      · rw [List.mem_singleton] at h; rw [h]; simp
      · rename_i w r hs
        rcases List.mem_cons.mp h with e | e
        · rw [e]
          have := piece_len (u := u) (p := w) (by rw [hs]; exact List.mem_cons_self)
          simp; exact this
        · have := piece_len (u := u) (p := p) (by rw [hs]; exact List.mem_cons_of_mem _ e)
          simp; omega
theorem split_len : ∀ u : List Nat, (AlBase.split 32 u).length ≤ u.length + 1
  | [] => by decide
  | a :: u => by
    have ih := split_len u
    rw [AlBase.split]
    split
    · simp; exact ih
    · split
      · simp
      · rename_i w r hs
        rw [hs] at ih
        simp at ih ⊢; omega
def Nls (H : Hp) : List Addr → List (List Nat) → Prop
  | [], [] => True
  | b :: bs, l :: ls => H b = some (.lst (nis l)) ∧ Nls H bs ls
  | _, _ => False
section
variable {H H' : Hp}
theorem Nls.same (e : Same H H') : ∀ {bs : List Addr} {ls : List (List Nat)}, Nls H bs ls → Nls H' bs ls
  | [], [], _ => trivial
  | _ :: _, _ :: _, h => ⟨e _ _ h.1, Nls.same e h.2⟩
  | [], _ :: _, h => h.elim
  | _ :: _, [], h => h.elim
theorem Nls.len : ∀ {bs : List Addr} {ls : List (List Nat)}, Nls H bs ls → bs.length = ls.length
  | [], [], _ => rfl
  | _ :: _, _ :: _, h => by rw [List.length_cons, List.length_cons, Nls.len h.2]
  | [], _ :: _, h => h.elim
  | _ :: _, [], h => h.elim
theorem Nls.snoc : ∀ {bs : List Addr} {ls : List (List Nat)} {b : Addr} {l : List Nat}, Nls H bs ls → H b = some (.lst (nis l)) → Nls H (bs ++ [b]) (ls ++ [l])
  | [], [], _, _, _, h2 => ⟨h2, trivial⟩
  | _ :: _, _ :: _, _, _, h, h2 => ⟨h.1, Nls.snoc h.2 h2⟩
  | [], _ :: _, _, _, h, _ => h.elim
  | _ :: _, [], _, _, h, _ => h.elim
theorem Nls.get : ∀ {bs : List Addr} {ls : List (List Nat)} {i : Nat} {l : List Nat}, Nls H bs ls → ls[i]? = some l → ∃ b, bs[i]? = some b ∧ H b = some (.lst (nis l))
  | b :: _, l :: _, 0, m, h, e => by
    have e' := Option.some.inj e
    subst e'
    exact ⟨b, rfl, h.1⟩
  | _ :: bs, _ :: ls, i + 1, m, h, e => Nls.get (bs := bs) (ls := ls) (i := i) h.2 e
  | [], [], _, _, _, e => by simp at e
  | [], _ :: _, _, _, h, _ => h.elim
  | _ :: _, [], _, _, h, _ => h.elim
theorem Nls.isL : ∀ {bs : List Addr} {ls : List (List Nat)} {b : Addr}, Nls H bs ls → b ∈ bs → ∃ ws, H b = some (.lst ws)
  | c :: bs, l :: ls, b, h, hb => by
    rcases List.mem_cons.mp hb with e | e
    · subst e; exact ⟨_, h.1⟩
    · exact Nls.isL (bs := bs) (ls := ls) h.2 e
  | [], [], _, _, hb => by cases hb
  | [], _ :: _, _, h, _ => h.elim
  | _ :: _, [], _, h, _ => h.elim
theorem Nls.updN {D : Addr} {o : HO} : ∀ {bs : List Addr} {ls : List (List Nat)}, D ∉ bs → Nls H bs ls → Nls (upd H D o) bs ls
  | [], [], _, _ => trivial
  | b :: bs, _ :: ls, hn, h => ⟨by rw [upd_ne (fun e => hn (by rw [e]; exact List.mem_cons_self))]; exact h.1, Nls.updN (fun e => hn (List.mem_cons_of_mem _ e)) h.2⟩
  | [], _ :: _, _, h => h.elim
  | _ :: _, [], _, h => h.elim
end
section
variable {P : Program} {w : World} {K : PySem.W.Frag} {mg : Str → Option Value} {base : Heap}
def spPieces (K : PySem.W.Frag) : Sp := fun vs H Q _ => ∃ (a : Addr) (u : List Nat), vs = [.ref a] ∧ SqL K H a (nis u) ∧ u.length ≤ 1000 ∧
  ∀ H' r bs, Same H H' → H' r = some (.lst (bs.map V.ref)) → Nls H' bs (AlBase.split 32 u) → Q (.ref r) H'
theorem ok_pieces_of (T : Txt K mg) : FnOk P w K mg base CX0 1 T.f_pieces_of T.e_pieces_of ["text"] (spPieces K) := by
  obtain ⟨t1, g1⟩ := T.g_BLANK
  refine T.d_pieces_of.F.ok sc_pieces_of (fun vs H Q E h => ?_) (fun cdv A outer s H vs Q E hr h => ?_)
  · obtain ⟨a, u, rfl, _⟩ := h
    rfl
  · obtain ⟨a, u, rfl, ha, hu, q⟩ := h
    refine ⟨_, pss_cons (ps_set (i := 1) sc_pieces_of.nd rfl (.inl rfl) (pe_lst (pa_cons (pe_lst pa_nil) pa_nil)))
      (pss_cons (ps_for PassesOwn.never rfl (pi_list (pv 0)) (pg_name (i := 2) sc_pieces_of.nd rfl (.inl rfl))
        (pss_one (ps_if (pt_cmpR op_eq (pv 2) (pe_glob (v := .int 32) (by rfl) g1 ⟨_, rfl⟩) (nomark _))
          (pss_one (ps_expr (pe_bm PySem.F.plainAttrs_list PySem.F.slot_list_append PySem.F.type_list_append mt_append (pv 1) (pa_cons (pe_lst pa_nil) pa_nil))))
          (pss_one (ps_expr (pe_bm PySem.F.plainAttrs_list PySem.F.slot_list_append PySem.F.type_list_append mt_append (pe_ix ix_list (pv 1) (pe_un un_neg pe_int) (fun _ _ => rfl)) (pa_cons (pv 2) pa_nil)))))))
      (pss_one (ps_ret (pv 1)))), ?_⟩
    refine ⟨Nat.zero_le _, fun I nI => ?_⟩
    have s1 := same_upd (o := .lst []) nI
    have hI1 : (upd H I (.lst [])) I = some (.lst []) := upd_same
    generalize upd H I (.lst []) = H1 at s1 hI1
    refine ⟨(by show 1 ≤ sizeLine; decide), fun R nR => ?_⟩
    have s2 := same_upd (o := .lst [.ref I]) nR
    have hR2 : (upd H1 R (.lst [.ref I])) R = some (.lst [.ref I]) := upd_same
    have hI2 := s2 _ _ hI1
    generalize upd H1 R (.lst [.ref I]) = H2 at s2 hR2 hI2
    have s12 := s1.trans s2
    have hIR : I ≠ R := by intro e; rw [e] at hI1; rw [hI1] at nR; cases nR
    have nRH := s1.free nR
    refine ⟨_, rfl, a, rfl, ⟨_, s12.seq ha⟩, ?_⟩
    refine for_list (K := K) (a := a) (xs := nis u) (fun i σ H' => ∃ (y2 : Option V) (bs : List Addr) (last : Addr) (ls : List (List Nat)) (l : List Nat), σ = [some (.ref a), some (.ref R), y2] ∧ Same H H' ∧ H' R = some (.lst ((bs ++ [last]).map V.ref)) ∧
        last ∉ bs ∧ (∀ b ∈ bs ++ [last], H b = none ∧ b ≠ R) ∧ Nls H' bs ls ∧ H' last = some (.lst (nis l)) ∧ AlBase.split 32 (u.take i) = ls ++ [l] ∧ bs.length ≤ i ∧ l.length ≤ i)
      ⟨none, [], I, [], [], rfl, s12, hR2, by simp, by
        intro b hb
        have hb : b = I := by simpa using hb
        rw [hb]; exact ⟨nI, hIR⟩, trivial, hI2, rfl, Nat.le_refl _, Nat.le_refl _⟩ (fun i σ H' _ h => by obtain ⟨_, _, _, _, _, _, sm, _⟩ := h; exact sm.seq ha) ?_ ?_
    · rintro i v σ H' hv ⟨y2, bs, last, ls, l, rfl, sm, hR, hnd, hbs, hN, hl, hsp, hbl, hll⟩
      rw [List.getElem?_map] at hv
      obtain ⟨x, hx, rfl⟩ := Option.map_eq_some_iff.mp hv
      have hi : i < u.length := (List.getElem?_eq_some_iff.mp hx).1
      have htk : u.take (i + 1) = u.take i ++ [x] := by rw [List.take_add_one, hx]; rfl
      have hlast := hbs last (by simp)
      refine ⟨_, rfl, rfl, _, rfl, ?_⟩
      by_cases h32 : x = 32
      · have : decide (V.int (x : Int) = V.int 32) = true := by rw [h32]; rfl
        rw [this]
        refine iteT ?_
        refine ⟨_, rfl, .inl ⟨rfl, _, SqL.of hR⟩, Nat.zero_le _, fun N nN => ?_⟩
        have s3 := same_upd (o := .lst []) nN
        have hN3 : (upd H' N (.lst [])) N = some (.lst []) := upd_same
        generalize upd H' N (.lst []) = H3 at s3 hN3
        have hNR : N ≠ R := by intro e; rw [e, hR] at nN; cases nN
        have hNbs : N ∉ bs ++ [last] := by
          intro e
          obtain ⟨ws, e2⟩ := (hN.snoc hl).isL e
          rw [nN] at e2; cases e2
        refine ⟨R, _, _, rfl, rfl, s3 _ _ hR, ?_, ?_⟩
        · rw [List.length_map, List.length_append]
          have := big_line
          simp; omega
        · refine ⟨_, bs ++ [last], N, ls ++ [l], [], rfl, fun b' o e => ?_, ?_, hNbs, ?_, ?_, ?_, ?_, ?_, by simp⟩
          · rw [upd_ne (ne_of_none e nRH)]; exact s3 _ _ (sm _ _ e)
          · rw [upd_same, List.map_append (l₁ := bs ++ [last])]; rfl
          · intro b hb
            rcases List.mem_append.mp hb with h1 | h1
            · exact hbs b h1
            · rw [List.mem_singleton] at h1
              rw [h1]; exact ⟨sm.free nN, hNR⟩
          · exact Nls.updN (fun e => (hbs R e).2 rfl) ((hN.snoc hl).same s3)
          · rw [upd_ne hNR]; exact hN3
          · rw [htk, h32, split_snoc_sep, hsp]
          · rw [List.length_append]; simp; omega
      · have : decide (V.int (x : Int) = V.int 32) = false := by
          rw [decide_eq_false]
          intro e
          have := V.int.inj e
          omega
        rw [this]
        refine iteF ?_
        have hat : atI ((bs ++ [last]).map V.ref) (-1) = some (.ref last) := by rw [List.map_append]; exact atI_last _ _
        refine ⟨_, rfl, 1, rfl, R, _, -1, _, rfl, rfl, SqL.of hR, hat, .inl ⟨rfl, _, SqL.of hl⟩, _, rfl, last, _, _, rfl, rfl, hl, ?_, ?_⟩
        · rw [List.length_map]
          have := big_line
          omega
        · obtain ⟨ls', l', e1, e2⟩ := split_snoc h32 (u.take i)
          rw [hsp] at e1
          have e3 := List.append_inj' e1 rfl
          obtain ⟨e4, e5⟩ := e3
          have e6 : l = l' := List.singleton_inj.mp e5
          subst e4 e6
          refine ⟨_, bs, last, ls, l ++ [x], rfl, fun b' o e => ?_, ?_, hnd, hbs, ?_, ?_, ?_, by omega, by rw [List.length_append]; simp; omega⟩
          · rw [upd_ne (ne_of_none e hlast.1)]; exact sm _ _ e
          · rw [upd_ne (fun e => hlast.2 e.symm)]; exact hR
          · exact Nls.updN hnd hN
          · rw [upd_same]; unfold nis; rw [List.map_append]; rfl
          · rw [htk, e2]
    · rintro σ H' ⟨y2, bs, last, ls, l, rfl, sm, hR, hnd, hbs, hN, hl, hsp, hbl, hll⟩
      rw [List.length_map, List.take_length] at hsp
      refine ⟨_, rfl, q H' R (bs ++ [last]) sm hR ?_⟩
      rw [hsp]; exact hN.snoc hl
/-! signed pieces -/
def Sgs (K : PySem.W.Frag) (H : Hp) (N : Addr → Prop) : List V → List (Bool × List Nat) → Prop
  | [], [] => True
  | v :: vs, x :: xs => (∃ p b, v = .ref p ∧ SqT K H p [.bl x.1, .ref b] ∧ N b ∧ H b = some (.lst (nis x.2))) ∧ Sgs K H N vs xs
  | _, _ => False
theorem Sgs.imp {K : PySem.W.Frag} {H H' : Hp} {N : Addr → Prop} (f : ∀ p xs, SqT K H p xs → SqT K H' p xs) (g : ∀ b l, N b → H b = some (.lst l) → H' b = some (.lst l)) : ∀ {vs : List V} {xs : List (Bool × List Nat)}, Sgs K H N vs xs → Sgs K H' N vs xs
  | [], [], _ => trivial
  | _ :: _, _ :: _, h => by
    obtain ⟨⟨p, b, h1, h2, h3, h4⟩, h5⟩ := h
    exact ⟨⟨p, b, h1, f _ _ h2, h3, g _ _ h3 h4⟩, Sgs.imp f g h5⟩
  | [], _ :: _, h => h.elim
  | _ :: _, [], h => h.elim
theorem Sgs.same {K : PySem.W.Frag} {H H' : Hp} {N : Addr → Prop} (e : Same H H') {vs : List V} {xs : List (Bool × List Nat)} (h : Sgs K H N vs xs) : Sgs K H' N vs xs := h.imp (fun _ _ h => Same.seqT e h) (fun _ _ _ h => e _ _ h)
theorem Sgs.len {K : PySem.W.Frag} {H : Hp} {N : Addr → Prop} : ∀ {vs : List V} {xs : List (Bool × List Nat)}, Sgs K H N vs xs → vs.length = xs.length
  | [], [], _ => rfl
  | _ :: _, _ :: _, h => by rw [List.length_cons, List.length_cons, Sgs.len h.2]
  | [], _ :: _, h => h.elim
  | _ :: _, [], h => h.elim
theorem Sgs.snoc {K : PySem.W.Frag} {H : Hp} {N : Addr → Prop} {v : V} {x : Bool × List Nat} (h2 : ∃ p b, v = .ref p ∧ SqT K H p [.bl x.1, .ref b] ∧ N b ∧ H b = some (.lst (nis x.2))) : ∀ {vs : List V} {xs : List (Bool × List Nat)}, Sgs K H N vs xs → Sgs K H N (vs ++ [v]) (xs ++ [x])
  | [], [], _ => ⟨h2, trivial⟩
  | _ :: _, _ :: _, h => ⟨h.1, Sgs.snoc h2 h.2⟩
  | [], _ :: _, h => h.elim
  | _ :: _, [], h => h.elim
theorem Sgs.get {K : PySem.W.Frag} {H : Hp} {N : Addr → Prop} : ∀ {vs : List V} {xs : List (Bool × List Nat)} {i : Nat} {v : V}, Sgs K H N vs xs → vs[i]? = some v → ∃ x p b, xs[i]? = some x ∧ v = .ref p ∧ SqT K H p [.bl x.1, .ref b] ∧ H b = some (.lst (nis x.2))
  | _ :: _, x :: _, 0, v, h, e => by
    have e' := Option.some.inj e
    subst e'
    obtain ⟨⟨p, b, h1, h2, h3, h4⟩, _⟩ := h
    exact ⟨x, p, b, rfl, h1, h2, h4⟩
  | _ :: vs, _ :: l, i + 1, v, h, e => Sgs.get (vs := vs) (xs := l) (i := i) h.2 e
  | [], [], _, _, _, e => by simp at e
  | [], _ :: _, _, _, h, _ => h.elim
  | _ :: _, [], _, _, h, _ => h.elim
theorem Sgs.updN {K : PySem.W.Frag} {H : Hp} {N : Addr → Prop} {D : Addr} {us ws : List V} (hD : H D = some (.lst us)) (hN : ∀ b, N b → b ≠ D) {vs : List V} {xs : List (Bool × List Nat)} (h : Sgs K H N vs xs) : Sgs K (upd H D (.lst ws)) N vs xs :=
  h.imp (fun _ _ h => SqT.updL hD h) (fun b l hb h => by rw [upd_ne (hN b hb)]; exact h)
/-- signed pieces, or none -/
def OptG (K : PySem.W.Frag) (H : Hp) (v : V) : Option (List (Bool × List Nat)) → Prop
  | none => v = .non
  | some l => ∃ p ws, v = .ref p ∧ H p = some (.lst ws) ∧ Sgs K H (fun _ => True) ws l
theorem Sgs.mono {K : PySem.W.Frag} {H : Hp} {N N' : Addr → Prop} (hN : ∀ b, N b → N' b) : ∀ {vs : List V} {xs : List (Bool × List Nat)}, Sgs K H N vs xs → Sgs K H N' vs xs
  | [], [], _ => trivial
  | _ :: _, _ :: _, h => by
    obtain ⟨⟨p, b, h1, h2, h3, h4⟩, h5⟩ := h
    exact ⟨⟨p, b, h1, h2, hN _ h3, h4⟩, Sgs.mono hN h5⟩
  | [], _ :: _, h => h.elim
  | _ :: _, [], h => h.elim
theorem flatP_len (r : List (Bool × List Nat)) : (Ma.flatP r).length = 2 * r.length := by
  induction r with
  | nil => rfl
  | cons x r ih =>
    show ([Ma.sgnP x.1, x.2] ++ Ma.flatP r).length = _
    rw [List.length_append, ih]; simp; omega
theorem flatP_get : ∀ {r : List (Bool × List Nat)} {t : Nat} {x : Bool × List Nat}, r[t]? = some x → (Ma.flatP r)[2 * t]? = some (Ma.sgnP x.1) ∧ (Ma.flatP r)[2 * t + 1]? = some x.2
  | y :: r, 0, x, h => by
    have e := Option.some.inj h
    subst e; exact ⟨rfl, rfl⟩
  | y :: r, t + 1, x, h => by
    have ih := flatP_get (r := r) (t := t) (by simpa using h)
    have e : Ma.flatP (y :: r) = Ma.sgnP y.1 :: y.2 :: Ma.flatP r := rfl
    rw [e, show 2 * (t + 1) = 2 * t + 1 + 1 by omega]
    simpa using ih
  | [], t, x, h => by simp at h
theorem flatP_snoc (r : List (Bool × List Nat)) (x : Bool × List Nat) : Ma.flatP (r ++ [x]) = Ma.flatP r ++ [Ma.sgnP x.1, x.2] := by
  unfold Ma.flatP
  rw [List.flatMap_append]; simp
theorem rgc_two {t m : Nat} (h : m = 2 * t + 1) (hm : m ≤ 2000) : RgC 1 (m : Int) 2 t := by
  have e : Builtin.Range.rangeSize 1 (m : Int) 2 = (t : Int) := by
    unfold Builtin.Range.rangeSize
    rw [if_pos (by decide)]
    split <;> omega
  refine ⟨by decide, by decide, ?_, e⟩
  have fl : ∀ i : Int, -100000 ≤ i → i ≤ 100000 → Builtin.Range.rangeFitsLong i = true := by
    intro i h1 h2
    unfold Builtin.Range.rangeFitsLong
    rw [Bool.and_eq_true, decide_eq_true_eq, decide_eq_true_eq]
    exact ⟨Int.le_trans (by decide) h1, Int.lt_of_le_of_lt h2 (by decide)⟩
  unfold Builtin.Range.small
  rw [e]
  simp only [fl 1 (by decide) (by decide), fl (m : Int) (by omega) (by omega), fl 2 (by decide) (by decide), Bool.true_and]
  rw [if_pos (by decide), fl (t : Int) (by omega) (by omega), fl _ (by omega) (by omega), Bool.or_true]; rfl
def spSigned (K : PySem.W.Frag) : Sp := fun vs H Q _ => ∃ (a : Addr) (u : List Nat), vs = [.ref a] ∧ SqL K H a (nis u) ∧ u.length ≤ 1000 ∧ ∀ H' v, Same H H' → OptG K H' v (Ma.signedM u) → Q v H'
theorem ok_signed_pieces (T : Txt K mg) : FnOk P w K mg base CX0 2 T.f_signed_pieces T.e_signed_pieces ["text"] (spSigned K) := by
  obtain ⟨t1, g1⟩ := T.g_MINUS
  obtain ⟨t2, g2⟩ := T.g_PLUS
  refine T.d_signed_pieces.F.ok sc_signed_pieces (fun vs H Q E h => ?_) (fun cdv A outer s H vs Q E hr h => ?_)
  · obtain ⟨a, u, rfl, _⟩ := h
    rfl
  · obtain ⟨a, u, rfl, ha, hu, q⟩ := h
    refine ⟨_, pss_cons (ps_set (i := 1) sc_signed_pieces.nd rfl (.inl rfl) (pe_D T.d_pieces_of (ok_pieces_of T) hr (pa_cons (pv 0) pa_nil)))
      (pss_cons (ps_set (i := 2) sc_signed_pieces.nd rfl (.inl rfl) (pe_ix ix_list (pv 1) pe_int (fun _ _ => rfl)))
      (pss_cons (ps_set (i := 3) sc_signed_pieces.nd rfl (.inl rfl) (pe_lst (pa_cons (pe_ifExp (pt_cmpR (op_eqD (hu64 hr)) (pe_slice sl_list (pv 2) po_none (po_some pe_int)) (pe_lst (pa_cons (pe_glob (v := .int 45) (by rfl) g1 ⟨_, rfl⟩) pa_nil)) (nomark _))
          (pe_tup (pa_cons pe_bl (pa_cons (pe_slice sl_list (pv 2) (po_some pe_int) po_none) pa_nil))) (pe_tup (pa_cons pe_bl (pa_cons (pv 2) pa_nil)))) pa_nil)))
      (pss_cons (ps_if (pt_cmpR op_eq (pe_op op_mod (pe_callB call_len_seq (by rfl) T.z_len PySem.boot_len (pa_cons (pv 1) pa_nil)) pe_int) pe_int (nomark _)) (pss_one (ps_ret pe_non)) pss_nil)
      (pss_cons (ps_for PassesOwn.never rfl (pi_range3 (by rfl) T.z_range (pa_cons pe_int (pa_cons (pe_callB call_len_seq (by rfl) T.z_len PySem.boot_len (pa_cons (pv 1) pa_nil)) (pa_cons pe_int pa_nil)))) (pg_name (i := 4) sc_signed_pieces.nd rfl (.inl rfl))
        (pss_cons (ps_if ((pw_and (pt_cmpR (op_neD (hu64 hr)) (pe_ix ix_list (pv 1) (pv 4) (fun _ _ => rfl)) (pe_lst (pa_cons (pe_glob (v := .int 43) (by rfl) g2 ⟨_, rfl⟩) pa_nil)) (nomark _)) (pw_and1 (pt_cmpR (op_neD (hu64 hr)) (pe_ix ix_list (pv 1) (pv 4) (fun _ _ => rfl)) (pe_lst (pa_cons (pe_glob (v := .int 45) (by rfl) g1 ⟨_, rfl⟩) pa_nil)) (nomark _)))).pt) (pss_one (ps_ret pe_non)) pss_nil)
        (pss_one (ps_expr (pe_bm PySem.F.plainAttrs_list PySem.F.slot_list_append PySem.F.type_list_append mt_append (pv 3) (pa_cons
          (pe_tup (pa_cons (pe_cmpR (op_eqD (hu64 hr)) (pe_ix ix_list (pv 1) (pv 4) (fun _ _ => rfl)) (pe_lst (pa_cons (pe_glob (v := .int 45) (by rfl) g1 ⟨_, rfl⟩) pa_nil)) (nomark _)) (pa_cons (pe_ix ix_list (pv 1) (pe_op op_add (pv 4) pe_int) (fun _ _ => rfl)) pa_nil))) pa_nil))))))
      (pss_one (ps_ret (pv 3))))))), ?_⟩
    refine ⟨_, rfl, a, u, rfl, ha, hu, fun H1 B bs s1 hB hN => ?_⟩
    have hbl := hN.len
    have hspl := split_len u
    have hpl : ∀ p ∈ AlBase.split 32 u, p.length ≤ 1000 := fun p hp => by have := piece_len hp; omega
    obtain ⟨w0, l, hsp⟩ : ∃ w0 l, AlBase.split 32 u = w0 :: l := by
      cases hh : AlBase.split 32 u with
      | nil => exact absurd hh (Ma.split_ne 32 u)
      | cons w0 l => exact ⟨w0, l, rfl⟩
    have hsm : Ma.signedM u = (Ma.moreM l).map fun r => (if w0.take 1 = [45] then (true, w0.drop 1) else (false, w0)) :: r := by
      unfold Ma.signedM; rw [hsp]
    have hbl2 : bs.length = l.length + 1 := by rw [hbl, hsp]; rfl
    obtain ⟨b0, hb0, hw0⟩ := hN.get (i := 0) (l := w0) (by rw [hsp]; rfl)
    refine ⟨_, rfl, B, _, 0, .ref b0, rfl, rfl, SqL.of hB, atI_nat (j := 0) (by rw [List.getElem?_map, hb0]; rfl), ?_⟩
    refine ⟨_, rfl, 1, rfl, b0, _, rfl, SqL.of hw0, fun p1 n1 => ?_⟩
    rw [show cutV (nis w0) none (some 1) = (nis w0).take 1 from cut_to (c := 1)]
    have s2 := same_upd (o := .lst ((nis w0).take 1)) n1
    have h1 : SqL K (upd H1 p1 (.lst ((nis w0).take 1))) p1 (nis (w0.take 1)) := SqL.of (by rw [upd_same]; unfold nis; rw [List.map_take])
    generalize upd H1 p1 (.lst ((nis w0).take 1)) = H2 at s2 h1
    refine ⟨(by show 1 ≤ sizeLine; decide), fun p2 n2 => ?_⟩
    have s3 := same_upd (o := .lst [.int 45]) n2
    have h2 : SqL K (upd H2 p2 (.lst [.int 45])) p2 (nis [45]) := SqL.of upd_same
    have h12 := s3.seq h1
    generalize upd H2 p2 (.lst [.int 45]) = H3 at s3 h2 h12
    have s13 := s2.trans s3
    refine ⟨_, _, dp_nis h12, dp_nis h2, shaped_datN _, shaped_datN _, _, rfl, ?_⟩
    rw [eqv_datN]
    generalize hx0 : (if w0.take 1 = [45] then (true, w0.drop 1) else (false, w0)) = x0 at hsm
    refine ite2 (fun c45 => ?_) (fun c45 => ?_)
    · have c45 : w0.take 1 = [45] := of_decide_eq_true c45
      rw [if_pos c45] at hx0
      refine ⟨_, rfl, 1, rfl, b0, _, rfl, SqL.of (s13 _ _ hw0), fun p3 n3 => ?_⟩
      rw [show cutV (nis w0) (some 1) none = (nis w0).drop 1 from cut_from (c := 1)]
      have s4 := same_upd (o := .lst ((nis w0).drop 1)) n3
      have h3 : (upd H3 p3 (.lst ((nis w0).drop 1))) p3 = some (.lst (nis (w0.drop 1))) := by rw [upd_same]; unfold nis; rw [List.map_drop]
      generalize upd H3 p3 (.lst ((nis w0).drop 1)) = H3b at s4 h3
      refine ⟨(by show 2 ≤ sizeLine; decide), fun pt nt => ?_⟩
      have s5 := same_upd (o := .tup [.bl true, .ref p3]) nt
      have h5 : SqT K (upd H3b pt (.tup [.bl true, .ref p3])) pt [.bl true, .ref p3] := SqT.of upd_same
      have h3' := s5 _ _ h3
      generalize upd H3b pt (.tup [.bl true, .ref p3]) = H3c at s5 h5 h3'
      refine ⟨(by show 1 ≤ sizeLine; decide), fun R nRc => ?_⟩
      have s6 := same_upd (o := .lst [.ref pt]) nRc
      have hR4 : (upd H3c R (.lst [.ref pt])) R = some (.lst [.ref pt]) := upd_same
      have h5' := Same.seqT s6 h5
      have h3R : p3 ≠ R := by intro e; rw [e] at h3'; rw [h3'] at nRc; cases nRc
      have h3'' := s6 _ _ h3'
      generalize upd H3c R (.lst [.ref pt]) = H4 at s6 hR4 h5' h3''
      have s14 : Same H1 H4 := s13.trans (s4.trans (s5.trans s6))
      have nR : H1 R = none := s13.free (s4.free (s5.free nRc))
      have hv0 : ∃ p b, V.ref pt = .ref p ∧ SqT K H4 p [.bl x0.1, .ref b] ∧ b ≠ R ∧ H4 b = some (.lst (nis x0.2)) := by
        rw [← hx0]; exact ⟨pt, p3, rfl, h5', h3R, h3''⟩
      generalize V.ref pt = v0 at hR4 hv0
      refine ⟨_, rfl, B, _, rfl, .inl (SqL.of (s14 _ _ hB)), _, _, rfl, rfl, (by show (0 : Int) < 2; decide), rfl, _, rfl, ?_⟩
      have hlenI : (((bs.map V.ref).length : Nat) : Int) = ((l.length + 1 : Nat) : Int) := by rw [List.length_map, hbl2]
      by_cases hev : (l.length + 1) % 2 = 0
      · have : decide (V.int ((((bs.map V.ref).length : Nat) : Int) % 2) = V.int 0) = true := by
          rw [hlenI]
          exact decide_eq_true (by rw [show (((l.length + 1 : Nat) : Int)) % 2 = 0 by omega])
        rw [this]
        refine iteT ?_
        refine q H4 .non (s1.trans s14) ?_
        have hm : Ma.moreM l = none := by
          cases hh : Ma.moreM l with
          | none => rfl
          | some r =>
            have := congrArg List.length (Ma.moreM_iff.mp hh)
            rw [flatP_len] at this
            omega
        rw [hsm, hm]; rfl
      · have : decide (V.int ((((bs.map V.ref).length : Nat) : Int) % 2) = V.int 0) = false := by
          rw [hlenI, decide_eq_false]
          intro e
          have := V.int.inj e
          omega
        rw [this]
        refine iteF ?_
        obtain ⟨t0, ht0⟩ : ∃ t0, l.length = 2 * t0 := ⟨l.length / 2, by omega⟩
        have hl1000 : l.length + 1 ≤ 1001 := by
          have := hspl
          rw [hsp] at this
          simp at this; omega
        refine ⟨_, rfl, B, _, rfl, .inl (SqL.of (s14 _ _ hB)), _, _, _, t0, rfl, (by rw [hlenI]; exact rgc_two (by omega) (by omega)), ?_⟩
        refine for_rangeC (lo := 1) (c := 2) (n := t0) (fun t σ H' => ∃ (y4 : Option V) (ws : List V) (r : List (Bool × List Nat)), σ = [some (.ref a), some (.ref B), some (.ref b0), some (.ref R), y4] ∧ Same H1 H' ∧ H' R = some (.lst ws) ∧ Sgs K H' (fun b => b ≠ R) ws (x0 :: r) ∧ l.take (2 * t) = Ma.flatP r ∧ r.length = t)
          ⟨none, [v0], [], rfl, s14, hR4, ⟨hv0, trivial⟩, rfl, rfl⟩ ?_ ?_
        · rintro t σ H' ht ⟨y4, ws, r, rfl, sm, hR, hS, hrl, hrt⟩
          have ei : (1 : Int) + ((t : Nat) : Int) * 2 = ((2 * t + 1 : Nat) : Int) := by omega
          have ei2 : ((2 * t + 1 : Nat) : Int) + 1 = ((2 * t + 1 + 1 : Nat) : Int) := by omega
          rw [ei]
          have hi1 : 2 * t < l.length := by omega
          have hi2 : 2 * t + 1 < l.length := by omega
          have hl1 := List.getElem?_eq_getElem hi1
          have hl2 := List.getElem?_eq_getElem hi2
          generalize l[2 * t] = sg at hl1
          generalize l[2 * t + 1] = wd at hl2
          obtain ⟨b1, hb1, hsg⟩ := hN.get (i := 2 * t + 1) (l := sg) (by rw [hsp]; simpa using hl1)
          obtain ⟨b2, hb2, hwd⟩ := hN.get (i := 2 * t + 1 + 1) (l := wd) (by rw [hsp]; simpa using hl2)
          have hget1 : (bs.map V.ref)[2 * t + 1]? = some (.ref b1) := by rw [List.getElem?_map, hb1]; rfl
          have hget2 : (bs.map V.ref)[2 * t + 1 + 1]? = some (.ref b2) := by rw [List.getElem?_map, hb2]; rfl
          refine ⟨_, rfl, _, rfl, B, _, _, _, rfl, rfl, SqL.of (sm _ _ hB), atI_nat hget1, (by show 1 ≤ sizeLine; decide), fun p4 n4 => ?_⟩
          have s4 := same_upd (o := .lst [.int 43]) n4
          have h4 : SqL K (upd H' p4 (.lst [.int 43])) p4 (nis [43]) := SqL.of upd_same
          generalize upd H' p4 (.lst [.int 43]) = HX at s4 h4
          have sX := s4
          refine ⟨_, _, dp_nis (SqL.of (s4 _ _ (sm _ _ hsg))), dp_nis h4, shaped_datN _, shaped_datN _, _, rfl, ?_⟩
          rw [eqv_datN]
          by_cases h43 : sg = [43]
          · rw [decide_eq_true h43]
            refine iteF (iteF ?_)
            have hsgn : Ma.sgnP (decide (sg = [45])) = sg := by rw [h43]; rfl
            refine ⟨_, rfl, .inl ⟨rfl, _, SqL.of (sX _ _ hR)⟩, _, rfl, _, rfl, B, _, _, _, rfl, rfl, SqL.of (sX _ _ (sm _ _ hB)), atI_nat hget1, (by show 1 ≤ sizeLine; decide), fun p6 n6 => ?_⟩
            have s6 := same_upd (o := .lst [.int 45]) n6
            have h6 : SqL K (upd HX p6 (.lst [.int 45])) p6 (nis [45]) := SqL.of upd_same
            generalize upd HX p6 (.lst [.int 45]) = H6 at s6 h6
            have sX6 := sX.trans s6
            refine ⟨_, _, dp_nis (SqL.of (sX6 _ _ (sm _ _ hsg))), dp_nis h6, shaped_datN _, shaped_datN _, ?_⟩
            rw [eqv_datN]
            refine ⟨_, rfl, _, rfl, _, _, rfl, rfl, B, _, _, _, rfl, rfl, SqL.of (sX6 _ _ (sm _ _ hB)), (by rw [ei2]; exact atI_nat hget2), (by show 2 ≤ sizeLine; decide), fun p7 n7 => ?_⟩
            have s7 := same_upd (o := .tup [.bl (decide (sg = [45])), .ref b2]) n7
            have h7 : SqT K (upd H6 p7 (.tup [.bl (decide (sg = [45])), .ref b2])) p7 [.bl (decide (sg = [45])), .ref b2] := SqT.of upd_same
            generalize upd H6 p7 (.tup [.bl (decide (sg = [45])), .ref b2]) = H7 at s7 h7
            have sX7 := sX6.trans s7
            have hR7 := sX7 _ _ hR
            have hb2R : b2 ≠ R := by intro e; rw [e] at hwd; rw [hwd] at nR; cases nR
            refine ⟨R, _, _, rfl, rfl, hR7, ?_, ?_⟩
            · rw [hS.len, List.length_cons, hrt]
              have := big_line
              omega
            · refine ⟨_, _, r ++ [(decide (sg = [45]), wd)], rfl, fun b' o e => ?_, upd_same, ?_, ?_, ?_⟩
              · rw [upd_ne (ne_of_none e nR)]; exact sX7 _ _ (sm _ _ e)
              · rw [← List.cons_append]
                exact ((hS.same sX7).snoc ⟨p7, b2, rfl, h7, hb2R, sX7 _ _ (sm _ _ hwd)⟩).updN hR7 (fun _ h => h)
              · rw [show 2 * (t + 1) = 2 * t + 1 + 1 by omega, List.take_add_one, List.take_add_one, hl1, hl2, flatP_snoc, hrl, List.append_assoc]
                have : Ma.sgnP (decide (sg = [45])) = sg := hsgn
                rw [this]; rfl
              · rw [List.length_append, hrt]; rfl
          · rw [decide_eq_false h43]
            refine iteT ?_
            refine ⟨_, rfl, _, rfl, B, _, _, _, rfl, rfl, SqL.of (s4 _ _ (sm _ _ hB)), atI_nat hget1, (by show 1 ≤ sizeLine; decide), fun p5 n5 => ?_⟩
            have s5 := same_upd (o := .lst [.int 45]) n5
            have h5 : SqL K (upd HX p5 (.lst [.int 45])) p5 (nis [45]) := SqL.of upd_same
            generalize upd HX p5 (.lst [.int 45]) = HY at s5 h5
            refine ⟨_, _, dp_nis (SqL.of (s5 _ _ (s4 _ _ (sm _ _ hsg)))), dp_nis h5, shaped_datN _, shaped_datN _, _, rfl, ?_⟩
            rw [eqv_datN]
            by_cases h45 : sg = [45]
            · rw [decide_eq_true h45]
              refine iteF ?_
              have hsgn : Ma.sgnP (decide (sg = [45])) = sg := by rw [h45]; rfl
              have sX := s4.trans s5
              generalize HY = HX at sX
              refine ⟨_, rfl, .inl ⟨rfl, _, SqL.of (sX _ _ hR)⟩, _, rfl, _, rfl, B, _, _, _, rfl, rfl, SqL.of (sX _ _ (sm _ _ hB)), atI_nat hget1, (by show 1 ≤ sizeLine; decide), fun p6 n6 => ?_⟩
              have s6 := same_upd (o := .lst [.int 45]) n6
              have h6 : SqL K (upd HX p6 (.lst [.int 45])) p6 (nis [45]) := SqL.of upd_same
              generalize upd HX p6 (.lst [.int 45]) = H6 at s6 h6
              have sX6 := sX.trans s6
              refine ⟨_, _, dp_nis (SqL.of (sX6 _ _ (sm _ _ hsg))), dp_nis h6, shaped_datN _, shaped_datN _, ?_⟩
              rw [eqv_datN]
              refine ⟨_, rfl, _, rfl, _, _, rfl, rfl, B, _, _, _, rfl, rfl, SqL.of (sX6 _ _ (sm _ _ hB)), (by rw [ei2]; exact atI_nat hget2), (by show 2 ≤ sizeLine; decide), fun p7 n7 => ?_⟩
              have s7 := same_upd (o := .tup [.bl (decide (sg = [45])), .ref b2]) n7
              have h7 : SqT K (upd H6 p7 (.tup [.bl (decide (sg = [45])), .ref b2])) p7 [.bl (decide (sg = [45])), .ref b2] := SqT.of upd_same
              generalize upd H6 p7 (.tup [.bl (decide (sg = [45])), .ref b2]) = H7 at s7 h7
              have sX7 := sX6.trans s7
              have hR7 := sX7 _ _ hR
              have hb2R : b2 ≠ R := by intro e; rw [e] at hwd; rw [hwd] at nR; cases nR
              refine ⟨R, _, _, rfl, rfl, hR7, ?_, ?_⟩
              · rw [hS.len, List.length_cons, hrt]
                have := big_line
                omega
              · refine ⟨_, _, r ++ [(decide (sg = [45]), wd)], rfl, fun b' o e => ?_, upd_same, ?_, ?_, ?_⟩
                · rw [upd_ne (ne_of_none e nR)]; exact sX7 _ _ (sm _ _ e)
                · rw [← List.cons_append]
                  exact ((hS.same sX7).snoc ⟨p7, b2, rfl, h7, hb2R, sX7 _ _ (sm _ _ hwd)⟩).updN hR7 (fun _ h => h)
                · rw [show 2 * (t + 1) = 2 * t + 1 + 1 by omega, List.take_add_one, List.take_add_one, hl1, hl2, flatP_snoc, hrl, List.append_assoc]
                  have : Ma.sgnP (decide (sg = [45])) = sg := hsgn
                  rw [this]; rfl
                · rw [List.length_append, hrt]; rfl
            · rw [decide_eq_false h45]
              refine iteT ?_
              refine q HY .non (s1.trans (sm.trans (s4.trans s5))) ?_
              have hm : Ma.moreM l = none := by
                cases hh : Ma.moreM l with
                | none => rfl
                | some r' =>
                  exfalso
                  have hlr := Ma.moreM_iff.mp hh
                  have htr : t < r'.length := by
                    have := congrArg List.length hlr
                    rw [flatP_len] at this
                    omega
                  have := (flatP_get (List.getElem?_eq_getElem htr)).1
                  rw [← hlr, hl1] at this
                  have := Option.some.inj this
                  unfold Ma.sgnP at this
                  split at this
                  · exact h45 this
                  · exact h43 this
              rw [hsm, hm]; rfl
        · rintro σ H' ⟨y4, ws, r, rfl, sm, hR, hS, hrl, hrt⟩
          refine ⟨_, rfl, q H' (.ref R) (s1.trans sm) ?_⟩
          rw [List.take_of_length_le (by omega)] at hrl
          rw [hsm, Ma.moreM_iff.mpr hrl]
          exact ⟨R, ws, rfl, hR, hS.mono fun _ _ => trivial⟩
    · have c45 : ¬ w0.take 1 = [45] := fun h => c45 (decide_eq_true h)
      rw [if_neg c45] at hx0
      refine ⟨_, rfl, (by show 2 ≤ sizeLine; decide), fun pt nt => ?_⟩
      have s5 := same_upd (o := .tup [.bl false, .ref b0]) nt
      have h5 : SqT K (upd H3 pt (.tup [.bl false, .ref b0])) pt [.bl false, .ref b0] := SqT.of upd_same
      generalize upd H3 pt (.tup [.bl false, .ref b0]) = H3c at s5 h5
      refine ⟨(by show 1 ≤ sizeLine; decide), fun R nRc => ?_⟩
      have s6 := same_upd (o := .lst [.ref pt]) nRc
      have hR4 : (upd H3c R (.lst [.ref pt])) R = some (.lst [.ref pt]) := upd_same
      have h5' := Same.seqT s6 h5
      generalize upd H3c R (.lst [.ref pt]) = H4 at s6 hR4 h5'
      have s14 : Same H1 H4 := s13.trans (s5.trans s6)
      have nR : H1 R = none := s13.free (s5.free nRc)
      have h3R : b0 ≠ R := by intro e; rw [e] at hw0; rw [hw0] at nR; cases nR
      have hv0 : ∃ p b, V.ref pt = .ref p ∧ SqT K H4 p [.bl x0.1, .ref b] ∧ b ≠ R ∧ H4 b = some (.lst (nis x0.2)) := by
        rw [← hx0]; exact ⟨pt, b0, rfl, h5', h3R, s14 _ _ hw0⟩
      generalize V.ref pt = v0 at hR4 hv0
      refine ⟨_, rfl, B, _, rfl, .inl (SqL.of (s14 _ _ hB)), _, _, rfl, rfl, (by show (0 : Int) < 2; decide), rfl, _, rfl, ?_⟩
      have hlenI : (((bs.map V.ref).length : Nat) : Int) = ((l.length + 1 : Nat) : Int) := by rw [List.length_map, hbl2]
      by_cases hev : (l.length + 1) % 2 = 0
      · have : decide (V.int ((((bs.map V.ref).length : Nat) : Int) % 2) = V.int 0) = true := by
          rw [hlenI]
          exact decide_eq_true (by rw [show (((l.length + 1 : Nat) : Int)) % 2 = 0 by omega])
        rw [this]
        refine iteT ?_
        refine q H4 .non (s1.trans s14) ?_
        have hm : Ma.moreM l = none := by
          cases hh : Ma.moreM l with
          | none => rfl
          | some r =>
            have := congrArg List.length (Ma.moreM_iff.mp hh)
            rw [flatP_len] at this
            omega
        rw [hsm, hm]; rfl
      · have : decide (V.int ((((bs.map V.ref).length : Nat) : Int) % 2) = V.int 0) = false := by
          rw [hlenI, decide_eq_false]
          intro e
          have := V.int.inj e
          omega
        rw [this]
        refine iteF ?_
        obtain ⟨t0, ht0⟩ : ∃ t0, l.length = 2 * t0 := ⟨l.length / 2, by omega⟩
        have hl1000 : l.length + 1 ≤ 1001 := by
          have := hspl
          rw [hsp] at this
          simp at this; omega
        refine ⟨_, rfl, B, _, rfl, .inl (SqL.of (s14 _ _ hB)), _, _, _, t0, rfl, (by rw [hlenI]; exact rgc_two (by omega) (by omega)), ?_⟩
        refine for_rangeC (lo := 1) (c := 2) (n := t0) (fun t σ H' => ∃ (y4 : Option V) (ws : List V) (r : List (Bool × List Nat)), σ = [some (.ref a), some (.ref B), some (.ref b0), some (.ref R), y4] ∧ Same H1 H' ∧ H' R = some (.lst ws) ∧ Sgs K H' (fun b => b ≠ R) ws (x0 :: r) ∧ l.take (2 * t) = Ma.flatP r ∧ r.length = t)
          ⟨none, [v0], [], rfl, s14, hR4, ⟨hv0, trivial⟩, rfl, rfl⟩ ?_ ?_
        · rintro t σ H' ht ⟨y4, ws, r, rfl, sm, hR, hS, hrl, hrt⟩
          have ei : (1 : Int) + ((t : Nat) : Int) * 2 = ((2 * t + 1 : Nat) : Int) := by omega
          have ei2 : ((2 * t + 1 : Nat) : Int) + 1 = ((2 * t + 1 + 1 : Nat) : Int) := by omega
          rw [ei]
          have hi1 : 2 * t < l.length := by omega
          have hi2 : 2 * t + 1 < l.length := by omega
          have hl1 := List.getElem?_eq_getElem hi1
          have hl2 := List.getElem?_eq_getElem hi2
          generalize l[2 * t] = sg at hl1
          generalize l[2 * t + 1] = wd at hl2
          obtain ⟨b1, hb1, hsg⟩ := hN.get (i := 2 * t + 1) (l := sg) (by rw [hsp]; simpa using hl1)
          obtain ⟨b2, hb2, hwd⟩ := hN.get (i := 2 * t + 1 + 1) (l := wd) (by rw [hsp]; simpa using hl2)
          have hget1 : (bs.map V.ref)[2 * t + 1]? = some (.ref b1) := by rw [List.getElem?_map, hb1]; rfl
          have hget2 : (bs.map V.ref)[2 * t + 1 + 1]? = some (.ref b2) := by rw [List.getElem?_map, hb2]; rfl
          refine ⟨_, rfl, _, rfl, B, _, _, _, rfl, rfl, SqL.of (sm _ _ hB), atI_nat hget1, (by show 1 ≤ sizeLine; decide), fun p4 n4 => ?_⟩
          have s4 := same_upd (o := .lst [.int 43]) n4
          have h4 : SqL K (upd H' p4 (.lst [.int 43])) p4 (nis [43]) := SqL.of upd_same
          generalize upd H' p4 (.lst [.int 43]) = HX at s4 h4
          have sX := s4
          refine ⟨_, _, dp_nis (SqL.of (s4 _ _ (sm _ _ hsg))), dp_nis h4, shaped_datN _, shaped_datN _, _, rfl, ?_⟩
          rw [eqv_datN]
          by_cases h43 : sg = [43]
          · rw [decide_eq_true h43]
            refine iteF (iteF ?_)
            have hsgn : Ma.sgnP (decide (sg = [45])) = sg := by rw [h43]; rfl
            refine ⟨_, rfl, .inl ⟨rfl, _, SqL.of (sX _ _ hR)⟩, _, rfl, _, rfl, B, _, _, _, rfl, rfl, SqL.of (sX _ _ (sm _ _ hB)), atI_nat hget1, (by show 1 ≤ sizeLine; decide), fun p6 n6 => ?_⟩
            have s6 := same_upd (o := .lst [.int 45]) n6
            have h6 : SqL K (upd HX p6 (.lst [.int 45])) p6 (nis [45]) := SqL.of upd_same
            generalize upd HX p6 (.lst [.int 45]) = H6 at s6 h6
            have sX6 := sX.trans s6
            refine ⟨_, _, dp_nis (SqL.of (sX6 _ _ (sm _ _ hsg))), dp_nis h6, shaped_datN _, shaped_datN _, ?_⟩
            rw [eqv_datN]
            refine ⟨_, rfl, _, rfl, _, _, rfl, rfl, B, _, _, _, rfl, rfl, SqL.of (sX6 _ _ (sm _ _ hB)), (by rw [ei2]; exact atI_nat hget2), (by show 2 ≤ sizeLine; decide), fun p7 n7 => ?_⟩
            have s7 := same_upd (o := .tup [.bl (decide (sg = [45])), .ref b2]) n7
            have h7 : SqT K (upd H6 p7 (.tup [.bl (decide (sg = [45])), .ref b2])) p7 [.bl (decide (sg = [45])), .ref b2] := SqT.of upd_same
            generalize upd H6 p7 (.tup [.bl (decide (sg = [45])), .ref b2]) = H7 at s7 h7
            have sX7 := sX6.trans s7
            have hR7 := sX7 _ _ hR
            have hb2R : b2 ≠ R := by intro e; rw [e] at hwd; rw [hwd] at nR; cases nR
            refine ⟨R, _, _, rfl, rfl, hR7, ?_, ?_⟩
            · rw [hS.len, List.length_cons, hrt]
              have := big_line
              omega
            · refine ⟨_, _, r ++ [(decide (sg = [45]), wd)], rfl, fun b' o e => ?_, upd_same, ?_, ?_, ?_⟩
              · rw [upd_ne (ne_of_none e nR)]; exact sX7 _ _ (sm _ _ e)
              · rw [← List.cons_append]
                exact ((hS.same sX7).snoc ⟨p7, b2, rfl, h7, hb2R, sX7 _ _ (sm _ _ hwd)⟩).updN hR7 (fun _ h => h)
              · rw [show 2 * (t + 1) = 2 * t + 1 + 1 by omega, List.take_add_one, List.take_add_one, hl1, hl2, flatP_snoc, hrl, List.append_assoc]
                have : Ma.sgnP (decide (sg = [45])) = sg := hsgn
                rw [this]; rfl
              · rw [List.length_append, hrt]; rfl
          · rw [decide_eq_false h43]
            refine iteT ?_
            refine ⟨_, rfl, _, rfl, B, _, _, _, rfl, rfl, SqL.of (s4 _ _ (sm _ _ hB)), atI_nat hget1, (by show 1 ≤ sizeLine; decide), fun p5 n5 => ?_⟩
            have s5 := same_upd (o := .lst [.int 45]) n5
            have h5 : SqL K (upd HX p5 (.lst [.int 45])) p5 (nis [45]) := SqL.of upd_same
            generalize upd HX p5 (.lst [.int 45]) = HY at s5 h5
            refine ⟨_, _, dp_nis (SqL.of (s5 _ _ (s4 _ _ (sm _ _ hsg)))), dp_nis h5, shaped_datN _, shaped_datN _, _, rfl, ?_⟩
            rw [eqv_datN]
            by_cases h45 : sg = [45]
            · rw [decide_eq_true h45]
              refine iteF ?_
              have hsgn : Ma.sgnP (decide (sg = [45])) = sg := by rw [h45]; rfl
              have sX := s4.trans s5
              generalize HY = HX at sX
              refine ⟨_, rfl, .inl ⟨rfl, _, SqL.of (sX _ _ hR)⟩, _, rfl, _, rfl, B, _, _, _, rfl, rfl, SqL.of (sX _ _ (sm _ _ hB)), atI_nat hget1, (by show 1 ≤ sizeLine; decide), fun p6 n6 => ?_⟩
              have s6 := same_upd (o := .lst [.int 45]) n6
              have h6 : SqL K (upd HX p6 (.lst [.int 45])) p6 (nis [45]) := SqL.of upd_same
              generalize upd HX p6 (.lst [.int 45]) = H6 at s6 h6
              have sX6 := sX.trans s6
              refine ⟨_, _, dp_nis (SqL.of (sX6 _ _ (sm _ _ hsg))), dp_nis h6, shaped_datN _, shaped_datN _, ?_⟩
              rw [eqv_datN]
              refine ⟨_, rfl, _, rfl, _, _, rfl, rfl, B, _, _, _, rfl, rfl, SqL.of (sX6 _ _ (sm _ _ hB)), (by rw [ei2]; exact atI_nat hget2), (by show 2 ≤ sizeLine; decide), fun p7 n7 => ?_⟩
              have s7 := same_upd (o := .tup [.bl (decide (sg = [45])), .ref b2]) n7
              have h7 : SqT K (upd H6 p7 (.tup [.bl (decide (sg = [45])), .ref b2])) p7 [.bl (decide (sg = [45])), .ref b2] := SqT.of upd_same
              generalize upd H6 p7 (.tup [.bl (decide (sg = [45])), .ref b2]) = H7 at s7 h7
              have sX7 := sX6.trans s7
              have hR7 := sX7 _ _ hR
              have hb2R : b2 ≠ R := by intro e; rw [e] at hwd; rw [hwd] at nR; cases nR
              refine ⟨R, _, _, rfl, rfl, hR7, ?_, ?_⟩
              · rw [hS.len, List.length_cons, hrt]
                have := big_line
                omega
              · refine ⟨_, _, r ++ [(decide (sg = [45]), wd)], rfl, fun b' o e => ?_, upd_same, ?_, ?_, ?_⟩
                · rw [upd_ne (ne_of_none e nR)]; exact sX7 _ _ (sm _ _ e)
                · rw [← List.cons_append]
                  exact ((hS.same sX7).snoc ⟨p7, b2, rfl, h7, hb2R, sX7 _ _ (sm _ _ hwd)⟩).updN hR7 (fun _ h => h)
                · rw [show 2 * (t + 1) = 2 * t + 1 + 1 by omega, List.take_add_one, List.take_add_one, hl1, hl2, flatP_snoc, hrl, List.append_assoc]
                  have : Ma.sgnP (decide (sg = [45])) = sg := hsgn
                  rw [this]; rfl
                · rw [List.length_append, hrt]; rfl
            · rw [decide_eq_false h45]
              refine iteT ?_
              refine q HY .non (s1.trans (sm.trans (s4.trans s5))) ?_
              have hm : Ma.moreM l = none := by
                cases hh : Ma.moreM l with
                | none => rfl
                | some r' =>
                  exfalso
                  have hlr := Ma.moreM_iff.mp hh
                  have htr : t < r'.length := by
                    have := congrArg List.length hlr
                    rw [flatP_len] at this
                    omega
                  have := (flatP_get (List.getElem?_eq_getElem htr)).1
                  rw [← hlr, hl1] at this
                  have := Option.some.inj this
                  unfold Ma.sgnP at this
                  split at this
                  · exact h45 this
                  · exact h43 this
              rw [hsm, hm]; rfl
        · rintro σ H' ⟨y4, ws, r, rfl, sm, hR, hS, hrl, hrt⟩
          refine ⟨_, rfl, q H' (.ref R) (s1.trans sm) ?_⟩
          rw [List.take_of_length_le (by omega)] at hrl
          rw [hsm, Ma.moreM_iff.mpr hrl]
          exact ⟨R, ws, rfl, hR, hS.mono fun _ _ => trivial⟩
end
end W
set_option maxRecDepth 100000
namespace W
open PySem PySem.Spec PyProof.Rows L2
/-! terms -/
theorem falls_zip : ∀ ps : List Nat, Ma.fallsB ps = ((ps.zip (ps.drop 1)).map fun x => decide (x.2 < x.1)).all id
  | [] => rfl
  | [a] => rfl
  | a :: b :: l => by
    rw [Ma.fallsB, falls_zip (b :: l)]
    rfl
def Tml (K : PySem.W.Frag) (H : Hp) : List V → Ma.Tms → Prop
  | [], [] => True
  | v :: vs, t :: ts => (∃ p x, v = .ref p ∧ SqT K H p [x, .int (t.2 : Int)] ∧ RatV K H x t.1) ∧ Tml K H vs ts
  | _, _ => False
section
variable {K : PySem.W.Frag} {H H' : Hp}
theorem Tml.same (e : Same H H') : ∀ {vs : List V} {ts : Ma.Tms}, Tml K H vs ts → Tml K H' vs ts
  | [], [], _ => trivial
  | _ :: _, _ :: _, h => by
    obtain ⟨⟨p, x, h1, h2, h3⟩, h4⟩ := h
    exact ⟨⟨p, x, h1, Same.seqT e h2, h3.same e⟩, Tml.same e h4⟩
  | [], _ :: _, h => h.elim
  | _ :: _, [], h => h.elim
theorem Tml.updL {k : Addr} {us ws : List V} (hk : H k = some (.lst us)) : ∀ {vs : List V} {ts : Ma.Tms}, Tml K H vs ts → Tml K (upd H k (.lst ws)) vs ts
  | [], [], _ => trivial
  | _ :: _, _ :: _, h => by
    obtain ⟨⟨p, x, h1, h2, h3⟩, h4⟩ := h
    exact ⟨⟨p, x, h1, SqT.updL hk h2, h3.updL hk⟩, Tml.updL hk h4⟩
  | [], _ :: _, h => h.elim
  | _ :: _, [], h => h.elim
theorem Tml.len : ∀ {vs : List V} {ts : Ma.Tms}, Tml K H vs ts → vs.length = ts.length
  | [], [], _ => rfl
  | _ :: _, _ :: _, h => by rw [List.length_cons, List.length_cons, Tml.len h.2]
  | [], _ :: _, h => h.elim
  | _ :: _, [], h => h.elim
theorem Tml.snoc {v : V} {t : Rat × Nat} (h2 : ∃ p x, v = .ref p ∧ SqT K H p [x, .int (t.2 : Int)] ∧ RatV K H x t.1) : ∀ {vs : List V} {ts : Ma.Tms}, Tml K H vs ts → Tml K H (vs ++ [v]) (ts ++ [t])
  | [], [], _ => ⟨h2, trivial⟩
  | _ :: _, _ :: _, h => ⟨h.1, Tml.snoc h2 h.2⟩
  | [], _ :: _, h => h.elim
  | _ :: _, [], h => h.elim
theorem Tml.get : ∀ {vs : List V} {ts : Ma.Tms} {i : Nat} {v : V}, Tml K H vs ts → vs[i]? = some v → ∃ t p x, ts[i]? = some t ∧ v = .ref p ∧ SqT K H p [x, .int (t.2 : Int)] ∧ RatV K H x t.1
  | _ :: _, t :: _, 0, v, h, e => by
    have e' := Option.some.inj e
    subst e'
    obtain ⟨⟨p, x, h1, h2, h3⟩, _⟩ := h
    exact ⟨t, p, x, rfl, h1, h2, h3⟩
  | _ :: vs, _ :: l, i + 1, v, h, e => Tml.get (vs := vs) (ts := l) (i := i) h.2 e
  | [], [], _, _, _, e => by simp at e
  | [], _ :: _, _, _, h, _ => h.elim
  | _ :: _, [], _, _, h, _ => h.elim
end
theorem mapM_snoc {l : List (Bool × List Nat)} {x : Bool × List Nat} {ts : Ma.Tms} {t : Rat × Nat} (h1 : l.mapM Ma.tm = some ts) (h2 : Ma.tm x = some t) : (l ++ [x]).mapM Ma.tm = some (ts ++ [t]) := by
  obtain ⟨h3, h4⟩ := Ma.mapM_tm.mp h1
  obtain ⟨h5, h6⟩ := (Ma.tm_iff (c := t.1) (k := t.2)).mp h2
  refine Ma.mapM_tm.mpr ⟨fun y hy => ?_, by rw [List.map_append, h4, h6]; rfl⟩
  rcases List.mem_append.mp hy with e | e
  · exact h3 y e
  · rw [List.mem_singleton] at e; rw [e]; exact h5
theorem mapM_bad {l : List (Bool × List Nat)} {x : Bool × List Nat} (hx : x ∈ l) (h : Ma.tm x = none) : l.mapM Ma.tm = none := by
  cases hl : l.mapM Ma.tm with
  | none => rfl
  | some ts =>
    exfalso
    obtain ⟨h3, h4⟩ := Ma.mapM_tm.mp hl
    rw [h4, List.mem_map] at hx
    obtain ⟨t, ht, e⟩ := hx
    rw [(Ma.tm_iff (c := t.1) (k := t.2)).mpr ⟨h3 t ht, e.symm⟩] at h
    cases h
theorem signed_len {u : List Nat} {l : List (Bool × List Nat)} (h : Ma.signedM u = some l) : l.length ≤ u.length + 1 ∧ ∀ x ∈ l, x.2.length ≤ u.length := by
  unfold Ma.signedM at h
  split at h
  · cases h
  · rename_i w m hs
    rw [Option.map_eq_some_iff] at h
    obtain ⟨r, hr, e⟩ := h
    have hm := Ma.moreM_iff.mp hr
    have hlen := split_len u
    rw [hs, hm, List.length_cons, flatP_len] at hlen
    rw [← e]
    refine ⟨by rw [List.length_cons]; omega, fun x hx => ?_⟩
    rcases List.mem_cons.mp hx with e | e
    · have hw := piece_len (u := u) (p := w) (by rw [hs]; exact List.mem_cons_self)
      rw [e]
      split
      · rw [List.length_drop]; omega
      · exact hw
    · refine piece_len (u := u) (p := x.2) ?_
      rw [hs, hm]
      refine List.mem_cons_of_mem _ ?_
      unfold Ma.flatP
      exact List.mem_flatMap.mpr ⟨x, e, by simp⟩
section
variable {P : Program} {w : World} {K : PySem.W.Frag} {mg : Str → Option Value} {base : Heap}
def spFall (K : PySem.W.Frag) : Sp := fun vs H Q _ => ∃ (a : Addr) (ps : List Nat), vs = [.ref a] ∧ SqL K H a (nis ps) ∧ ps.length ≤ 2000 ∧ ∀ H', Same H H' → Q (.bl (Ma.fallsB ps)) H'
theorem ok_falling (T : Txt K mg) : FnOk P w K mg base CX0 1 T.f_falling T.e_falling ["powers"] (spFall K) := by
  refine T.d_falling.F.ok sc_falling (fun vs H Q E h => ?_) (fun cdv A outer s H vs Q E hr h => ?_)
  · obtain ⟨a, ps, rfl, _⟩ := h
    rfl
  · obtain ⟨a, ps, rfl, ha, hl, q⟩ := h
    refine ⟨_, pss_one (ps_ret (pe_callB (cr_all rfl) (by rfl) T.z_all (by decide +kernel) (pa_cons (pe_lc (own := [("high", 1), ("low", 2)]) (g := gTup K 2 (gCons (gName 1) (gCons (gName 2) gNil))) (tt := tYes) rfl sc_falling.nd (pi_zip (by rfl) T.z_zip (pa_cons (pv 0) (pa_cons (pe_slice sl_list (pv 0) (po_some pe_int) po_none) pa_nil))) (blkOk_by (N := n_falling) (sc := defScope s_falling) (by decide +kernel))
        (fun _ _ _ _ _ => pg_tup rfl (pgs_cons (pg_name (i := 1) sc_falling.nd rfl (Or.inl rfl)) (pgs_cons (pg_name (i := 2) sc_falling.nd rfl (Or.inl rfl)) pgs_nil))) (fun _ _ _ _ _ => pts_nil)
          (fun _ _ _ _ _ => pe_cmpR op_lt (pv 2) (pv 1) (nomark _))) pa_nil))), ?_⟩
    refine ⟨_, rfl, _, rfl, 1, rfl, a, _, rfl, ha, fun p1 n1 => ?_⟩
    rw [show cutV (nis ps) (some 1) none = (nis ps).drop 1 from cut_from (c := 1)]
    have s1 := same_upd (o := .lst ((nis ps).drop 1)) n1
    have h1 : SqL K (upd H p1 (.lst ((nis ps).drop 1))) p1 (nis (ps.drop 1)) := SqL.of (by rw [upd_same]; unfold nis; rw [List.map_drop])
    generalize upd H p1 (.lst ((nis ps).drop 1)) = H1 at s1 h1
    refine ⟨a, p1, nis ps, nis (ps.drop 1), rfl, s1.seq ha, h1, fun D nD => ?_⟩
    have hzl : (ps.zip (ps.drop 1)).length = min (nis ps).length (nis (ps.drop 1)).length := by rw [List.length_zip, List.length_map, List.length_map]
    refine lc_it (walk_zip (K := K) (a := a) (b := p1) (xs := nis ps) (ys := nis (ps.drop 1)) hzl) (fun i H' => Same H1 H' ∧ H' D = some (.lst ((((ps.zip (ps.drop 1)).take i).map fun x => decide (x.2 < x.1)).map V.bl))) ⟨same_upd nD, upd_same⟩ (fun i H' _ h => ⟨h.1.seq (s1.seq ha), h.1.seq h1⟩) ?_ ?_
    · rintro i x H' H'' hi ⟨sm, hD⟩ ⟨t, x1, x2, rfl, nt, rfl, hx1, hx2⟩
      have hx1 : (nis ps)[i]? = some x1 := hx1
      have hx2 : (nis (ps.drop 1))[i]? = some x2 := hx2
      rw [List.getElem?_map] at hx1 hx2
      obtain ⟨c1, hc1, rfl⟩ := Option.map_eq_some_iff.mp hx1
      obtain ⟨c2, hc2, rfl⟩ := Option.map_eq_some_iff.mp hx2
      have st := same_upd (o := .tup [.int (c1 : Int), .int (c2 : Int)]) nt
      refine ⟨t, _, rfl, SqT.of upd_same, rfl, _, _, rfl, _, _, rfl, rfl, ?_⟩
      generalize upd H' t (.tup [.int (c1 : Int), .int (c2 : Int)]) = H2 at st
      refine ⟨rfl, _, rfl, _, rfl, _, _, rfl, rfl, _, st _ _ hD, ?_, fun b' o e => ?_, ?_⟩
      · rw [List.length_map, List.length_map, List.length_take, List.length_zip]
        have := big_line
        omega
      · rw [upd_ne (ne_of_none e nD)]; exact st _ _ (sm _ _ e)
      · rw [upd_same, List.take_add_one, List.getElem?_zip_eq_some (z := (c1, c2)) |>.mpr ⟨hc1, hc2⟩, List.map_append, List.map_append]
        have : decide ((c2 : Int) < (c1 : Int)) = decide (c2 < c1) := by
          by_cases h : c2 < c1
          · rw [decide_eq_true h, decide_eq_true (by omega)]
          · rw [decide_eq_false h, decide_eq_false (by omega)]
        show some (HO.lst (_ ++ [V.bl (decide ((c2 : Int) < (c1 : Int)))])) = _
        rw [this]; rfl
    · rintro H2 ⟨s2, hD⟩
      rw [List.take_of_length_le (Nat.le_refl _)] at hD
      refine ⟨D, _, rfl, SqL.of hD, ?_⟩
      rw [← falls_zip]
      exact q H2 (s1.trans s2)
/-- terms, or none -/
def OptTs (K : PySem.W.Frag) (H : Hp) (v : V) : Option Ma.Tms → Prop
  | none => v = .non
  | some ts => ∃ p ws, v = .ref p ∧ H p = some (.lst ws) ∧ Tml K H ws ts
def spTerms (K : PySem.W.Frag) : Sp := fun vs H Q _ => ∃ (a : Addr) (u : List Nat), vs = [.ref a] ∧ SqL K H a (nis u) ∧ u.length ≤ 1000 ∧ ∀ H' v, Same H H' → (∀ p, v = .ref p → H p = none) → OptTs K H' v (Ma.termsM u) → Q v H'
theorem ok_terms_of (T : Txt K mg) : FnOk P w K mg base CX0 5 T.f_terms_of T.e_terms_of ["text"] (spTerms K) := by
  obtain ⟨t1, g1⟩ := T.g_DIGIT_0
  refine T.d_terms_of.F.ok sc_terms_of (fun vs H Q E h => ?_) (fun cdv A outer s H vs Q E hr h => ?_)
  · obtain ⟨a, u, rfl, _⟩ := h
    rfl
  · obtain ⟨a, u, rfl, ha, hu, q⟩ := h
    refine ⟨_, pss_cons (ps_if (pt_cmpR (op_eqD (hu64 hr)) (pv 0) (pe_lst (pa_cons (pe_glob (v := .int 48) (by rfl) g1 ⟨_, rfl⟩) pa_nil)) (nomark _)) (pss_one (ps_ret (pe_lst pa_nil))) pss_nil)
      (pss_cons (ps_set (i := 1) sc_terms_of.nd rfl (.inl rfl) (pe_D T.d_signed_pieces (ok_signed_pieces T) hr (pa_cons (pv 0) pa_nil)))
      (pss_cons (ps_if (pt_cmp (pc_isN (pv 1))) (pss_one (ps_ret pe_non)) pss_nil)
      (pss_cons (ps_set (i := 2) sc_terms_of.nd rfl (.inl rfl) (pe_lst pa_nil))
      (pss_cons (ps_for PassesOwn.never rfl (pi_list (pv 1)) (pg_tup rfl (pgs_cons (pg_name (i := 3) sc_terms_of.nd rfl (.inl rfl)) (pgs_cons (pg_name (i := 4) sc_terms_of.nd rfl (.inl rfl)) pgs_nil)))
        (pss_cons (ps_set (i := 5) sc_terms_of.nd rfl (.inl rfl) (pe_D T.d_term_of (ok_term_of T) hr (pa_cons (pv 4) pa_nil)))
        (pss_cons (ps_if (pt_cmp (pc_isN (pv 5))) (pss_one (ps_ret pe_non)) pss_nil)
        (pss_one (ps_expr (pe_bm PySem.F.plainAttrs_list PySem.F.slot_list_append PySem.F.type_list_append mt_append (pv 2) (pa_cons
          (pe_ifExp (pt_val (pv 3)) (pe_tup (pa_cons (pe_D T.d_ratio_minus (ok_ratio_minus T) hr (pa_cons (pe_ix ix_tup (pv 5) pe_int (fun _ _ => rfl)) pa_nil)) (pa_cons (pe_ix ix_tup (pv 5) pe_int (fun _ _ => rfl)) pa_nil))) (pv 5)) pa_nil)))))))
      (pss_one (ps_ret (pe_ifExp (pt_val (pe_D T.d_falling (ok_falling T) hr (pa_cons (pe_lc (own := [("term", 5)]) (g := gName 5) (tt := tYes) rfl sc_terms_of.nd (pi_list (pv 2)) (blkOk_by (N := n_terms_of) (sc := defScope s_terms_of) (by decide +kernel)) (fun _ _ _ _ _ => pg_name (i := 5) sc_terms_of.nd rfl (Or.inl rfl)) (fun _ _ _ _ _ => pts_nil)
          (fun _ _ _ _ _ => pe_ix (show IxR _ (rIxT K) from ix_tup) (pv 5) pe_int (fun _ _ => rfl))) pa_nil))) (pv 2) pe_non))))))), ?_⟩
    refine ⟨_, rfl, (by show 1 ≤ sizeLine; decide), fun p1 n1 => ?_⟩
    have s1 := same_upd (o := .lst [.int 48]) n1
    have h1 : SqL K (upd H p1 (.lst [.int 48])) p1 (nis [48]) := SqL.of upd_same
    generalize upd H p1 (.lst [.int 48]) = H1 at s1 h1
    refine ⟨_, _, dp_nis (s1.seq ha), dp_nis h1, shaped_datN _, shaped_datN _, _, rfl, ?_⟩
    rw [eqv_datN]
    refine ite2 (fun e => ?_) (fun e => ?_)
    · have e1 : u = [48] := of_decide_eq_true e
      refine ⟨Nat.zero_le _, fun R nR => ?_⟩
      refine q _ _ (s1.trans (same_upd nR)) (fun p e => by rw [← V.ref.inj e]; exact s1.free nR) ?_
      have : Ma.termsM u = some [] := by unfold Ma.termsM; rw [if_pos e1]
      rw [this]
      exact ⟨R, [], rfl, upd_same, trivial⟩
    · have e1 : ¬ u = [48] := fun h => e (decide_eq_true h)
      have htm : Ma.termsM u = (Ma.signedM u).bind fun l => (l.mapM Ma.tm).bind fun ts => if Ma.fallsB (ts.map fun t => t.2) then some ts else none := by
        unfold Ma.termsM; rw [if_neg e1]
      refine ⟨_, rfl, a, u, rfl, s1.seq ha, hu, fun H2 v2 s2 hv2 => ?_⟩
      have s12 := s1.trans s2
      cases hsg : Ma.signedM u with
      | none =>
        rw [hsg] at hv2 htm
        have e4 : v2 = .non := hv2
        subst e4
        refine ⟨_, rfl, true, rfl, iteT ?_⟩
        exact q H2 .non s12 (fun p e => by cases e) (by rw [htm]; rfl)
      | some lg =>
        obtain ⟨hlg1, hlg2⟩ := signed_len hsg
        rw [hsg] at hv2 htm
        have htm : Ma.termsM u = (lg.mapM Ma.tm).bind fun ts => if Ma.fallsB (ts.map fun t => t.2) then some ts else none := htm
        obtain ⟨B, ws, rfl, hB, hS⟩ := hv2
        have hSl := hS.len
        refine ⟨_, rfl, false, rfl, iteF ?_⟩
        refine ⟨Nat.zero_le _, fun R nR => ?_⟩
        have s3 := same_upd (o := .lst []) nR
        have hR3 : (upd H2 R (.lst [])) R = some (.lst []) := upd_same
        generalize upd H2 R (.lst []) = H3 at s3 hR3
        refine ⟨_, rfl, B, rfl, ⟨ws, SqL.of (s3 _ _ hB)⟩, ?_⟩
        refine for_list (K := K) (a := B) (xs := ws) (fun i σ H' => ∃ (y3 y4 y5 : Option V) (zs : List V) (ts : Ma.Tms), σ = [some (.ref a), some (.ref B), some (.ref R), y3, y4, y5] ∧ Same H2 H' ∧ H' R = some (.lst zs) ∧ Tml K H' zs ts ∧ (lg.take i).mapM Ma.tm = some ts)
          ⟨none, none, none, [], [], rfl, s3, hR3, trivial, rfl⟩ (fun i σ H' _ h => by obtain ⟨_, _, _, _, _, _, sm, _⟩ := h; exact SqL.of (sm _ _ hB)) ?_ ?_
        · rintro i x σ H' hx ⟨y3, y4, y5, zs, ts, rfl, sm, hR, hZ, hmt⟩
          obtain ⟨g, p, b, hg, rfl, hp, hb⟩ := hS.get hx
          have hgm := List.mem_of_getElem? hg
          refine ⟨p, _, rfl, Same.seqT sm hp, rfl, _, _, rfl, _, _, rfl, rfl, ?_⟩
          refine ⟨_, rfl, b, g.2, rfl, SqL.of (sm _ _ hb), by have := hlg2 g hgm; omega, fun H4 v4 s4 hv4 => ?_⟩
          have sm4 := sm.trans s4
          have hzl : zs.length ≤ 2000 := by
            have h9 := congrArg (fun o => (o.map List.length)) hmt
            obtain ⟨_, h8⟩ := Ma.mapM_tm.mp hmt
            have := congrArg List.length h8
            rw [List.length_map, List.length_take] at this
            rw [hZ.len]; omega
          cases ht : Ma.termM g.2 with
          | none =>
            rw [ht] at hv4
            have e4 : v4 = .non := hv4
            subst e4
            refine ⟨_, rfl, true, rfl, iteT ?_⟩
            refine q H4 .non (s12.trans sm4) (fun p e => by cases e) ?_
            have : Ma.tm g = none := by unfold Ma.tm; rw [ht]; rfl
            rw [htm, mapM_bad hgm this]; rfl
          | some t =>
            rw [ht] at hv4
            obtain ⟨p4, x4, rfl, hp4, hx4⟩ := hv4
            have htg : Ma.tm g = some (if g.1 then -t.1 else t.1, t.2) := by unfold Ma.tm; rw [ht]; rfl
            have hms := mapM_snoc hmt htg
            have htk : lg.take (i + 1) = lg.take i ++ [g] := by rw [List.take_add_one, hg]; rfl
            rw [← htk] at hms
            refine ⟨_, rfl, false, rfl, iteF ?_⟩
            refine ⟨_, rfl, .inl ⟨rfl, _, SqL.of (s4 _ _ hR)⟩, _, rfl, g.1, rfl, ite2 (fun c => ?_) (fun c => ?_)⟩
            · rw [if_pos c] at hms
              refine ⟨_, rfl, p4, _, 0, _, rfl, rfl, hp4, atI_nat (j := 0) rfl, x4, _, rfl, hx4, fun H5 v5 s5 hv5 => ?_⟩
              refine ⟨_, rfl, p4, _, 1, _, rfl, rfl, Same.seqT s5 hp4, atI_nat (j := 1) rfl, (by show 2 ≤ sizeLine; decide), fun p6 n6 => ?_⟩
              have s6 := same_upd (o := .tup [v5, .int (t.2 : Int)]) n6
              have h6 : SqT K (upd H5 p6 (.tup [v5, .int (t.2 : Int)])) p6 [v5, .int (t.2 : Int)] := SqT.of upd_same
              generalize upd H5 p6 (.tup [v5, .int (t.2 : Int)]) = H6 at s6 h6
              have s46 := s4.trans (s5.trans s6)
              have hR6 := s46 _ _ hR
              refine ⟨R, _, _, rfl, rfl, hR6, ?_, ?_⟩
              · have := big_line; omega
              · refine ⟨_, _, _, _, _, rfl, fun b' o e => ?_, upd_same, ?_, hms⟩
                · rw [upd_ne (ne_of_none e nR)]; exact s46 _ _ (sm _ _ e)
                · exact (Tml.snoc (t := (-t.1, t.2)) ⟨p6, v5, rfl, h6, hv5.same s6⟩ (hZ.same s46)).updL hR6
            · rw [if_neg c] at hms
              refine ⟨_, rfl, R, _, _, rfl, rfl, s4 _ _ hR, ?_, ?_⟩
              · have := big_line; omega
              · refine ⟨_, _, _, _, _, rfl, fun b' o e => ?_, upd_same, ?_, hms⟩
                · rw [upd_ne (ne_of_none e nR)]; exact sm4 _ _ e
                · exact ((hZ.same s4).snoc ⟨p4, x4, rfl, hp4, hx4⟩).updL (s4 _ _ hR)
        · rintro σ H' ⟨y3, y4, y5, zs, ts, rfl, sm, hR, hZ, hmt⟩
          rw [hSl, List.take_length] at hmt
          have hZl := hZ.len
          have htl : ts.length ≤ 1001 := by
            obtain ⟨_, h8⟩ := Ma.mapM_tm.mp hmt
            have := congrArg List.length h8
            rw [List.length_map] at this
            omega
          rw [hmt] at htm
          have htm : Ma.termsM u = if Ma.fallsB (ts.map fun t => t.2) then some ts else none := htm
          refine ⟨_, rfl, R, rfl, ⟨zs, SqL.of hR⟩, fun D nD => ?_⟩
          refine lc_list (K := K) (a := R) (xs := zs) (fun i H3 => Same H' H3 ∧ H3 D = some (.lst (nis ((ts.take i).map fun t => t.2)))) ⟨same_upd nD, upd_same⟩ (fun i H3 _ h => SqL.of (h.1 _ _ hR)) ?_ ?_
          · rintro i x H3 hx ⟨s3', hD⟩
            obtain ⟨t, p, y, ht, rfl, hp, _⟩ := hZ.get hx
            refine ⟨rfl, _, rfl, p, _, 1, _, rfl, rfl, Same.seqT s3' hp, atI_nat (j := 1) rfl, _, hD, ?_, fun b' o e => ?_, ?_⟩
            · rw [List.length_map, List.length_map, List.length_take]
              have := big_line; omega
            · rw [upd_ne (ne_of_none e nD)]; exact s3' _ _ e
            · rw [upd_same, List.take_add_one, ht, List.map_append]
              unfold nis
              rw [List.map_append]; rfl
          · rintro H3 ⟨s3', hD⟩
            rw [hZl, List.take_length] at hD
            refine ⟨D, _, rfl, SqL.of hD, by rw [List.length_map]; omega, fun H4 s4 => ?_⟩
            have s24 : Same H H4 := s12.trans (sm.trans (s3'.trans s4))
            refine ⟨_, rfl, ite2 (fun c => ?_) (fun c => ?_)⟩
            · rw [if_pos c] at htm
              refine ⟨_, rfl, q H4 _ s24 (fun p e => by rw [← V.ref.inj e]; exact s12.free nR) ?_⟩
              rw [htm]
              exact ⟨R, zs, rfl, s4 _ _ (s3' _ _ hR), (hZ.same s3').same s4⟩
            · rw [if_neg c] at htm
              refine q H4 .non s24 (fun p e => by cases e) ?_
              rw [htm]; rfl
/-- the refusal of a polynomial's text -/
def polRef (u : List Nat) : Int := match Ma.termsM u with
  | none => -1
  | some ts => if ts.any Ma.badT then -2 else 0
def spPolRef (K : PySem.W.Frag) : Sp := fun vs H Q _ => ∃ (a : Addr) (u : List Nat), vs = [.ref a] ∧ SqL K H a (nis u) ∧ u.length ≤ 1000 ∧ ∀ H', Same H H' → Q (.int (polRef u)) H'
theorem terms_len {u : List Nat} {ts : Ma.Tms} (h : Ma.termsM u = some ts) : ts.length ≤ u.length + 1 := by
  unfold Ma.termsM at h
  split at h
  · have := Option.some.inj h
    subst this; simp
  · rw [Option.bind_eq_some_iff] at h
    obtain ⟨l, hl, h⟩ := h
    rw [Option.bind_eq_some_iff] at h
    obtain ⟨ts', ht, h⟩ := h
    split at h
    · have := Option.some.inj h
      subst this
      obtain ⟨_, h8⟩ := Ma.mapM_tm.mp ht
      have := congrArg List.length h8
      rw [List.length_map] at this
      have := (signed_len hl).1
      omega
    · cases h
theorem ok_poly_refusal (T : Txt K mg) : FnOk P w K mg base CX0 6 T.f_poly_refusal T.e_poly_refusal ["text"] (spPolRef K) := by
  obtain ⟨t1, g1⟩ := T.g_WRONG_TEXT
  obtain ⟨t2, g2⟩ := T.g_TOO_LARGE
  obtain ⟨t3, g3⟩ := T.g_HIGHEST
  refine T.d_poly_refusal.F.ok sc_poly_refusal (fun vs H Q E h => ?_) (fun cdv A outer s H vs Q E hr h => ?_)
  · obtain ⟨a, u, rfl, _⟩ := h
    rfl
  · obtain ⟨a, u, rfl, ha, hu, q⟩ := h
    refine ⟨_, pss_cons (ps_set (i := 1) sc_poly_refusal.nd rfl (.inl rfl) (pe_D T.d_terms_of (ok_terms_of T) hr (pa_cons (pv 0) pa_nil)))
      (pss_cons (ps_if (pt_cmp (pc_isN (pv 1))) (pss_one (ps_ret (pe_glob (v := .int (-1)) (by rfl) g1 ⟨_, rfl⟩))) pss_nil)
      (pss_cons (ps_if (pt_val (pe_callB (cr_any rfl) (by rfl) T.z_any (by decide +kernel) (pa_cons (pe_lc (own := [("term", 2)]) (g := gName 2) (tt := tYes) rfl sc_poly_refusal.nd (pi_list (pv 1)) (blkOk_by (N := n_poly_refusal) (sc := defScope s_poly_refusal) (by decide +kernel)) (fun _ _ _ _ _ => pg_name (i := 2) sc_poly_refusal.nd rfl (Or.inl rfl)) (fun _ _ _ _ _ => pts_nil)
          (fun _ _ _ _ _ => pe_or (pe_cmpR op_gt (pe_ix (show IxR _ (rIxT K) from ix_tup) (pv 2) pe_int (fun _ _ => rfl)) (pe_glob (v := .int 8) (by rfl) g3 ⟨_, rfl⟩) (nomark _)) (pe_one (pe_D T.d_is_long (ok_is_long T) hr (pa_cons (pe_ix (show IxR _ (rIxT K) from ix_tup) (pv 2) pe_int (fun _ _ => rfl)) pa_nil))))) pa_nil))) (pss_one (ps_ret (pe_glob (v := .int (-2)) (by rfl) g2 ⟨_, rfl⟩))) pss_nil)
      (pss_one (ps_ret pe_int)))), ?_⟩
    refine ⟨_, rfl, a, u, rfl, ha, hu, fun H1 v1 s1 _ hv1 => ?_⟩
    cases ht : Ma.termsM u with
    | none =>
      rw [ht] at hv1
      have e4 : v1 = .non := hv1
      subst e4
      refine ⟨_, rfl, true, rfl, iteT ?_⟩
      have := q H1 s1
      unfold polRef at this
      rw [ht] at this; exact this
    | some ts =>
      have htl := terms_len ht
      rw [ht] at hv1
      obtain ⟨R, zs, rfl, hR, hZ⟩ := hv1
      have hZl := hZ.len
      have hpr : polRef u = if ts.any Ma.badT then -2 else 0 := by unfold polRef; rw [ht]
      refine ⟨_, rfl, false, rfl, iteF ?_⟩
      refine ⟨_, rfl, R, rfl, ⟨zs, SqL.of hR⟩, fun D nD => ?_⟩
      refine lc_list (K := K) (a := R) (xs := zs) (fun i H3 => Same H1 H3 ∧ H3 D = some (.lst (((ts.take i).map Ma.badT).map V.bl))) ⟨same_upd nD, upd_same⟩ (fun i H3 _ h => SqL.of (h.1 _ _ hR)) ?_ ?_
      · rintro i x H3 hx ⟨s3, hD⟩
        obtain ⟨t, p, y, hti, rfl, hp, hy⟩ := hZ.get hx
        refine ⟨rfl, _, rfl, p, _, 1, _, rfl, rfl, Same.seqT s3 hp, atI_nat (j := 1) rfl, _, _, rfl, rfl, _, rfl, ?_⟩
        have next : ∀ b : Bool, Ma.badT t = b → ∃ acc, H3 D = some (.lst acc) ∧ acc.length < sizeLine ∧ Same H1 (upd H3 D (.lst (acc ++ [V.bl b]))) ∧ (upd H3 D (.lst (acc ++ [V.bl b]))) D = some (.lst (((ts.take (i + 1)).map Ma.badT).map V.bl)) := by
          intro b hb
          refine ⟨_, hD, ?_, fun b' o e => ?_, ?_⟩
          · rw [List.length_map, List.length_map, List.length_take]
            have := big_line; omega
          · rw [upd_ne (ne_of_none e nD)]; exact s3 _ _ e
          · rw [upd_same, List.take_add_one, hti, List.map_append, List.map_append, ← hb]; rfl
        refine ite2 (fun c => ?_) (fun c => ?_)
        · have c1 : (8 : Int) < (t.2 : Int) := of_decide_eq_true c
          refine next true ?_
          unfold Ma.badT
          rw [decide_eq_true (by omega)]; rfl
        · have c1 : ¬ (8 : Int) < (t.2 : Int) := fun h => c (decide_eq_true h)
          refine ⟨_, rfl, p, _, 0, _, rfl, rfl, Same.seqT s3 hp, atI_nat (j := 0) rfl, y, t.1, rfl, hy.same s3, ?_⟩
          refine next (notOk t.1) ?_
          unfold Ma.badT notOk
          rw [decide_eq_false (by omega)]; rfl
      · rintro H3 ⟨s3, hD⟩
        rw [hZl, List.take_length] at hD
        refine ⟨D, _, rfl, SqL.of hD, _, rfl, ?_⟩
        have e9 : (ts.map Ma.badT).any id = ts.any Ma.badT := by rw [List.any_map]; rfl
        rw [e9]
        have := q H3 (s1.trans s3)
        rw [hpr] at this
        refine ite2 (fun c => ?_) (fun c => ?_)
        · rw [if_pos c] at this; exact this
        · rw [if_neg c] at this; exact this
theorem cf_snoc {ts : Ma.Tms} {x : Rat × Nat} (h : ∀ y ∈ ts, y.2 ≠ x.2) (n : Nat) : Ma.cf (ts ++ [x]) n = if n = x.2 then x.1 else Ma.cf ts n := by
  unfold Ma.cf
  rw [List.find?_append]
  by_cases hn : n = x.2
  · rw [if_pos hn]
    have h1 : (ts.find? fun y => decide (y.2 = n)) = none := by
      rw [List.find?_eq_none]
      intro y hy
      have := h y hy
      simp; omega
    rw [h1]
    have h2 : ([x].find? fun y => decide (y.2 = n)) = some x := List.find?_cons_of_pos (by simpa using hn.symm)
    rw [h2]; rfl
  · rw [if_neg hn]
    have h2 : ([x].find? fun y => decide (y.2 = n)) = none := by
      rw [List.find?_eq_none]
      intro y hy
      rw [List.mem_singleton] at hy
      rw [hy]
      simp; omega
    rw [h2]
    cases (ts.find? fun y => decide (y.2 = n)) <;> rfl
def spPolOf (K : PySem.W.Frag) : Sp := fun vs H Q _ => ∃ (a : Addr) (u : List Nat) (ts : Ma.Tms), vs = [.ref a] ∧ SqL K H a (nis u) ∧ u.length ≤ 1000 ∧ Ma.termsM u = some ts ∧ ts.any Ma.badT = false ∧ ∀ H' p, Same H H' → PolV K H' p (Ma.coefs ts) → Q (.ref p) H'
theorem ok_poly_of (T : Txt K mg) : FnOk P w K mg base CX0 6 T.f_poly_of T.e_poly_of ["text"] (spPolOf K) := by
  obtain ⟨t3, g3⟩ := T.g_HIGHEST
  refine T.d_poly_of.F.ok sc_poly_of (fun vs H Q E h => ?_) (fun cdv A outer s H vs Q E hr h => ?_)
  · obtain ⟨a, u, ts, rfl, _⟩ := h
    rfl
  · obtain ⟨a, u, ts, rfl, ha, hu, ht, hnb, q⟩ := h
    obtain ⟨hval, _⟩ := Ma.termsM_iff.mp ht
    have h8 : ∀ t ∈ ts, t.2 ≤ 8 := by
      intro t htm
      have : ¬ Ma.badT t = true := fun e => by
        have := List.any_eq_true.mpr ⟨t, htm, e⟩
        rw [hnb] at this; cases this
      unfold Ma.badT at this
      by_cases h : 8 < t.2
      · rw [decide_eq_true h] at this; exact absurd rfl this
      · omega
    refine ⟨_, pss_cons (ps_set (i := 1) sc_poly_of.nd rfl (.inl rfl) (pe_op op_rep (pe_lst (pa_cons (pe_glob (v := .ref T.a_ZERO) (by rfl) T.g_ZERO rfl) pa_nil)) (pe_op op_add (pe_glob (v := .int 8) (by rfl) g3 ⟨_, rfl⟩) pe_int)))
      (pss_cons (ps_for PassesOwn.never rfl (pi_list (pe_D T.d_terms_of (ok_terms_of T) hr (pa_cons (pv 0) pa_nil))) (pg_tup rfl (pgs_cons (pg_name (i := 2) sc_poly_of.nd rfl (.inl rfl)) (pgs_cons (pg_name (i := 3) sc_poly_of.nd rfl (.inl rfl)) pgs_nil)))
        (pss_one (ps_asg (pv 2) (pg_sub (pv 1) (pv 3) set_list))))
      (pss_one (ps_ret (pe_D T.d_trimmed (ok_trimmed T) hr (pa_cons (pv 1) pa_nil))))), ?_⟩
    refine ⟨(by show 1 ≤ sizeLine; decide), fun z nz => ?_⟩
    have s1 := same_upd (o := .lst [.ref T.a_ZERO]) nz
    have hz : (upd H z (.lst [.ref T.a_ZERO])) z = some (.lst [.ref T.a_ZERO]) := upd_same
    generalize upd H z (.lst [.ref T.a_ZERO]) = H1 at s1 hz
    refine ⟨_, _, rfl, rfl, z, _, _, rfl, rfl, hz, (by decide), (by decide), (by show 1 * 9 ≤ sizeLine; decide), fun R nR => ?_⟩
    rw [flat_rep]
    have s2 := same_upd (o := .lst (List.replicate ((8 : Int) + 1).toNat (V.ref T.a_ZERO))) nR
    have hR2 : PolV K (upd H1 R (.lst (List.replicate ((8 : Int) + 1).toNat (V.ref T.a_ZERO)))) R ((List.range 9).map (Ma.cf [])) := ⟨_, upd_same, Rats.replicate (T.zero _) 9⟩
    generalize upd H1 R (.lst (List.replicate ((8 : Int) + 1).toNat (V.ref T.a_ZERO))) = H2 at s2 hR2
    have s12 := s1.trans s2
    have nRH := s1.free nR
    refine ⟨_, rfl, a, u, rfl, s12.seq ha, hu, fun H3 v3 s3 nv3 hv3 => ?_⟩
    rw [ht] at hv3
    obtain ⟨B, zs, rfl, hB, hZ⟩ := hv3
    have hZl := hZ.len
    have nB2 := nv3 B rfl
    have hBR : B ≠ R := by
      intro e
      obtain ⟨ws, hws, _⟩ := hR2
      rw [e, hws] at nB2; cases nB2
    refine ⟨B, rfl, ⟨zs, SqL.of hB⟩, ?_⟩
    refine for_list (K := K) (a := B) (xs := zs) (fun i σ H' => ∃ (y2 y3 : Option V), σ = [some (.ref a), some (.ref R), y2, y3] ∧ Same H H' ∧ H' B = some (.lst zs) ∧ Tml K H' zs ts ∧ PolV K H' R ((List.range 9).map (Ma.cf (ts.take i))))
      ⟨none, none, rfl, s12.trans s3, hB, hZ, hR2.same s3⟩ (fun i σ H' _ h => by obtain ⟨_, _, _, _, hB', _⟩ := h; exact SqL.of hB') ?_ ?_
    · rintro i x σ H' hx ⟨y2, y3, rfl, sm, hB', hZ', ⟨ws, hws, hwR⟩⟩
      obtain ⟨t, p, y, hti, rfl, hp, hy⟩ := hZ'.get hx
      have htm := List.mem_of_getElem? hti
      have ht8 := h8 t htm
      refine ⟨p, _, rfl, hp, rfl, _, _, rfl, _, _, rfl, rfl, ?_⟩
      refine ⟨_, rfl, _, rfl, _, rfl, R, ws, _, t.2, rfl, rfl, hws, ixN_nat (by rw [hwR.len]; simp; omega), ?_⟩
      refine ⟨_, _, rfl, fun b' o e => ?_, ?_, hZ'.updL hws, ⟨_, upd_same, ?_⟩⟩
      · rw [upd_ne (ne_of_none e nRH)]; exact sm _ _ e
      · rw [upd_ne hBR]; exact hB'
      · have htk : ts.take (i + 1) = ts.take i ++ [t] := by rw [List.take_add_one, hti]; rfl
        have hne : ∀ y ∈ ts.take i, y.2 ≠ t.2 := by
          have hs := hval.s
          rw [← List.take_append_drop (i + 1) ts, htk, List.append_assoc] at hs
          intro y hy
          have := (List.pairwise_append.mp hs).2.2 y hy t (by simp)
          omega
        have e1 : (List.range 9).map (Ma.cf (ts.take (i + 1))) = ((List.range 9).map (Ma.cf (ts.take i))).set t.2 t.1 := by
          rw [set_range_map, htk]
          exact List.map_congr_left fun n _ => cf_snoc hne n
        rw [e1]
        exact (hwR.set hy).updL hws
    · rintro σ H' ⟨y2, y3, rfl, sm, hB', hZ', hR'⟩
      rw [hZl, List.take_length] at hR'
      exact ⟨_, rfl, R, _, rfl, hR', fun H4 p4 s4 n4 h4 => q H4 p4 (sm.trans s4) h4⟩
end
end W
set_option maxRecDepth 100000
namespace W
open PySem PySem.Spec PyProof.Rows L2
/-! sizes -/
theorem qfit {M B m : Nat} {x : Rat} (h0 : 0 < M) (h : Ma.Qb M B x) (hM : M ≤ 2 ^ m) (hB : B ≤ 2 ^ m) : Fits m x :=
  ⟨Nat.le_trans (h.parts h0).1 hB, Nat.le_trans (h.parts h0).2 hM⟩
theorem p2 {a b : Nat} (h : a ≤ b) : (2 : Nat) ^ a ≤ 2 ^ b := Nat.pow_le_pow_right (by omega) h
theorem E_row {M : List (List Rat)} {i : Nat} {r : List Rat} (h : M[i]? = some r) (j : Nat) : r.getD j 0 = Ma.E M i j := by
  unfold Ma.E; rw [h]; rfl
theorem val_ok {n : Nat} {M : List (List Rat)} (sq : Ma.Sq n M) (hn : n ≤ 4) (hs : Ma.SmallT M) {p : List Rat} (hp : p.length ≤ 9) (hc : ∀ c ∈ p, Ma.Small c) :
    PolyOk n M p ∧ ∀ r ∈ Al09.valueAt M p, ∀ c ∈ r, Wr c := by
  obtain ⟨hD, hM⟩ := Ma.tab_qb sq hn hs
  obtain ⟨hE, hP⟩ := Ma.list_qb hp hc
  have hD0 := Ma.dens_pos M.flatten
  have hE0 := Ma.dens_pos p
  generalize Ma.dens M.flatten = D at hD hM hD0
  generalize Ma.dens p = Ep at hE hP hE0
  have hv := Ma.val_qb (Ep := Ep) sq hn hD hM
  have hpos : ∀ k, 0 < Ep * D ^ k := fun k => Nat.mul_pos hE0 (Nat.pow_pos hD0)
  have hDL : D ≤ 2 ^ LIM := Nat.le_trans hD (p2 (by decide))
  refine ⟨fun i hi => ?_, fun r hr c hcr => ?_⟩
  · have hq := hv (p.drop (i + 1)) fun c hc' => hP c (List.mem_of_mem_drop hc')
    have hk : (p.drop (i + 1)).length ≤ 8 := by rw [List.length_drop]; omega
    have sqV := Ma.sq_valueAt sq (p.drop (i + 1))
    generalize (p.drop (i + 1)).length = k at hq hk
    generalize Al09.valueAt M (p.drop (i + 1)) = V at hq sqV
    have eM : Ep * D ^ k * D = Ep * D ^ (k + 1) := by rw [Nat.pow_succ, Nat.mul_assoc]
    have hprod : ∀ a b t, a < n → b < n → t < n → Ma.Qb (Ep * D ^ (k + 1)) (2 ^ (200 + 343 * k + 340)) (Ma.E V a t * Ma.E M t b) := by
      intro a b t ha hb ht
      have := (hq a t ha ht).mul (hM t b ht hb)
      rw [eM, ← Nat.pow_add] at this
      exact this
    have hden : Ep * D ^ (k + 1) ≤ 2 ^ LIM := Ma.den_bound hD hE (by show 180 + 320 * (k + 1) ≤ 4400; omega)
    have hden0 : Ep * D ^ k ≤ 2 ^ LIM := Ma.den_bound hD hE (by show 180 + 320 * k ≤ 4400; omega)
    have hsum : ∀ a b t, a < n → b < n → t ≤ n → Fits LIM (Ma.sm t (fun x => Ma.E V a x * Ma.E M x b)) := by
      intro a b t ha hb ht
      have h1 := Ma.Qb.sum (t := t) fun x hx => hprod a b x ha hb (by omega)
      exact qfit (hpos _) (h1.mono (Ma.four_pow (show t ≤ 4 by omega))) hden (p2 (by show 200 + 343 * k + 340 + 2 ≤ 4400; omega))
    refine ⟨fun r hr j hj t ht => ?_, ?_, fun a ha => ?_⟩
    · obtain ⟨a, haV, e1⟩ := List.getElem_of_mem hr
      have ha : a < n := by rw [← sqV.rows]; exact haV
      have hra : V[a]? = some r := by rw [List.getElem?_eq_getElem haV, e1]
      have htn : t < n := by rw [sqV.wid r hr] at ht; exact ht
      have hcol : ∀ x, (Al09.column j M).getD x 0 = Ma.E M x j := fun x => Ma.col_getD (n := n) j x
      have e2 : (fun x => r.getD x 0 * (Al09.column j M).getD x 0) = fun x => Ma.E V a x * Ma.E M x j := by
        funext x; rw [E_row hra, hcol]
      rw [e2, E_row hra, hcol]
      refine ⟨qfit (hpos _) (hq a t ha htn) hden0 (p2 (by show 200 + 343 * k ≤ 4400; omega)), qfit hD0 (hM t j htn hj) hDL (p2 (by decide)), ?_, hsum a j t ha hj (by omega)⟩
      exact qfit (hpos _) (hprod a j t ha hj htn) hden (p2 (by show 200 + 343 * k + 340 ≤ 4400; omega))
    · have hci : p.getD i 0 ∈ p := by
        rw [List.getD_eq_getElem?_getD, List.getElem?_eq_getElem hi]; exact List.getElem_mem hi
      exact qfit hE0 (hP _ hci) (Nat.le_trans hE (p2 (by decide))) (p2 (by decide))
    · rw [Ma.E_times sqV sq ha ha]
      exact hsum a a n ha ha (Nat.le_refl _)
  · have hq := hv p hP
    have sqV := Ma.sq_valueAt sq p
    obtain ⟨i, hi, e1⟩ := List.getElem_of_mem hr
    obtain ⟨j, hj, e2⟩ := List.getElem_of_mem hcr
    have hin : i < n := by rw [← sqV.rows]; exact hi
    have hjn : j < n := by rw [← sqV.wid r hr]; exact hj
    have hE' : Ma.E (Al09.valueAt M p) i j = c := Ma.E_of (r := r) (by rw [List.getElem?_eq_getElem hi, e1]) (by rw [List.getElem?_eq_getElem hj, e2])
    have h1 := hq i j hin hjn
    rw [hE'] at h1
    have h2 := h1.parts (hpos _)
    have h3 : Ep * D ^ p.length ≤ 2 ^ 4400 := Ma.den_bound hD hE (by omega)
    exact ⟨Nat.le_trans h2.1 (p2 (by omega)), Nat.le_trans h2.2 h3⟩
theorem coefs_small {ts : Ma.Tms} (h : ts.any Ma.badT = false) : (Ma.coefs ts).length ≤ 9 ∧ ∀ c ∈ Ma.coefs ts, Ma.Small c := by
  refine ⟨?_, fun c hc => ?_⟩
  · have := Ma.trim_len ((List.range 9).map (Ma.cf ts))
    rw [List.length_map, List.length_range] at this
    exact this
  · have := Ma.trim_sub hc
    rw [List.mem_map] at this
    obtain ⟨n, _, e⟩ := this
    rw [← e]
    rcases Ma.cf_mem ts n with h0 | ⟨x, hx, e2⟩
    · rw [h0]; exact ⟨Nat.zero_le _, by decide⟩
    · rw [← e2]
      refine ok_small ?_
      have hb : ¬ Ma.badT x = true := fun hb => by
        have := List.any_eq_true.mpr ⟨x, hx, hb⟩
        rw [h] at this; cases this
      unfold Ma.badT at hb
      cases hh : Al09.numberOk x.1 with
      | true => rfl
      | false => rw [hh] at hb; simp at hb
section
variable {P : Program} {w : World} {K : PySem.W.Frag} {mg : Str → Option Value} {base : Heap}
/-- what is due -/
def goV (n : Nat) (u : List Nat) (cs : List Rat) : Al09.Ans := match AlOne.read u with
  | none => Al09.no (-1)
  | some p => if 9 < p.length ∨ p.all Al09.numberOk = false then Al09.no (-2) else Al09.toldTable (Al09.valueAt (Al09.tableOf n 0 cs) p)
def ansV (n : Nat) (us : List (List Nat)) : Al09.Ans := match us with
  | [] => Al09.no (-6)
  | u :: l => Al09.withN n 1 0 l (goV n u)
def dueValue (n : Nat) (us : List (List Nat)) : List Int := shown (ansV n us)
theorem due_eq (n : Nat) (us : List (List Nat)) : PyAl09.value (n : Int) (us.map fun u => u.map fun (x : Nat) => (x : Int)) = dueValue n us := by
  have h := nats_back us
  have h2 : PyAl09.value (n : Int) (us.map fun u => u.map fun (x : Nat) => (x : Int)) = shown (Al09.answer (.value ((n : Int).toNat) ((us.map fun u => u.map fun (x : Nat) => (x : Int)).map Al09Neutral.nats))) := rfl
  rw [h2, h, Int.toNat_natCast]
  cases us <;> rfl
theorem polRef_neg {u : List Nat} (h : polRef u ≠ 0) : polRef u < 0 := by
  unfold polRef at *
  split
  · decide
  · rename_i ts e
    rw [e] at h
    simp only at h
    split
    · decide
    · rename_i h2
      rw [if_neg h2] at h
      exact absurd rfl h
theorem ok_value (T : Txt K mg) : FnOk P w K mg base CX0 7 T.f_value T.e_value ["n", "texts"] (spTop2 K dueValue) := by
  refine T.d_value.F.ok sc_value (fun vs H Q E h => ?_) (fun cdv A outer s H vs Q E hr h => ?_)
  · obtain ⟨a, ts, us, n, rfl, _⟩ := h
    rfl
  · obtain ⟨a, ts, us, n, rfl, hn32, ha, hT, hl, hn, q⟩ := h
    refine ⟨_, pss_cons (ps_set (i := 2) sc_value.nd rfl (.inl rfl) (pe_D T.d_counted_refusal (ok_counted_refusal T) hr (pa_cons (pv 0) (pa_cons (pe_slice sl_list (pv 1) (po_some pe_int) po_none) (pa_cons (pe_op op_mulW (pv 0) (pv 0)) pa_nil)))))
      (pss_cons (ps_if (pt_cmpR op_eq (pv 2) pe_int (nomark _)) (pss_one (ps_set (i := 2) sc_value.nd rfl (.inl rfl) (pe_D T.d_poly_refusal (ok_poly_refusal T) hr (pa_cons (pe_ix ix_list (pv 1) pe_int (fun _ _ => rfl)) pa_nil)))) pss_nil)
      (pss_cons (ps_if (pt_cmpR op_lt (pv 2) pe_int (nomark _)) (pss_one (ps_ret (pe_lst (pa_cons (pv 2) pa_nil)))) pss_nil)
      (pss_one (ps_ret (pe_D T.d_table_answer (ok_table_answer T) hr (pa_cons (pe_D T.d_poly_at (ok_poly_at T) hr (pa_cons (pe_D T.d_poly_of (ok_poly_of T) hr (pa_cons (pe_ix ix_list (pv 1) pe_int (fun _ _ => rfl)) pa_nil)) (pa_cons (pe_D T.d_table_of (ok_table_of T) hr (pa_cons (pe_slice sl_list (pv 1) (po_some pe_int) po_none) pa_nil)) pa_nil))) pa_nil)))))), ?_⟩
    have e1 : ((n : Nat) : Int) * ((n : Nat) : Int) = ((1 * (n * n) + 0 : Nat) : Int) := by rw [Nat.one_mul, Nat.add_zero, Int.natCast_mul]
    have hTl := hT.len
    refine ⟨_, rfl, _, rfl, 1, rfl, a, ts, rfl, ha, fun p1 n1 => ?_⟩
    rw [show cutV ts (some 1) none = ts.drop 1 from cut_from (c := 1)]
    have s1 := same_upd (o := .lst (ts.drop 1)) n1
    have h1 : SqL K (upd H p1 (.lst (ts.drop 1))) p1 (ts.drop 1) := SqL.of upd_same
    generalize upd H p1 (.lst (ts.drop 1)) = H1 at s1 h1
    refine ⟨_, rfl, _, rfl, _, _, rfl, rfl, mulN hn32 hn32 (by decide), ?_⟩
    refine ⟨p1, ts.drop 1, us.drop 1, n, 1 * (n * n) + 0, (by show [V.int (n : Int), V.ref p1, V.int ((n : Int) * (n : Int))] = _; rw [e1]), h1, (hT.same s1).drop 1, fun u hu => hl u (List.mem_of_mem_drop hu), by rw [List.length_drop]; omega, fun H2 s2 => ?_⟩
    have s12 := s1.trans s2
    refine ⟨_, rfl, rfl, _, rfl, ?_⟩
    by_cases h0 : cntRef n (1 * (n * n) + 0) (us.drop 1) = 0
    · obtain ⟨hn1, hn4, hul, cs, hm, hall, hlen, hgo⟩ := withN_ok h0
      have hq16 := sq_le hn4
      have hnn : 1 ≤ n * n := Nat.mul_le_mul hn1 hn1
      cases us with
      | nil => simp at hul; omega
      | cons u us' =>
        have hul : us'.length = 1 * (n * n) + 0 := hul
        have hm : us'.map Ma.numberM = cs.map some := hm
        have hlen : cs.length = us'.length := hlen
        have hgo : ∀ go : List Rat → Al09.Ans, Al09.withN n 1 0 us' go = go cs := hgo
        rw [h0]
        have : decide (V.int 0 = V.int 0) = true := rfl
        rw [this]
        refine iteT ?_
        obtain ⟨vt, ts', hts⟩ : ∃ vt ts', ts = vt :: ts' := by
          cases ts with
          | nil => cases hTl
          | cons vt ts' => exact ⟨vt, ts', rfl⟩
        subst hts
        obtain ⟨⟨bu, rfl, hbu⟩, hT'⟩ := hT
        have hul1 := hl u List.mem_cons_self
        refine ⟨_, rfl, a, _, 0, .ref bu, rfl, rfl, s12.seq ha, atI_nat (j := 0) rfl, bu, u, rfl, s12.seq hbu, hul1, fun H3 s3 => ?_⟩
        have s13 := s12.trans s3
        have hdue : dueValue n (u :: us') = shown (goV n u cs) := by show shown (Al09.withN n 1 0 us' (goV n u)) = _; rw [hgo]
        have hrv : goV n u cs = match Ma.termsM u with
            | none => Al09.no (-1)
            | some ts => if ts.any Ma.badT then Al09.no (-2) else Al09.toldTable (Al09.valueAt (Al09.tableOf n 0 cs) (Ma.coefs ts)) := Ma.read_value u fun p => Al09.toldTable (Al09.valueAt (Al09.tableOf n 0 cs) p)
        refine ⟨_, rfl, _, _, rfl, rfl, _, rfl, ?_⟩
        by_cases hp0 : polRef u = 0
        · rw [hp0]
          refine iteF ?_
          obtain ⟨tms, htm, hnb⟩ : ∃ tms, Ma.termsM u = some tms ∧ tms.any Ma.badT = false := by
            unfold polRef at hp0
            split at hp0
            · cases hp0
            · rename_i tms e
              refine ⟨tms, e, ?_⟩
              cases hb : tms.any Ma.badT with
              | false => rfl
              | true => rw [hb] at hp0; cases hp0
          rw [htm] at hrv
          have hrv : goV n u cs = Al09.toldTable (Al09.valueAt (Al09.tableOf n 0 cs) (Ma.coefs tms)) := by
            rw [hrv]
            show (if tms.any Ma.badT = true then _ else _) = _
            rw [hnb]; rfl
          refine ⟨_, rfl, a, _, 0, .ref bu, rfl, rfl, s13.seq ha, atI_nat (j := 0) rfl, bu, u, tms, rfl, s13.seq hbu, hul1, htm, hnb, fun H4 p4 s4 h4 => ?_⟩
          have s14 := s13.trans s4
          refine ⟨_, rfl, 1, rfl, a, _, rfl, s14.seq ha, fun p5 n5 => ?_⟩
          rw [show cutV (V.ref bu :: ts') (some 1) none = (V.ref bu :: ts').drop 1 from cut_from (c := 1)]
          have s5 := same_upd (o := .lst ((V.ref bu :: ts').drop 1)) n5
          have h5 : SqL K (upd H4 p5 (.lst ((V.ref bu :: ts').drop 1))) p5 ts' := SqL.of upd_same
          have h4' := h4.same s5
          generalize upd H4 p5 (.lst ((V.ref bu :: ts').drop 1)) = H5 at s5 h5 h4'
          have s15 := s14.trans s5
          refine ⟨p5, ts', us', n, cs, rfl, h5, hT'.same s15, fun x hx => hl x (List.mem_cons_of_mem _ hx), by omega, ?_, hm, fun H6 r6 s6 h6 => ?_⟩
          · rw [hul, Nat.one_mul, Nat.add_zero]; exact side_of hn1 hn4
          have etab : Al09.tableOf n 0 cs = Al09.rowsOf n n cs := by unfold Al09.tableOf; rw [Nat.zero_mul]; rfl
          have sq := sq_rowsOf (n := n) (l := cs) (by omega)
          have smt := small_rowsOf (n := n) (k := n) hall
          obtain ⟨hcl, hcs⟩ := coefs_small hnb
          obtain ⟨ok1, ok2⟩ := val_ok sq hn4 smt hcl hcs
          refine ⟨p4, r6, _, _, n, rfl, h4'.same s6, h6, sq, hn4, ok1, fun H7 r7 s7 h7 => ?_⟩
          have sqV := Ma.sq_valueAt sq (Ma.coefs tms)
          refine ⟨r7, _, rfl, h7, by rw [sqV.rows]; omega, fun r hr' => by rw [sqV.wid r hr']; omega, ok2, fun H8 p8 s8 h8 => q H8 p8 ?_⟩
          rw [h8, hdue, hrv, etab]
        · have hneg := polRef_neg hp0
          rw [decide_eq_true hneg]
          refine iteT ?_
          refine ⟨_, rfl, (by show 1 ≤ sizeLine; decide), fun p np => ?_⟩
          refine q _ p ?_
          have : goV n u cs = Al09.no (polRef u) := by
            cases htm : Ma.termsM u with
            | none =>
              have e9 : polRef u = -1 := by unfold polRef; rw [htm]
              rw [htm] at hrv
              have hrv' : goV n u cs = Al09.no (-1) := hrv
              rw [hrv', e9]
            | some tms =>
              have e9 : polRef u = if tms.any Ma.badT then -2 else 0 := by unfold polRef; rw [htm]
              rw [htm] at hrv
              have hrv' : goV n u cs = if tms.any Ma.badT then Al09.no (-2) else Al09.toldTable (Al09.valueAt (Al09.tableOf n 0 cs) (Ma.coefs tms)) := hrv
              rw [e9] at hp0 ⊢
              by_cases hb : tms.any Ma.badT = true
              · rw [if_pos hb, hrv', if_pos hb]
              · rw [if_neg hb] at hp0; exact absurd rfl hp0
          rw [upd_same, hdue, this]; rfl
    · have hneg := cntRef_neg h0
      have hne : decide (V.int (cntRef n (1 * (n * n) + 0) (us.drop 1)) = V.int 0) = false := by
        rw [decide_eq_false]
        intro e
        exact h0 (V.int.inj e)
      rw [hne]
      refine iteF ?_
      refine ⟨_, rfl, _, _, rfl, rfl, _, rfl, ?_⟩
      rw [decide_eq_true hneg]
      refine iteT ?_
      refine ⟨_, rfl, (by show 1 ≤ sizeLine; decide), fun p np => ?_⟩
      refine q _ p ?_
      have hdue : dueValue n us = [cntRef n (1 * (n * n) + 0) (us.drop 1)] := by
        unfold dueValue ansV
        cases us with
        | nil =>
          have : cntRef n (1 * (n * n) + 0) (([] : List (List Nat)).drop 1) = -6 := by
            unfold cntRef
            rw [if_pos]
            by_cases h9 : n < 1
            · exact .inl h9
            · refine .inr (.inr ?_)
              have : 1 ≤ n * n := Nat.mul_le_mul (show 1 ≤ n by omega) (show 1 ≤ n by omega)
              simp; omega
          rw [this]; rfl
        | cons u us' =>
          show shown (Al09.withN n 1 0 us' (goV n u)) = _
          rw [withN_no (us := us') _ h0]; rfl
      rw [upd_same, hdue]; rfl
end
end W
set_option maxRecDepth 100000
namespace W
open PySem PySem.Spec PyProof.Rows L2
open PySem.W (WData Codec)
set_option maxHeartbeats 4000000 in
theorem all_mk {P : Program} {w : World} {K : PySem.W.Frag} {h : Heap} {mg : Str → Option Value} {fa : Addr} (X : K.In h) (G : h.Ns mainGlobals mg) (hfa : mg "value" = some (.ref fa))
    {f_whole_common : Addr} {od_whole_common an_whole_common : Option Addr} {sl_whole_common : Array (Option Value)} {oc_whole_common kV_whole_common dc_whole_common pm_whole_common cd_whole_common ct_whole_common : Value}
    (a_whole_common : PySem.W.nsIn K mainGlobals "whole_common" = some (some (.ref f_whole_common))) (l_whole_common : K.lookup f_whole_common = some ⟨oc_whole_common, od_whole_common, .func (PySem.W.fnOf "whole_common" "whole_common" (defArgs s_whole_common) (defBody s_whole_common) (defScope s_whole_common) .none kV_whole_common dc_whole_common pm_whole_common an_whole_common cd_whole_common ct_whole_common), sl_whole_common⟩) (c_whole_common : PySem.W.codeIn K cd_whole_common "whole_common" = true) (k_whole_common : PySem.W.keepIn K (.ref f_whole_common) = true)
    {f_lowest : Addr} {od_lowest an_lowest : Option Addr} {sl_lowest : Array (Option Value)} {oc_lowest kV_lowest dc_lowest pm_lowest cd_lowest ct_lowest : Value}
    (a_lowest : PySem.W.nsIn K mainGlobals "lowest" = some (some (.ref f_lowest))) (l_lowest : K.lookup f_lowest = some ⟨oc_lowest, od_lowest, .func (PySem.W.fnOf "lowest" "lowest" (defArgs s_lowest) (defBody s_lowest) (defScope s_lowest) .none kV_lowest dc_lowest pm_lowest an_lowest cd_lowest ct_lowest), sl_lowest⟩) (c_lowest : PySem.W.codeIn K cd_lowest "lowest" = true) (k_lowest : PySem.W.keepIn K (.ref f_lowest) = true)
    {f_ratio_sum : Addr} {od_ratio_sum an_ratio_sum : Option Addr} {sl_ratio_sum : Array (Option Value)} {oc_ratio_sum kV_ratio_sum dc_ratio_sum pm_ratio_sum cd_ratio_sum ct_ratio_sum : Value}
    (a_ratio_sum : PySem.W.nsIn K mainGlobals "ratio_sum" = some (some (.ref f_ratio_sum))) (l_ratio_sum : K.lookup f_ratio_sum = some ⟨oc_ratio_sum, od_ratio_sum, .func (PySem.W.fnOf "ratio_sum" "ratio_sum" (defArgs s_ratio_sum) (defBody s_ratio_sum) (defScope s_ratio_sum) .none kV_ratio_sum dc_ratio_sum pm_ratio_sum an_ratio_sum cd_ratio_sum ct_ratio_sum), sl_ratio_sum⟩) (c_ratio_sum : PySem.W.codeIn K cd_ratio_sum "ratio_sum" = true) (k_ratio_sum : PySem.W.keepIn K (.ref f_ratio_sum) = true)
    {f_ratio_minus : Addr} {od_ratio_minus an_ratio_minus : Option Addr} {sl_ratio_minus : Array (Option Value)} {oc_ratio_minus kV_ratio_minus dc_ratio_minus pm_ratio_minus cd_ratio_minus ct_ratio_minus : Value}
    (a_ratio_minus : PySem.W.nsIn K mainGlobals "ratio_minus" = some (some (.ref f_ratio_minus))) (l_ratio_minus : K.lookup f_ratio_minus = some ⟨oc_ratio_minus, od_ratio_minus, .func (PySem.W.fnOf "ratio_minus" "ratio_minus" (defArgs s_ratio_minus) (defBody s_ratio_minus) (defScope s_ratio_minus) .none kV_ratio_minus dc_ratio_minus pm_ratio_minus an_ratio_minus cd_ratio_minus ct_ratio_minus), sl_ratio_minus⟩) (c_ratio_minus : PySem.W.codeIn K cd_ratio_minus "ratio_minus" = true) (k_ratio_minus : PySem.W.keepIn K (.ref f_ratio_minus) = true)
    {f_ratio_product : Addr} {od_ratio_product an_ratio_product : Option Addr} {sl_ratio_product : Array (Option Value)} {oc_ratio_product kV_ratio_product dc_ratio_product pm_ratio_product cd_ratio_product ct_ratio_product : Value}
    (a_ratio_product : PySem.W.nsIn K mainGlobals "ratio_product" = some (some (.ref f_ratio_product))) (l_ratio_product : K.lookup f_ratio_product = some ⟨oc_ratio_product, od_ratio_product, .func (PySem.W.fnOf "ratio_product" "ratio_product" (defArgs s_ratio_product) (defBody s_ratio_product) (defScope s_ratio_product) .none kV_ratio_product dc_ratio_product pm_ratio_product an_ratio_product cd_ratio_product ct_ratio_product), sl_ratio_product⟩) (c_ratio_product : PySem.W.codeIn K cd_ratio_product "ratio_product" = true) (k_ratio_product : PySem.W.keepIn K (.ref f_ratio_product) = true)
    {f_empty_table : Addr} {od_empty_table an_empty_table : Option Addr} {sl_empty_table : Array (Option Value)} {oc_empty_table kV_empty_table dc_empty_table pm_empty_table cd_empty_table ct_empty_table : Value}
    (a_empty_table : PySem.W.nsIn K mainGlobals "empty_table" = some (some (.ref f_empty_table))) (l_empty_table : K.lookup f_empty_table = some ⟨oc_empty_table, od_empty_table, .func (PySem.W.fnOf "empty_table" "empty_table" (defArgs s_empty_table) (defBody s_empty_table) (defScope s_empty_table) .none kV_empty_table dc_empty_table pm_empty_table an_empty_table cd_empty_table ct_empty_table), sl_empty_table⟩) (c_empty_table : PySem.W.codeIn K cd_empty_table "empty_table" = true) (k_empty_table : PySem.W.keepIn K (.ref f_empty_table) = true)
    {f_row_times : Addr} {od_row_times an_row_times : Option Addr} {sl_row_times : Array (Option Value)} {oc_row_times kV_row_times dc_row_times pm_row_times cd_row_times ct_row_times : Value}
    (a_row_times : PySem.W.nsIn K mainGlobals "row_times" = some (some (.ref f_row_times))) (l_row_times : K.lookup f_row_times = some ⟨oc_row_times, od_row_times, .func (PySem.W.fnOf "row_times" "row_times" (defArgs s_row_times) (defBody s_row_times) (defScope s_row_times) .none kV_row_times dc_row_times pm_row_times an_row_times cd_row_times ct_row_times), sl_row_times⟩) (c_row_times : PySem.W.codeIn K cd_row_times "row_times" = true) (k_row_times : PySem.W.keepIn K (.ref f_row_times) = true)
    {f_column_of : Addr} {od_column_of an_column_of : Option Addr} {sl_column_of : Array (Option Value)} {oc_column_of kV_column_of dc_column_of pm_column_of cd_column_of ct_column_of : Value}
    (a_column_of : PySem.W.nsIn K mainGlobals "column_of" = some (some (.ref f_column_of))) (l_column_of : K.lookup f_column_of = some ⟨oc_column_of, od_column_of, .func (PySem.W.fnOf "column_of" "column_of" (defArgs s_column_of) (defBody s_column_of) (defScope s_column_of) .none kV_column_of dc_column_of pm_column_of an_column_of cd_column_of ct_column_of), sl_column_of⟩) (c_column_of : PySem.W.codeIn K cd_column_of "column_of" = true) (k_column_of : PySem.W.keepIn K (.ref f_column_of) = true)
    {f_table_product : Addr} {od_table_product an_table_product : Option Addr} {sl_table_product : Array (Option Value)} {oc_table_product kV_table_product dc_table_product pm_table_product cd_table_product ct_table_product : Value}
    (a_table_product : PySem.W.nsIn K mainGlobals "table_product" = some (some (.ref f_table_product))) (l_table_product : K.lookup f_table_product = some ⟨oc_table_product, od_table_product, .func (PySem.W.fnOf "table_product" "table_product" (defArgs s_table_product) (defBody s_table_product) (defScope s_table_product) .none kV_table_product dc_table_product pm_table_product an_table_product cd_table_product ct_table_product), sl_table_product⟩) (c_table_product : PySem.W.codeIn K cd_table_product "table_product" = true) (k_table_product : PySem.W.keepIn K (.ref f_table_product) = true)
    {f_poly_at : Addr} {od_poly_at an_poly_at : Option Addr} {sl_poly_at : Array (Option Value)} {oc_poly_at kV_poly_at dc_poly_at pm_poly_at cd_poly_at ct_poly_at : Value}
    (a_poly_at : PySem.W.nsIn K mainGlobals "poly_at" = some (some (.ref f_poly_at))) (l_poly_at : K.lookup f_poly_at = some ⟨oc_poly_at, od_poly_at, .func (PySem.W.fnOf "poly_at" "poly_at" (defArgs s_poly_at) (defBody s_poly_at) (defScope s_poly_at) .none kV_poly_at dc_poly_at pm_poly_at an_poly_at cd_poly_at ct_poly_at), sl_poly_at⟩) (c_poly_at : PySem.W.codeIn K cd_poly_at "poly_at" = true) (k_poly_at : PySem.W.keepIn K (.ref f_poly_at) = true)
    {f_trimmed : Addr} {od_trimmed an_trimmed : Option Addr} {sl_trimmed : Array (Option Value)} {oc_trimmed kV_trimmed dc_trimmed pm_trimmed cd_trimmed ct_trimmed : Value}
    (a_trimmed : PySem.W.nsIn K mainGlobals "trimmed" = some (some (.ref f_trimmed))) (l_trimmed : K.lookup f_trimmed = some ⟨oc_trimmed, od_trimmed, .func (PySem.W.fnOf "trimmed" "trimmed" (defArgs s_trimmed) (defBody s_trimmed) (defScope s_trimmed) .none kV_trimmed dc_trimmed pm_trimmed an_trimmed cd_trimmed ct_trimmed), sl_trimmed⟩) (c_trimmed : PySem.W.codeIn K cd_trimmed "trimmed" = true) (k_trimmed : PySem.W.keepIn K (.ref f_trimmed) = true)
    {f_whole_of : Addr} {od_whole_of an_whole_of : Option Addr} {sl_whole_of : Array (Option Value)} {oc_whole_of kV_whole_of dc_whole_of pm_whole_of cd_whole_of ct_whole_of : Value}
    (a_whole_of : PySem.W.nsIn K mainGlobals "whole_of" = some (some (.ref f_whole_of))) (l_whole_of : K.lookup f_whole_of = some ⟨oc_whole_of, od_whole_of, .func (PySem.W.fnOf "whole_of" "whole_of" (defArgs s_whole_of) (defBody s_whole_of) (defScope s_whole_of) .none kV_whole_of dc_whole_of pm_whole_of an_whole_of cd_whole_of ct_whole_of), sl_whole_of⟩) (c_whole_of : PySem.W.codeIn K cd_whole_of "whole_of" = true) (k_whole_of : PySem.W.keepIn K (.ref f_whole_of) = true)
    {f_unsigned_of : Addr} {od_unsigned_of an_unsigned_of : Option Addr} {sl_unsigned_of : Array (Option Value)} {oc_unsigned_of kV_unsigned_of dc_unsigned_of pm_unsigned_of cd_unsigned_of ct_unsigned_of : Value}
    (a_unsigned_of : PySem.W.nsIn K mainGlobals "unsigned_of" = some (some (.ref f_unsigned_of))) (l_unsigned_of : K.lookup f_unsigned_of = some ⟨oc_unsigned_of, od_unsigned_of, .func (PySem.W.fnOf "unsigned_of" "unsigned_of" (defArgs s_unsigned_of) (defBody s_unsigned_of) (defScope s_unsigned_of) .none kV_unsigned_of dc_unsigned_of pm_unsigned_of an_unsigned_of cd_unsigned_of ct_unsigned_of), sl_unsigned_of⟩) (c_unsigned_of : PySem.W.codeIn K cd_unsigned_of "unsigned_of" = true) (k_unsigned_of : PySem.W.keepIn K (.ref f_unsigned_of) = true)
    {f_number_of : Addr} {od_number_of an_number_of : Option Addr} {sl_number_of : Array (Option Value)} {oc_number_of kV_number_of dc_number_of pm_number_of cd_number_of ct_number_of : Value}
    (a_number_of : PySem.W.nsIn K mainGlobals "number_of" = some (some (.ref f_number_of))) (l_number_of : K.lookup f_number_of = some ⟨oc_number_of, od_number_of, .func (PySem.W.fnOf "number_of" "number_of" (defArgs s_number_of) (defBody s_number_of) (defScope s_number_of) .none kV_number_of dc_number_of pm_number_of an_number_of cd_number_of ct_number_of), sl_number_of⟩) (c_number_of : PySem.W.codeIn K cd_number_of "number_of" = true) (k_number_of : PySem.W.keepIn K (.ref f_number_of) = true)
    {f_numbers_of : Addr} {od_numbers_of an_numbers_of : Option Addr} {sl_numbers_of : Array (Option Value)} {oc_numbers_of kV_numbers_of dc_numbers_of pm_numbers_of cd_numbers_of ct_numbers_of : Value}
    (a_numbers_of : PySem.W.nsIn K mainGlobals "numbers_of" = some (some (.ref f_numbers_of))) (l_numbers_of : K.lookup f_numbers_of = some ⟨oc_numbers_of, od_numbers_of, .func (PySem.W.fnOf "numbers_of" "numbers_of" (defArgs s_numbers_of) (defBody s_numbers_of) (defScope s_numbers_of) .none kV_numbers_of dc_numbers_of pm_numbers_of an_numbers_of cd_numbers_of ct_numbers_of), sl_numbers_of⟩) (c_numbers_of : PySem.W.codeIn K cd_numbers_of "numbers_of" = true) (k_numbers_of : PySem.W.keepIn K (.ref f_numbers_of) = true)
    {f_is_long : Addr} {od_is_long an_is_long : Option Addr} {sl_is_long : Array (Option Value)} {oc_is_long kV_is_long dc_is_long pm_is_long cd_is_long ct_is_long : Value}
    (a_is_long : PySem.W.nsIn K mainGlobals "is_long" = some (some (.ref f_is_long))) (l_is_long : K.lookup f_is_long = some ⟨oc_is_long, od_is_long, .func (PySem.W.fnOf "is_long" "is_long" (defArgs s_is_long) (defBody s_is_long) (defScope s_is_long) .none kV_is_long dc_is_long pm_is_long an_is_long cd_is_long ct_is_long), sl_is_long⟩) (c_is_long : PySem.W.codeIn K cd_is_long "is_long" = true) (k_is_long : PySem.W.keepIn K (.ref f_is_long) = true)
    {f_numbers_refusal : Addr} {od_numbers_refusal an_numbers_refusal : Option Addr} {sl_numbers_refusal : Array (Option Value)} {oc_numbers_refusal kV_numbers_refusal dc_numbers_refusal pm_numbers_refusal cd_numbers_refusal ct_numbers_refusal : Value}
    (a_numbers_refusal : PySem.W.nsIn K mainGlobals "numbers_refusal" = some (some (.ref f_numbers_refusal))) (l_numbers_refusal : K.lookup f_numbers_refusal = some ⟨oc_numbers_refusal, od_numbers_refusal, .func (PySem.W.fnOf "numbers_refusal" "numbers_refusal" (defArgs s_numbers_refusal) (defBody s_numbers_refusal) (defScope s_numbers_refusal) .none kV_numbers_refusal dc_numbers_refusal pm_numbers_refusal an_numbers_refusal cd_numbers_refusal ct_numbers_refusal), sl_numbers_refusal⟩) (c_numbers_refusal : PySem.W.codeIn K cd_numbers_refusal "numbers_refusal" = true) (k_numbers_refusal : PySem.W.keepIn K (.ref f_numbers_refusal) = true)
    {f_counted_refusal : Addr} {od_counted_refusal an_counted_refusal : Option Addr} {sl_counted_refusal : Array (Option Value)} {oc_counted_refusal kV_counted_refusal dc_counted_refusal pm_counted_refusal cd_counted_refusal ct_counted_refusal : Value}
    (a_counted_refusal : PySem.W.nsIn K mainGlobals "counted_refusal" = some (some (.ref f_counted_refusal))) (l_counted_refusal : K.lookup f_counted_refusal = some ⟨oc_counted_refusal, od_counted_refusal, .func (PySem.W.fnOf "counted_refusal" "counted_refusal" (defArgs s_counted_refusal) (defBody s_counted_refusal) (defScope s_counted_refusal) .none kV_counted_refusal dc_counted_refusal pm_counted_refusal an_counted_refusal cd_counted_refusal ct_counted_refusal), sl_counted_refusal⟩) (c_counted_refusal : PySem.W.codeIn K cd_counted_refusal "counted_refusal" = true) (k_counted_refusal : PySem.W.keepIn K (.ref f_counted_refusal) = true)
    {f_table_of : Addr} {od_table_of an_table_of : Option Addr} {sl_table_of : Array (Option Value)} {oc_table_of kV_table_of dc_table_of pm_table_of cd_table_of ct_table_of : Value}
    (a_table_of : PySem.W.nsIn K mainGlobals "table_of" = some (some (.ref f_table_of))) (l_table_of : K.lookup f_table_of = some ⟨oc_table_of, od_table_of, .func (PySem.W.fnOf "table_of" "table_of" (defArgs s_table_of) (defBody s_table_of) (defScope s_table_of) .none kV_table_of dc_table_of pm_table_of an_table_of cd_table_of ct_table_of), sl_table_of⟩) (c_table_of : PySem.W.codeIn K cd_table_of "table_of" = true) (k_table_of : PySem.W.keepIn K (.ref f_table_of) = true)
    {f_power_of : Addr} {od_power_of an_power_of : Option Addr} {sl_power_of : Array (Option Value)} {oc_power_of kV_power_of dc_power_of pm_power_of cd_power_of ct_power_of : Value}
    (a_power_of : PySem.W.nsIn K mainGlobals "power_of" = some (some (.ref f_power_of))) (l_power_of : K.lookup f_power_of = some ⟨oc_power_of, od_power_of, .func (PySem.W.fnOf "power_of" "power_of" (defArgs s_power_of) (defBody s_power_of) (defScope s_power_of) .none kV_power_of dc_power_of pm_power_of an_power_of cd_power_of ct_power_of), sl_power_of⟩) (c_power_of : PySem.W.codeIn K cd_power_of "power_of" = true) (k_power_of : PySem.W.keepIn K (.ref f_power_of) = true)
    {f_factor_of : Addr} {od_factor_of an_factor_of : Option Addr} {sl_factor_of : Array (Option Value)} {oc_factor_of kV_factor_of dc_factor_of pm_factor_of cd_factor_of ct_factor_of : Value}
    (a_factor_of : PySem.W.nsIn K mainGlobals "factor_of" = some (some (.ref f_factor_of))) (l_factor_of : K.lookup f_factor_of = some ⟨oc_factor_of, od_factor_of, .func (PySem.W.fnOf "factor_of" "factor_of" (defArgs s_factor_of) (defBody s_factor_of) (defScope s_factor_of) .none kV_factor_of dc_factor_of pm_factor_of an_factor_of cd_factor_of ct_factor_of), sl_factor_of⟩) (c_factor_of : PySem.W.codeIn K cd_factor_of "factor_of" = true) (k_factor_of : PySem.W.keepIn K (.ref f_factor_of) = true)
    {f_term_of : Addr} {od_term_of an_term_of : Option Addr} {sl_term_of : Array (Option Value)} {oc_term_of kV_term_of dc_term_of pm_term_of cd_term_of ct_term_of : Value}
    (a_term_of : PySem.W.nsIn K mainGlobals "term_of" = some (some (.ref f_term_of))) (l_term_of : K.lookup f_term_of = some ⟨oc_term_of, od_term_of, .func (PySem.W.fnOf "term_of" "term_of" (defArgs s_term_of) (defBody s_term_of) (defScope s_term_of) .none kV_term_of dc_term_of pm_term_of an_term_of cd_term_of ct_term_of), sl_term_of⟩) (c_term_of : PySem.W.codeIn K cd_term_of "term_of" = true) (k_term_of : PySem.W.keepIn K (.ref f_term_of) = true)
    {f_pieces_of : Addr} {od_pieces_of an_pieces_of : Option Addr} {sl_pieces_of : Array (Option Value)} {oc_pieces_of kV_pieces_of dc_pieces_of pm_pieces_of cd_pieces_of ct_pieces_of : Value}
    (a_pieces_of : PySem.W.nsIn K mainGlobals "pieces_of" = some (some (.ref f_pieces_of))) (l_pieces_of : K.lookup f_pieces_of = some ⟨oc_pieces_of, od_pieces_of, .func (PySem.W.fnOf "pieces_of" "pieces_of" (defArgs s_pieces_of) (defBody s_pieces_of) (defScope s_pieces_of) .none kV_pieces_of dc_pieces_of pm_pieces_of an_pieces_of cd_pieces_of ct_pieces_of), sl_pieces_of⟩) (c_pieces_of : PySem.W.codeIn K cd_pieces_of "pieces_of" = true) (k_pieces_of : PySem.W.keepIn K (.ref f_pieces_of) = true)
    {f_signed_pieces : Addr} {od_signed_pieces an_signed_pieces : Option Addr} {sl_signed_pieces : Array (Option Value)} {oc_signed_pieces kV_signed_pieces dc_signed_pieces pm_signed_pieces cd_signed_pieces ct_signed_pieces : Value}
    (a_signed_pieces : PySem.W.nsIn K mainGlobals "signed_pieces" = some (some (.ref f_signed_pieces))) (l_signed_pieces : K.lookup f_signed_pieces = some ⟨oc_signed_pieces, od_signed_pieces, .func (PySem.W.fnOf "signed_pieces" "signed_pieces" (defArgs s_signed_pieces) (defBody s_signed_pieces) (defScope s_signed_pieces) .none kV_signed_pieces dc_signed_pieces pm_signed_pieces an_signed_pieces cd_signed_pieces ct_signed_pieces), sl_signed_pieces⟩) (c_signed_pieces : PySem.W.codeIn K cd_signed_pieces "signed_pieces" = true) (k_signed_pieces : PySem.W.keepIn K (.ref f_signed_pieces) = true)
    {f_falling : Addr} {od_falling an_falling : Option Addr} {sl_falling : Array (Option Value)} {oc_falling kV_falling dc_falling pm_falling cd_falling ct_falling : Value}
    (a_falling : PySem.W.nsIn K mainGlobals "falling" = some (some (.ref f_falling))) (l_falling : K.lookup f_falling = some ⟨oc_falling, od_falling, .func (PySem.W.fnOf "falling" "falling" (defArgs s_falling) (defBody s_falling) (defScope s_falling) .none kV_falling dc_falling pm_falling an_falling cd_falling ct_falling), sl_falling⟩) (c_falling : PySem.W.codeIn K cd_falling "falling" = true) (k_falling : PySem.W.keepIn K (.ref f_falling) = true)
    {f_terms_of : Addr} {od_terms_of an_terms_of : Option Addr} {sl_terms_of : Array (Option Value)} {oc_terms_of kV_terms_of dc_terms_of pm_terms_of cd_terms_of ct_terms_of : Value}
    (a_terms_of : PySem.W.nsIn K mainGlobals "terms_of" = some (some (.ref f_terms_of))) (l_terms_of : K.lookup f_terms_of = some ⟨oc_terms_of, od_terms_of, .func (PySem.W.fnOf "terms_of" "terms_of" (defArgs s_terms_of) (defBody s_terms_of) (defScope s_terms_of) .none kV_terms_of dc_terms_of pm_terms_of an_terms_of cd_terms_of ct_terms_of), sl_terms_of⟩) (c_terms_of : PySem.W.codeIn K cd_terms_of "terms_of" = true) (k_terms_of : PySem.W.keepIn K (.ref f_terms_of) = true)
    {f_poly_refusal : Addr} {od_poly_refusal an_poly_refusal : Option Addr} {sl_poly_refusal : Array (Option Value)} {oc_poly_refusal kV_poly_refusal dc_poly_refusal pm_poly_refusal cd_poly_refusal ct_poly_refusal : Value}
    (a_poly_refusal : PySem.W.nsIn K mainGlobals "poly_refusal" = some (some (.ref f_poly_refusal))) (l_poly_refusal : K.lookup f_poly_refusal = some ⟨oc_poly_refusal, od_poly_refusal, .func (PySem.W.fnOf "poly_refusal" "poly_refusal" (defArgs s_poly_refusal) (defBody s_poly_refusal) (defScope s_poly_refusal) .none kV_poly_refusal dc_poly_refusal pm_poly_refusal an_poly_refusal cd_poly_refusal ct_poly_refusal), sl_poly_refusal⟩) (c_poly_refusal : PySem.W.codeIn K cd_poly_refusal "poly_refusal" = true) (k_poly_refusal : PySem.W.keepIn K (.ref f_poly_refusal) = true)
    {f_poly_of : Addr} {od_poly_of an_poly_of : Option Addr} {sl_poly_of : Array (Option Value)} {oc_poly_of kV_poly_of dc_poly_of pm_poly_of cd_poly_of ct_poly_of : Value}
    (a_poly_of : PySem.W.nsIn K mainGlobals "poly_of" = some (some (.ref f_poly_of))) (l_poly_of : K.lookup f_poly_of = some ⟨oc_poly_of, od_poly_of, .func (PySem.W.fnOf "poly_of" "poly_of" (defArgs s_poly_of) (defBody s_poly_of) (defScope s_poly_of) .none kV_poly_of dc_poly_of pm_poly_of an_poly_of cd_poly_of ct_poly_of), sl_poly_of⟩) (c_poly_of : PySem.W.codeIn K cd_poly_of "poly_of" = true) (k_poly_of : PySem.W.keepIn K (.ref f_poly_of) = true)
    {f_number_text : Addr} {od_number_text an_number_text : Option Addr} {sl_number_text : Array (Option Value)} {oc_number_text kV_number_text dc_number_text pm_number_text cd_number_text ct_number_text : Value}
    (a_number_text : PySem.W.nsIn K mainGlobals "number_text" = some (some (.ref f_number_text))) (l_number_text : K.lookup f_number_text = some ⟨oc_number_text, od_number_text, .func (PySem.W.fnOf "number_text" "number_text" (defArgs s_number_text) (defBody s_number_text) (defScope s_number_text) .none kV_number_text dc_number_text pm_number_text an_number_text cd_number_text ct_number_text), sl_number_text⟩) (c_number_text : PySem.W.codeIn K cd_number_text "number_text" = true) (k_number_text : PySem.W.keepIn K (.ref f_number_text) = true)
    {f_table_answer : Addr} {od_table_answer an_table_answer : Option Addr} {sl_table_answer : Array (Option Value)} {oc_table_answer kV_table_answer dc_table_answer pm_table_answer cd_table_answer ct_table_answer : Value}
    (a_table_answer : PySem.W.nsIn K mainGlobals "table_answer" = some (some (.ref f_table_answer))) (l_table_answer : K.lookup f_table_answer = some ⟨oc_table_answer, od_table_answer, .func (PySem.W.fnOf "table_answer" "table_answer" (defArgs s_table_answer) (defBody s_table_answer) (defScope s_table_answer) .none kV_table_answer dc_table_answer pm_table_answer an_table_answer cd_table_answer ct_table_answer), sl_table_answer⟩) (c_table_answer : PySem.W.codeIn K cd_table_answer "table_answer" = true) (k_table_answer : PySem.W.keepIn K (.ref f_table_answer) = true)
    {f_answer : Addr} {od_answer an_answer : Option Addr} {sl_answer : Array (Option Value)} {oc_answer kV_answer dc_answer pm_answer cd_answer ct_answer : Value}
    (a_answer : PySem.W.nsIn K mainGlobals "answer" = some (some (.ref f_answer))) (l_answer : K.lookup f_answer = some ⟨oc_answer, od_answer, .func (PySem.W.fnOf "answer" "answer" (defArgs s_answer) (defBody s_answer) (defScope s_answer) .none kV_answer dc_answer pm_answer an_answer cd_answer ct_answer), sl_answer⟩) (c_answer : PySem.W.codeIn K cd_answer "answer" = true) (k_answer : PySem.W.keepIn K (.ref f_answer) = true)
    {f_value : Addr} {od_value an_value : Option Addr} {sl_value : Array (Option Value)} {oc_value kV_value dc_value pm_value cd_value ct_value : Value}
    (a_value : PySem.W.nsIn K mainGlobals "value" = some (some (.ref f_value))) (l_value : K.lookup f_value = some ⟨oc_value, od_value, .func (PySem.W.fnOf "value" "value" (defArgs s_value) (defBody s_value) (defScope s_value) .none kV_value dc_value pm_value an_value cd_value ct_value), sl_value⟩) (c_value : PySem.W.codeIn K cd_value "value" = true) (k_value : PySem.W.keepIn K (.ref f_value) = true)
    (z_abs : PySem.W.nsIn K mainGlobals "abs" = some none)
    (z_all : PySem.W.nsIn K mainGlobals "all" = some none)
    (z_any : PySem.W.nsIn K mainGlobals "any" = some none)
    (z_len : PySem.W.nsIn K mainGlobals "len" = some none)
    (z_list : PySem.W.nsIn K mainGlobals "list" = some none)
    (z_ord : PySem.W.nsIn K mainGlobals "ord" = some none)
    (z_range : PySem.W.nsIn K mainGlobals "range" = some none)
    (z_reversed : PySem.W.nsIn K mainGlobals "reversed" = some none)
    (z_str : PySem.W.nsIn K mainGlobals "str" = some none)
    (z_zip : PySem.W.nsIn K mainGlobals "zip" = some none)
    (dgs : PySem.W.nsIn K cStatics "sys.int_max_str_digits" = some none)
    {x_ZERO : Addr} {xd_ZERO : Option Addr} {xi_ZERO : Array Value} {xn_ZERO : Nat} {xs_ZERO : Array (Option Value)} {xt_ZERO xu_ZERO : Tok} (xa_ZERO : PySem.W.nsIn K mainGlobals "ZERO" = some (some (.ref x_ZERO))) (xl_ZERO : K.lookup x_ZERO = some ⟨.type "tuple", xd_ZERO, .seq xi_ZERO xn_ZERO, xs_ZERO⟩) (xv_ZERO : xi_ZERO = #[.int 0 xt_ZERO, .int 1 xu_ZERO])
    {x_ONE : Addr} {xd_ONE : Option Addr} {xi_ONE : Array Value} {xn_ONE : Nat} {xs_ONE : Array (Option Value)} {xt_ONE xu_ONE : Tok} (xa_ONE : PySem.W.nsIn K mainGlobals "ONE" = some (some (.ref x_ONE))) (xl_ONE : K.lookup x_ONE = some ⟨.type "tuple", xd_ONE, .seq xi_ONE xn_ONE, xs_ONE⟩) (xv_ONE : xi_ONE = #[.int 1 xt_ONE, .int 1 xu_ONE])
    {xt_MINUS : Tok} (xa_MINUS : PySem.W.nsIn K mainGlobals "MINUS" = some (some (.int (45) xt_MINUS)))
    {xt_SLASH : Tok} (xa_SLASH : PySem.W.nsIn K mainGlobals "SLASH" = some (some (.int (47) xt_SLASH)))
    {xt_DIGIT_0 : Tok} (xa_DIGIT_0 : PySem.W.nsIn K mainGlobals "DIGIT_0" = some (some (.int (48) xt_DIGIT_0)))
    {xt_DIGIT_9 : Tok} (xa_DIGIT_9 : PySem.W.nsIn K mainGlobals "DIGIT_9" = some (some (.int (57) xt_DIGIT_9)))
    {xt_MOST : Tok} (xa_MOST : PySem.W.nsIn K mainGlobals "MOST" = some (some (.int (999999) xt_MOST)))
    {x_ROWS : Addr} {xe_ROWS : Array DictEntry} {xn_ROWS : Nat} (xa_ROWS : PySem.W.nsIn K mainGlobals "ROWS" = some (some (.ref x_ROWS))) (xl_ROWS : K.lookup x_ROWS = some ⟨.type "dict", none, .dict xe_ROWS xn_ROWS, #[]⟩) (xo_ROWS : (x_ROWS == sysModules) = false) (xv_ROWS : dictRows xe_ROWS = some [(1, 1), (4, 2), (9, 3), (16, 4)])
    {xt_MOST_ROWS : Tok} (xa_MOST_ROWS : PySem.W.nsIn K mainGlobals "MOST_ROWS" = some (some (.int (4) xt_MOST_ROWS)))
    {xt_NOT_SO_MANY : Tok} (xa_NOT_SO_MANY : PySem.W.nsIn K mainGlobals "NOT_SO_MANY" = some (some (.int (-6) xt_NOT_SO_MANY)))
    {xt_WRONG_TEXT : Tok} (xa_WRONG_TEXT : PySem.W.nsIn K mainGlobals "WRONG_TEXT" = some (some (.int (-1) xt_WRONG_TEXT)))
    {xt_TOO_LARGE : Tok} (xa_TOO_LARGE : PySem.W.nsIn K mainGlobals "TOO_LARGE" = some (some (.int (-2) xt_TOO_LARGE)))
    {xt_BLANK : Tok} (xa_BLANK : PySem.W.nsIn K mainGlobals "BLANK" = some (some (.int (32) xt_BLANK)))
    {xt_STAR : Tok} (xa_STAR : PySem.W.nsIn K mainGlobals "STAR" = some (some (.int (42) xt_STAR)))
    {xt_PLUS : Tok} (xa_PLUS : PySem.W.nsIn K mainGlobals "PLUS" = some (some (.int (43) xt_PLUS)))
    {xt_CARET : Tok} (xa_CARET : PySem.W.nsIn K mainGlobals "CARET" = some (some (.int (94) xt_CARET)))
    {xt_LETTER_X : Tok} (xa_LETTER_X : PySem.W.nsIn K mainGlobals "LETTER_X" = some (some (.int (120) xt_LETTER_X)))
    {xt_HIGHEST : Tok} (xa_HIGHEST : PySem.W.nsIn K mainGlobals "HIGHEST" = some (some (.int (8) xt_HIGHEST)))
    : ∃ fd : FuncData, (∀ (s : Shared) (us : List Value), us.length = (["n", "texts"] : List Str).length → BindsTo s fd ⟨us, []⟩ ((["n", "texts"] : List Str).zip us)) ∧ ∀ base : Heap, K.In base → base.Ns mainGlobals mg → FnOk P w K mg base CX0 7 fa fd ["n", "texts"] (spTop2 K dueValue) := by
  have e : some (Value.ref f_value) = some (Value.ref fa) := (PySem.W.mg_of X G a_value).symm.trans hfa
  have e2 : f_value = fa := Value.ref.inj (Option.some.inj e)
  subst e2
  have F_whole_common := fun_mk (st := s_whole_common) l_whole_common c_whole_common k_whole_common
  have D_whole_common : D K mg "whole_common" s_whole_common ["first", "second"] f_whole_common _ := ⟨F_whole_common, F_whole_common.binds fun _ _ _ _ _ _ us hl => match us, hl with | [_, _], _ => rfl, PySem.W.mg_of X G a_whole_common⟩
  have F_lowest := fun_mk (st := s_lowest) l_lowest c_lowest k_lowest
  have D_lowest : D K mg "lowest" s_lowest ["top", "bottom"] f_lowest _ := ⟨F_lowest, F_lowest.binds fun _ _ _ _ _ _ us hl => match us, hl with | [_, _], _ => rfl, PySem.W.mg_of X G a_lowest⟩
  have F_ratio_sum := fun_mk (st := s_ratio_sum) l_ratio_sum c_ratio_sum k_ratio_sum
  have D_ratio_sum : D K mg "ratio_sum" s_ratio_sum ["first", "second"] f_ratio_sum _ := ⟨F_ratio_sum, F_ratio_sum.binds fun _ _ _ _ _ _ us hl => match us, hl with | [_, _], _ => rfl, PySem.W.mg_of X G a_ratio_sum⟩
  have F_ratio_minus := fun_mk (st := s_ratio_minus) l_ratio_minus c_ratio_minus k_ratio_minus
  have D_ratio_minus : D K mg "ratio_minus" s_ratio_minus ["number"] f_ratio_minus _ := ⟨F_ratio_minus, F_ratio_minus.binds fun _ _ _ _ _ _ us hl => match us, hl with | [_], _ => rfl, PySem.W.mg_of X G a_ratio_minus⟩
  have F_ratio_product := fun_mk (st := s_ratio_product) l_ratio_product c_ratio_product k_ratio_product
  have D_ratio_product : D K mg "ratio_product" s_ratio_product ["first", "second"] f_ratio_product _ := ⟨F_ratio_product, F_ratio_product.binds fun _ _ _ _ _ _ us hl => match us, hl with | [_, _], _ => rfl, PySem.W.mg_of X G a_ratio_product⟩
  have F_empty_table := fun_mk (st := s_empty_table) l_empty_table c_empty_table k_empty_table
  have D_empty_table : D K mg "empty_table" s_empty_table ["size"] f_empty_table _ := ⟨F_empty_table, F_empty_table.binds fun _ _ _ _ _ _ us hl => match us, hl with | [_], _ => rfl, PySem.W.mg_of X G a_empty_table⟩
  have F_row_times := fun_mk (st := s_row_times) l_row_times c_row_times k_row_times
  have D_row_times : D K mg "row_times" s_row_times ["row", "vector"] f_row_times _ := ⟨F_row_times, F_row_times.binds fun _ _ _ _ _ _ us hl => match us, hl with | [_, _], _ => rfl, PySem.W.mg_of X G a_row_times⟩
  have F_column_of := fun_mk (st := s_column_of) l_column_of c_column_of k_column_of
  have D_column_of : D K mg "column_of" s_column_of ["table", "at"] f_column_of _ := ⟨F_column_of, F_column_of.binds fun _ _ _ _ _ _ us hl => match us, hl with | [_, _], _ => rfl, PySem.W.mg_of X G a_column_of⟩
  have F_table_product := fun_mk (st := s_table_product) l_table_product c_table_product k_table_product
  have D_table_product : D K mg "table_product" s_table_product ["left", "right"] f_table_product _ := ⟨F_table_product, F_table_product.binds fun _ _ _ _ _ _ us hl => match us, hl with | [_, _], _ => rfl, PySem.W.mg_of X G a_table_product⟩
  have F_poly_at := fun_mk (st := s_poly_at) l_poly_at c_poly_at k_poly_at
  have D_poly_at : D K mg "poly_at" s_poly_at ["p", "table"] f_poly_at _ := ⟨F_poly_at, F_poly_at.binds fun _ _ _ _ _ _ us hl => match us, hl with | [_, _], _ => rfl, PySem.W.mg_of X G a_poly_at⟩
  have F_trimmed := fun_mk (st := s_trimmed) l_trimmed c_trimmed k_trimmed
  have D_trimmed : D K mg "trimmed" s_trimmed ["numbers"] f_trimmed _ := ⟨F_trimmed, F_trimmed.binds fun _ _ _ _ _ _ us hl => match us, hl with | [_], _ => rfl, PySem.W.mg_of X G a_trimmed⟩
  have F_whole_of := fun_mk (st := s_whole_of) l_whole_of c_whole_of k_whole_of
  have D_whole_of : D K mg "whole_of" s_whole_of ["digits"] f_whole_of _ := ⟨F_whole_of, F_whole_of.binds fun _ _ _ _ _ _ us hl => match us, hl with | [_], _ => rfl, PySem.W.mg_of X G a_whole_of⟩
  have F_unsigned_of := fun_mk (st := s_unsigned_of) l_unsigned_of c_unsigned_of k_unsigned_of
  have D_unsigned_of : D K mg "unsigned_of" s_unsigned_of ["text"] f_unsigned_of _ := ⟨F_unsigned_of, F_unsigned_of.binds fun _ _ _ _ _ _ us hl => match us, hl with | [_], _ => rfl, PySem.W.mg_of X G a_unsigned_of⟩
  have F_number_of := fun_mk (st := s_number_of) l_number_of c_number_of k_number_of
  have D_number_of : D K mg "number_of" s_number_of ["text"] f_number_of _ := ⟨F_number_of, F_number_of.binds fun _ _ _ _ _ _ us hl => match us, hl with | [_], _ => rfl, PySem.W.mg_of X G a_number_of⟩
  have F_numbers_of := fun_mk (st := s_numbers_of) l_numbers_of c_numbers_of k_numbers_of
  have D_numbers_of : D K mg "numbers_of" s_numbers_of ["texts"] f_numbers_of _ := ⟨F_numbers_of, F_numbers_of.binds fun _ _ _ _ _ _ us hl => match us, hl with | [_], _ => rfl, PySem.W.mg_of X G a_numbers_of⟩
  have F_is_long := fun_mk (st := s_is_long) l_is_long c_is_long k_is_long
  have D_is_long : D K mg "is_long" s_is_long ["number"] f_is_long _ := ⟨F_is_long, F_is_long.binds fun _ _ _ _ _ _ us hl => match us, hl with | [_], _ => rfl, PySem.W.mg_of X G a_is_long⟩
  have F_numbers_refusal := fun_mk (st := s_numbers_refusal) l_numbers_refusal c_numbers_refusal k_numbers_refusal
  have D_numbers_refusal : D K mg "numbers_refusal" s_numbers_refusal ["texts"] f_numbers_refusal _ := ⟨F_numbers_refusal, F_numbers_refusal.binds fun _ _ _ _ _ _ us hl => match us, hl with | [_], _ => rfl, PySem.W.mg_of X G a_numbers_refusal⟩
  have F_counted_refusal := fun_mk (st := s_counted_refusal) l_counted_refusal c_counted_refusal k_counted_refusal
  have D_counted_refusal : D K mg "counted_refusal" s_counted_refusal ["n", "texts", "count"] f_counted_refusal _ := ⟨F_counted_refusal, F_counted_refusal.binds fun _ _ _ _ _ _ us hl => match us, hl with | [_, _, _], _ => rfl, PySem.W.mg_of X G a_counted_refusal⟩
  have F_table_of := fun_mk (st := s_table_of) l_table_of c_table_of k_table_of
  have D_table_of : D K mg "table_of" s_table_of ["texts"] f_table_of _ := ⟨F_table_of, F_table_of.binds fun _ _ _ _ _ _ us hl => match us, hl with | [_], _ => rfl, PySem.W.mg_of X G a_table_of⟩
  have F_power_of := fun_mk (st := s_power_of) l_power_of c_power_of k_power_of
  have D_power_of : D K mg "power_of" s_power_of ["text"] f_power_of _ := ⟨F_power_of, F_power_of.binds fun _ _ _ _ _ _ us hl => match us, hl with | [_], _ => rfl, PySem.W.mg_of X G a_power_of⟩
  have F_factor_of := fun_mk (st := s_factor_of) l_factor_of c_factor_of k_factor_of
  have D_factor_of : D K mg "factor_of" s_factor_of ["text"] f_factor_of _ := ⟨F_factor_of, F_factor_of.binds fun _ _ _ _ _ _ us hl => match us, hl with | [_], _ => rfl, PySem.W.mg_of X G a_factor_of⟩
  have F_term_of := fun_mk (st := s_term_of) l_term_of c_term_of k_term_of
  have D_term_of : D K mg "term_of" s_term_of ["piece"] f_term_of _ := ⟨F_term_of, F_term_of.binds fun _ _ _ _ _ _ us hl => match us, hl with | [_], _ => rfl, PySem.W.mg_of X G a_term_of⟩
  have F_pieces_of := fun_mk (st := s_pieces_of) l_pieces_of c_pieces_of k_pieces_of
  have D_pieces_of : D K mg "pieces_of" s_pieces_of ["text"] f_pieces_of _ := ⟨F_pieces_of, F_pieces_of.binds fun _ _ _ _ _ _ us hl => match us, hl with | [_], _ => rfl, PySem.W.mg_of X G a_pieces_of⟩
  have F_signed_pieces := fun_mk (st := s_signed_pieces) l_signed_pieces c_signed_pieces k_signed_pieces
  have D_signed_pieces : D K mg "signed_pieces" s_signed_pieces ["text"] f_signed_pieces _ := ⟨F_signed_pieces, F_signed_pieces.binds fun _ _ _ _ _ _ us hl => match us, hl with | [_], _ => rfl, PySem.W.mg_of X G a_signed_pieces⟩
  have F_falling := fun_mk (st := s_falling) l_falling c_falling k_falling
  have D_falling : D K mg "falling" s_falling ["powers"] f_falling _ := ⟨F_falling, F_falling.binds fun _ _ _ _ _ _ us hl => match us, hl with | [_], _ => rfl, PySem.W.mg_of X G a_falling⟩
  have F_terms_of := fun_mk (st := s_terms_of) l_terms_of c_terms_of k_terms_of
  have D_terms_of : D K mg "terms_of" s_terms_of ["text"] f_terms_of _ := ⟨F_terms_of, F_terms_of.binds fun _ _ _ _ _ _ us hl => match us, hl with | [_], _ => rfl, PySem.W.mg_of X G a_terms_of⟩
  have F_poly_refusal := fun_mk (st := s_poly_refusal) l_poly_refusal c_poly_refusal k_poly_refusal
  have D_poly_refusal : D K mg "poly_refusal" s_poly_refusal ["text"] f_poly_refusal _ := ⟨F_poly_refusal, F_poly_refusal.binds fun _ _ _ _ _ _ us hl => match us, hl with | [_], _ => rfl, PySem.W.mg_of X G a_poly_refusal⟩
  have F_poly_of := fun_mk (st := s_poly_of) l_poly_of c_poly_of k_poly_of
  have D_poly_of : D K mg "poly_of" s_poly_of ["text"] f_poly_of _ := ⟨F_poly_of, F_poly_of.binds fun _ _ _ _ _ _ us hl => match us, hl with | [_], _ => rfl, PySem.W.mg_of X G a_poly_of⟩
  have F_number_text := fun_mk (st := s_number_text) l_number_text c_number_text k_number_text
  have D_number_text : D K mg "number_text" s_number_text ["number"] f_number_text _ := ⟨F_number_text, F_number_text.binds fun _ _ _ _ _ _ us hl => match us, hl with | [_], _ => rfl, PySem.W.mg_of X G a_number_text⟩
  have F_table_answer := fun_mk (st := s_table_answer) l_table_answer c_table_answer k_table_answer
  have D_table_answer : D K mg "table_answer" s_table_answer ["table"] f_table_answer _ := ⟨F_table_answer, F_table_answer.binds fun _ _ _ _ _ _ us hl => match us, hl with | [_], _ => rfl, PySem.W.mg_of X G a_table_answer⟩
  have F_answer := fun_mk (st := s_answer) l_answer c_answer k_answer
  have D_answer : D K mg "answer" s_answer ["first", "texts"] f_answer _ := ⟨F_answer, F_answer.binds fun _ _ _ _ _ _ us hl => match us, hl with | [_, _], _ => rfl, PySem.W.mg_of X G a_answer⟩
  have F_value := fun_mk (st := s_value) l_value c_value k_value
  have D_value : D K mg "value" s_value ["n", "texts"] f_value _ := ⟨F_value, F_value.binds fun _ _ _ _ _ _ us hl => match us, hl with | [_, _], _ => rfl, PySem.W.mg_of X G a_value⟩
  let T : Txt K mg := {
    f_whole_common := f_whole_common, e_whole_common := _, d_whole_common := D_whole_common,
    f_lowest := f_lowest, e_lowest := _, d_lowest := D_lowest,
    f_ratio_sum := f_ratio_sum, e_ratio_sum := _, d_ratio_sum := D_ratio_sum,
    f_ratio_minus := f_ratio_minus, e_ratio_minus := _, d_ratio_minus := D_ratio_minus,
    f_ratio_product := f_ratio_product, e_ratio_product := _, d_ratio_product := D_ratio_product,
    f_empty_table := f_empty_table, e_empty_table := _, d_empty_table := D_empty_table,
    f_row_times := f_row_times, e_row_times := _, d_row_times := D_row_times,
    f_column_of := f_column_of, e_column_of := _, d_column_of := D_column_of,
    f_table_product := f_table_product, e_table_product := _, d_table_product := D_table_product,
    f_poly_at := f_poly_at, e_poly_at := _, d_poly_at := D_poly_at,
    f_trimmed := f_trimmed, e_trimmed := _, d_trimmed := D_trimmed,
    f_whole_of := f_whole_of, e_whole_of := _, d_whole_of := D_whole_of,
    f_unsigned_of := f_unsigned_of, e_unsigned_of := _, d_unsigned_of := D_unsigned_of,
    f_number_of := f_number_of, e_number_of := _, d_number_of := D_number_of,
    f_numbers_of := f_numbers_of, e_numbers_of := _, d_numbers_of := D_numbers_of,
    f_is_long := f_is_long, e_is_long := _, d_is_long := D_is_long,
    f_numbers_refusal := f_numbers_refusal, e_numbers_refusal := _, d_numbers_refusal := D_numbers_refusal,
    f_counted_refusal := f_counted_refusal, e_counted_refusal := _, d_counted_refusal := D_counted_refusal,
    f_table_of := f_table_of, e_table_of := _, d_table_of := D_table_of,
    f_power_of := f_power_of, e_power_of := _, d_power_of := D_power_of,
    f_factor_of := f_factor_of, e_factor_of := _, d_factor_of := D_factor_of,
    f_term_of := f_term_of, e_term_of := _, d_term_of := D_term_of,
    f_pieces_of := f_pieces_of, e_pieces_of := _, d_pieces_of := D_pieces_of,
    f_signed_pieces := f_signed_pieces, e_signed_pieces := _, d_signed_pieces := D_signed_pieces,
    f_falling := f_falling, e_falling := _, d_falling := D_falling,
    f_terms_of := f_terms_of, e_terms_of := _, d_terms_of := D_terms_of,
    f_poly_refusal := f_poly_refusal, e_poly_refusal := _, d_poly_refusal := D_poly_refusal,
    f_poly_of := f_poly_of, e_poly_of := _, d_poly_of := D_poly_of,
    f_number_text := f_number_text, e_number_text := _, d_number_text := D_number_text,
    f_table_answer := f_table_answer, e_table_answer := _, d_table_answer := D_table_answer,
    f_answer := f_answer, e_answer := _, d_answer := D_answer,
    f_value := f_value, e_value := _, d_value := D_value,
    z_abs := PySem.W.mg_none_of X G z_abs,
    z_all := PySem.W.mg_none_of X G z_all,
    z_any := PySem.W.mg_none_of X G z_any,
    z_len := PySem.W.mg_none_of X G z_len,
    z_list := PySem.W.mg_none_of X G z_list,
    z_ord := PySem.W.mg_none_of X G z_ord,
    z_range := PySem.W.mg_none_of X G z_range,
    z_reversed := PySem.W.mg_none_of X G z_reversed,
    z_str := PySem.W.mg_none_of X G z_str,
    z_zip := PySem.W.mg_none_of X G z_zip,
    dgs := dgs,
    a_ZERO := x_ZERO, g_ZERO := PySem.W.mg_of X G xa_ZERO, t_ZERO := fun H => .inr ⟨_, _, _, xl_ZERO, rfl, rfl, by rw [xv_ZERO]; show 2 ≤ sizeLine; decide, by rw [xv_ZERO]; exact .cons ⟨_, rfl⟩ (.cons ⟨_, rfl⟩ .nil)⟩,
    a_ONE := x_ONE, g_ONE := PySem.W.mg_of X G xa_ONE, t_ONE := fun H => .inr ⟨_, _, _, xl_ONE, rfl, rfl, by rw [xv_ONE]; show 2 ≤ sizeLine; decide, by rw [xv_ONE]; exact .cons ⟨_, rfl⟩ (.cons ⟨_, rfl⟩ .nil)⟩,
    g_MINUS := ⟨_, PySem.W.mg_of X G xa_MINUS⟩,
    g_SLASH := ⟨_, PySem.W.mg_of X G xa_SLASH⟩,
    g_DIGIT_0 := ⟨_, PySem.W.mg_of X G xa_DIGIT_0⟩,
    g_DIGIT_9 := ⟨_, PySem.W.mg_of X G xa_DIGIT_9⟩,
    g_MOST := ⟨_, PySem.W.mg_of X G xa_MOST⟩,
    a_ROWS := x_ROWS, g_ROWS := PySem.W.mg_of X G xa_ROWS, e_ROWS := xe_ROWS, m_ROWS := xn_ROWS, l_ROWS := xl_ROWS, o_ROWS := xo_ROWS, v_ROWS := xv_ROWS,
    g_MOST_ROWS := ⟨_, PySem.W.mg_of X G xa_MOST_ROWS⟩,
    g_NOT_SO_MANY := ⟨_, PySem.W.mg_of X G xa_NOT_SO_MANY⟩,
    g_WRONG_TEXT := ⟨_, PySem.W.mg_of X G xa_WRONG_TEXT⟩,
    g_TOO_LARGE := ⟨_, PySem.W.mg_of X G xa_TOO_LARGE⟩,
    g_BLANK := ⟨_, PySem.W.mg_of X G xa_BLANK⟩,
    g_STAR := ⟨_, PySem.W.mg_of X G xa_STAR⟩,
    g_PLUS := ⟨_, PySem.W.mg_of X G xa_PLUS⟩,
    g_CARET := ⟨_, PySem.W.mg_of X G xa_CARET⟩,
    g_LETTER_X := ⟨_, PySem.W.mg_of X G xa_LETTER_X⟩,
    g_HIGHEST := ⟨_, PySem.W.mg_of X G xa_HIGHEST⟩ }
  exact ⟨PySem.W.fnOf "value" "value" (defArgs s_value) (defBody s_value) (defScope s_value) .none kV_value dc_value pm_value an_value cd_value ct_value, fun s us hu => match us, hu with | [_, _], _ => .of_eq rfl, fun base _ _ => ok_value T⟩
theorem int_dw {K : PySem.W.Frag} {H : Hp} {v : V} {i : Int} (h : Dw K H v (WData.int i)) : v = .int i := by
  cases h; rfl
theorem inI {lo hi i : Int} (h : Codec.inInt lo hi i = true) : lo ≤ i ∧ i ≤ hi := by
  unfold Codec.inInt at h
  rw [Bool.and_eq_true, decide_eq_true_eq, decide_eq_true_eq] at h
  exact h
end W
open PySem PySem.W PyProof.Rows
set_option maxRecDepth 100000 in
set_option maxHeartbeats 0 in
theorem PySem.Challenge.cw_tablesalike_s05_value_holds : PySem.Challenge.rw_tablesalike_s05_value.Holds := by
  w_on; k_headS; (case hw => exact ⟨[.int 0, .list []], by decide +kernel, by decide +kernel⟩)
  k_fillS
  refine L2.walk_specK (r := PySem.Challenge.rw_tablesalike_s05_value) (k := 7) (CX := L2.CX0) (ps := ["n", "texts"]) (sp := fun K => W.spTop2 K W.dueValue) (by decide +kernel) rfl rfl ⟨rfl, by decide, by decide⟩ (fun w h Y => PySem.W.kIn_of Y) ?F ?S (fun _ _ _ _ z => z)
  case F =>
    intro w mg fa h Y KX G hmg
    refine' W.all_mk KX G hmg ?a_whole_common ?l_whole_common ?c_whole_common ?k_whole_common ?a_lowest ?l_lowest ?c_lowest ?k_lowest ?a_ratio_sum ?l_ratio_sum ?c_ratio_sum ?k_ratio_sum ?a_ratio_minus ?l_ratio_minus ?c_ratio_minus ?k_ratio_minus ?a_ratio_product ?l_ratio_product ?c_ratio_product ?k_ratio_product ?a_empty_table ?l_empty_table ?c_empty_table ?k_empty_table ?a_row_times ?l_row_times ?c_row_times ?k_row_times ?a_column_of ?l_column_of ?c_column_of ?k_column_of ?a_table_product ?l_table_product ?c_table_product ?k_table_product ?a_poly_at ?l_poly_at ?c_poly_at ?k_poly_at ?a_trimmed ?l_trimmed ?c_trimmed ?k_trimmed ?a_whole_of ?l_whole_of ?c_whole_of ?k_whole_of ?a_unsigned_of ?l_unsigned_of ?c_unsigned_of ?k_unsigned_of ?a_number_of ?l_number_of ?c_number_of ?k_number_of ?a_numbers_of ?l_numbers_of ?c_numbers_of ?k_numbers_of ?a_is_long ?l_is_long ?c_is_long ?k_is_long ?a_numbers_refusal ?l_numbers_refusal ?c_numbers_refusal ?k_numbers_refusal ?a_counted_refusal ?l_counted_refusal ?c_counted_refusal ?k_counted_refusal ?a_table_of ?l_table_of ?c_table_of ?k_table_of ?a_power_of ?l_power_of ?c_power_of ?k_power_of ?a_factor_of ?l_factor_of ?c_factor_of ?k_factor_of ?a_term_of ?l_term_of ?c_term_of ?k_term_of ?a_pieces_of ?l_pieces_of ?c_pieces_of ?k_pieces_of ?a_signed_pieces ?l_signed_pieces ?c_signed_pieces ?k_signed_pieces ?a_falling ?l_falling ?c_falling ?k_falling ?a_terms_of ?l_terms_of ?c_terms_of ?k_terms_of ?a_poly_refusal ?l_poly_refusal ?c_poly_refusal ?k_poly_refusal ?a_poly_of ?l_poly_of ?c_poly_of ?k_poly_of ?a_number_text ?l_number_text ?c_number_text ?k_number_text ?a_table_answer ?l_table_answer ?c_table_answer ?k_table_answer ?a_answer ?l_answer ?c_answer ?k_answer ?a_value ?l_value ?c_value ?k_value ?z_abs ?z_all ?z_any ?z_len ?z_list ?z_ord ?z_range ?z_reversed ?z_str ?z_zip ?dgs ?xa_ZERO ?xl_ZERO ?xv_ZERO ?xa_ONE ?xl_ONE ?xv_ONE ?xa_MINUS ?xa_SLASH ?xa_DIGIT_0 ?xa_DIGIT_9 ?xa_MOST ?xa_ROWS ?xl_ROWS ?xo_ROWS ?xv_ROWS ?xa_MOST_ROWS ?xa_NOT_SO_MANY ?xa_WRONG_TEXT ?xa_TOO_LARGE ?xa_BLANK ?xa_STAR ?xa_PLUS ?xa_CARET ?xa_LETTER_X ?xa_HIGHEST
    (case a_whole_common => k_is)
    (case l_whole_common => k_is)
    (case c_whole_common => k_is)
    (case k_whole_common => k_is)
    (case a_lowest => k_is)
    (case l_lowest => k_is)
    (case c_lowest => k_is)
    (case k_lowest => k_is)
    (case a_ratio_sum => k_is)
    (case l_ratio_sum => k_is)
    (case c_ratio_sum => k_is)
    (case k_ratio_sum => k_is)
    (case a_ratio_minus => k_is)
    (case l_ratio_minus => k_is)
    (case c_ratio_minus => k_is)
    (case k_ratio_minus => k_is)
    (case a_ratio_product => k_is)
    (case l_ratio_product => k_is)
    (case c_ratio_product => k_is)
    (case k_ratio_product => k_is)
    (case a_empty_table => k_is)
    (case l_empty_table => k_is)
    (case c_empty_table => k_is)
    (case k_empty_table => k_is)
    (case a_row_times => k_is)
    (case l_row_times => k_is)
    (case c_row_times => k_is)
    (case k_row_times => k_is)
    (case a_column_of => k_is)
    (case l_column_of => k_is)
    (case c_column_of => k_is)
    (case k_column_of => k_is)
    (case a_table_product => k_is)
    (case l_table_product => k_is)
    (case c_table_product => k_is)
    (case k_table_product => k_is)
    (case a_poly_at => k_is)
    (case l_poly_at => k_is)
    (case c_poly_at => k_is)
    (case k_poly_at => k_is)
    (case a_trimmed => k_is)
    (case l_trimmed => k_is)
    (case c_trimmed => k_is)
    (case k_trimmed => k_is)
    (case a_whole_of => k_is)
    (case l_whole_of => k_is)
    (case c_whole_of => k_is)
    (case k_whole_of => k_is)
    (case a_unsigned_of => k_is)
    (case l_unsigned_of => k_is)
    (case c_unsigned_of => k_is)
    (case k_unsigned_of => k_is)
    (case a_number_of => k_is)
    (case l_number_of => k_is)
    (case c_number_of => k_is)
    (case k_number_of => k_is)
    (case a_numbers_of => k_is)
    (case l_numbers_of => k_is)
    (case c_numbers_of => k_is)
    (case k_numbers_of => k_is)
    (case a_is_long => k_is)
    (case l_is_long => k_is)
    (case c_is_long => k_is)
    (case k_is_long => k_is)
    (case a_numbers_refusal => k_is)
    (case l_numbers_refusal => k_is)
    (case c_numbers_refusal => k_is)
    (case k_numbers_refusal => k_is)
    (case a_counted_refusal => k_is)
    (case l_counted_refusal => k_is)
    (case c_counted_refusal => k_is)
    (case k_counted_refusal => k_is)
    (case a_table_of => k_is)
    (case l_table_of => k_is)
    (case c_table_of => k_is)
    (case k_table_of => k_is)
    (case a_power_of => k_is)
    (case l_power_of => k_is)
    (case c_power_of => k_is)
    (case k_power_of => k_is)
    (case a_factor_of => k_is)
    (case l_factor_of => k_is)
    (case c_factor_of => k_is)
    (case k_factor_of => k_is)
    (case a_term_of => k_is)
    (case l_term_of => k_is)
    (case c_term_of => k_is)
    (case k_term_of => k_is)
    (case a_pieces_of => k_is)
    (case l_pieces_of => k_is)
    (case c_pieces_of => k_is)
    (case k_pieces_of => k_is)
    (case a_signed_pieces => k_is)
    (case l_signed_pieces => k_is)
    (case c_signed_pieces => k_is)
    (case k_signed_pieces => k_is)
    (case a_falling => k_is)
    (case l_falling => k_is)
    (case c_falling => k_is)
    (case k_falling => k_is)
    (case a_terms_of => k_is)
    (case l_terms_of => k_is)
    (case c_terms_of => k_is)
    (case k_terms_of => k_is)
    (case a_poly_refusal => k_is)
    (case l_poly_refusal => k_is)
    (case c_poly_refusal => k_is)
    (case k_poly_refusal => k_is)
    (case a_poly_of => k_is)
    (case l_poly_of => k_is)
    (case c_poly_of => k_is)
    (case k_poly_of => k_is)
    (case a_number_text => k_is)
    (case l_number_text => k_is)
    (case c_number_text => k_is)
    (case k_number_text => k_is)
    (case a_table_answer => k_is)
    (case l_table_answer => k_is)
    (case c_table_answer => k_is)
    (case k_table_answer => k_is)
    (case a_answer => k_is)
    (case l_answer => k_is)
    (case c_answer => k_is)
    (case k_answer => k_is)
    (case a_value => k_is)
    (case l_value => k_is)
    (case c_value => k_is)
    (case k_value => k_is)
    (case z_abs => k_is)
    (case z_all => k_is)
    (case z_any => k_is)
    (case z_len => k_is)
    (case z_list => k_is)
    (case z_ord => k_is)
    (case z_range => k_is)
    (case z_reversed => k_is)
    (case z_str => k_is)
    (case z_zip => k_is)
    (case dgs => k_is)
    (case xa_ZERO => k_is)
    (case xl_ZERO => k_is)
    (case xv_ZERO => rfl)
    (case xa_ONE => k_is)
    (case xl_ONE => k_is)
    (case xv_ONE => rfl)
    (case xa_MINUS => k_is)
    (case xa_SLASH => k_is)
    (case xa_DIGIT_0 => k_is)
    (case xa_DIGIT_9 => k_is)
    (case xa_MOST => k_is)
    (case xa_ROWS => k_is)
    (case xl_ROWS => k_is)
    (case xo_ROWS => rfl)
    (case xv_ROWS => decide +kernel)
    (case xa_MOST_ROWS => k_is)
    (case xa_NOT_SO_MANY => k_is)
    (case xa_WRONG_TEXT => k_is)
    (case xa_TOO_LARGE => k_is)
    (case xa_BLANK => k_is)
    (case xa_STAR => k_is)
    (case xa_PLUS => k_is)
    (case xa_CARET => k_is)
    (case xa_LETTER_X => k_is)
    (case xa_HIGHEST => k_is)
  case S =>
    intro K H xs a hO hwi hask hx
    cases hx with
    | cons h0 h12 =>
    cases h12 with
    | cons h1 h2 =>
      cases h2
      have hn := W.int_dw h0
      cases h1 with
      | lst hs ha =>
        have q : (Codec.inInt 0 4294967295 a.1 && ((Codec.inLen 0 24 a.2.1 && a.2.1.all (fun l => Codec.inLen 0 1000 l && l.all (Codec.inInt 0 255))) && true)) = true := hwi
        rw [Bool.and_eq_true, Bool.and_eq_true, Bool.and_eq_true] at q
        have hni := W.inI q.1
        have hlen : a.2.1.length ≤ 24 := (Codec.inNat_iff.mp q.2.1.1).2
        have hrow := W.rows_in q.2.1.2
        have hT := W.texts_dw a.2.1 _ (fun l hl => (hrow l hl).2) ha
        have hna : ((a.1.toNat : Nat) : Int) = a.1 := Int.toNat_of_nonneg hni.1
        refine ⟨_, _, a.2.1.map W.unZ, a.1.toNat, by rw [hn, hna], by omega, hs, hT, W.unZ_len hrow, by rw [List.length_map]; omega, fun H' p hp => ?_⟩
        have e : PyAl09.value a.1 a.2.1 = W.dueValue a.1.toNat (a.2.1.map W.unZ) := by
          rw [← W.due_eq, W.unZ_all hrow, hna]
        have hr2 : L2.Dw K H' (.ref p) (WData.list ((PyAl09.value a.1 a.2.1).map WData.int)) := by
          rw [e]
          exact .lst (L2.SqL.of hp) (L2.dw_ints _)
        exact hr2
#print axioms PySem.Challenge.cw_tablesalike_s05_value_holds
